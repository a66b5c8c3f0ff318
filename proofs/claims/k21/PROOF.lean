import PyProof.Rows.All
import Wide.All
import OpenK.AllK
import Wide.FinOn
import HandS.ForMost
import HandS.Style
import HandS.TupAny
import HandS.IsInst
import HandS.Flow
import HandS.Conv
import HandS.TryOnly
import HandS.ExcOwn
import HandS.ExcIs
import HandS.WordsExc
import PyProof.ListStr
import HandS.Codes
import HandS.Text
import HandS.Deep
import HandS.Steps
import HandS.Strs
import HandS.SetKeys
import HandS.WrittenGet
import HandS.Set
import HandS.SetTxt0
import HandS.SetFor
import PySem.Challenge.RW_hewstream_k21_texts_of_contents
set_option Elab.async false
set_option linter.all false
set_option maxRecDepth 100000
/-! Rf: values by trees and places, and what each construct reckons over them. -/
namespace Rg
open PySem PySem.Spec PyProof.Rows L2

inductive D where
  | non | bl (b : Bool) | int (i : Int) | str (x : Str) | tup (ds : List D) | loc (n : Nat) | cl (ds : List D)
inductive O where
  | lst (ds : List D) | dct (kvs : List (Key × D)) | ins (C : Addr) (fs : List (Str × D))
abbrev Stt := List O

/-- a list that nobody changes: the script, a list of the module -/
def CL (K : PySem.W.Frag) (H : Hp) (a : Addr) (xs : List V) : Prop := (∃ o, H a = some (.frz o (.lst xs))) ∨
  ∃ (o : Obj) (its : Array Value) (n : Nat), K.lookup a = some o ∧ o.cls = .type "list" ∧ o.dict = none ∧ o.data = .seq its n ∧ its.size ≤ sizeLine ∧ Vals xs its.toList
theorem CL.sq {K : PySem.W.Frag} {H : Hp} {a : Addr} {xs : List V} (h : CL K H a xs) : SqL K H a xs := h.imp (fun h => .inr h) id
mutual
inductive Rl (K : PySem.W.Frag) (H : Hp) (μ : List Addr) : D → V → Prop
  | non : Rl K H μ .non .non
  | bl (b : Bool) : Rl K H μ (.bl b) (.bl b)
  | int (i : Int) : Rl K H μ (.int i) (.int i)
  | str (x : Str) : Rl K H μ (.str x) (.str x)
  | tup {ds : List D} {a : Addr} {vs : List V} : SqT K H a vs → Rls K H μ ds vs → Rl K H μ (.tup ds) (.ref a)
  | loc {n : Nat} {a : Addr} : μ[n]? = some a → Rl K H μ (.loc n) (.ref a)
  | cl {ds : List D} {a : Addr} {vs : List V} : CL K H a vs → Rls K H μ ds vs → Rl K H μ (.cl ds) (.ref a)
inductive Rls (K : PySem.W.Frag) (H : Hp) (μ : List Addr) : List D → List V → Prop
  | nil : Rls K H μ [] []
  | cons {d : D} {v : V} {ds : List D} {vs : List V} : Rl K H μ d v → Rls K H μ ds vs → Rls K H μ (d :: ds) (v :: vs)
end

structure Ext (K : PySem.W.Frag) (H : Hp) (μ : List Addr) (H' : Hp) (μ' : List Addr) : Prop where
  tups : ∀ a vs, SqT K H a vs → SqT K H' a vs
  cls : ∀ a vs, CL K H a vs → CL K H' a vs
  more : ∃ l, μ' = μ ++ l
variable {K : PySem.W.Frag}
theorem Ext.refl (H : Hp) (μ : List Addr) : Ext K H μ H μ := ⟨fun _ _ h => h, fun _ _ h => h, [], by simp⟩
theorem Ext.trans {H H1 H2 : Hp} {μ μ1 μ2 : List Addr} (a : Ext K H μ H1 μ1) (b : Ext K H1 μ1 H2 μ2) : Ext K H μ H2 μ2 := by
  obtain ⟨l, e⟩ := a.more
  obtain ⟨m, f⟩ := b.more
  exact ⟨fun c vs h => b.tups c vs (a.tups c vs h), fun c vs h => b.cls c vs (a.cls c vs h), l ++ m, by rw [f, e, List.append_assoc]⟩
theorem Ext.get {H H' : Hp} {μ μ' : List Addr} (e : Ext K H μ H' μ') {n : Nat} {a : Addr} (h : μ[n]? = some a) : μ'[n]? = some a := by
  obtain ⟨l, rfl⟩ := e.more
  have : n < μ.length := (List.getElem?_eq_some_iff.mp h).1
  rw [List.getElem?_append_left this]
  exact h
mutual
theorem Rl.ext {H H' : Hp} {μ μ' : List Addr} (e : Ext K H μ H' μ') : ∀ {d : D} {v : V}, Rl K H μ d v → Rl K H' μ' d v
  | _, _, .non => .non
  | _, _, .bl b => .bl b
  | _, _, .int i => .int i
  | _, _, .str x => .str x
  | _, _, .tup h r => .tup (e.tups _ _ h) (Rls.ext e r)
  | _, _, .loc h => .loc (e.get h)
  | _, _, .cl h r => .cl (e.cls _ _ h) (Rls.ext e r)
theorem Rls.ext {H H' : Hp} {μ μ' : List Addr} (e : Ext K H μ H' μ') : ∀ {ds : List D} {vs : List V}, Rls K H μ ds vs → Rls K H' μ' ds vs
  | _, _, .nil => .nil
  | _, _, .cons r t => .cons (Rl.ext e r) (Rls.ext e t)
end
section
variable {H : Hp} {μ : List Addr}
theorem Rls.length : ∀ {ds : List D} {vs : List V}, Rls K H μ ds vs → ds.length = vs.length
  | _, _, .nil => rfl
  | _, _, .cons _ t => by simp [Rls.length t]
theorem Rls.append : ∀ {ds es : List D} {vs us : List V}, Rls K H μ ds vs → Rls K H μ es us → Rls K H μ (ds ++ es) (vs ++ us)
  | _, _, _, _, .nil, s => s
  | _, _, _, _, .cons r t, s => .cons r (Rls.append t s)
theorem Rls.get : ∀ {ds : List D} {vs : List V} {i : Nat} {d : D}, Rls K H μ ds vs → ds[i]? = some d → ∃ v, vs[i]? = some v ∧ Rl K H μ d v
  | _, _, _, _, .nil, e => by simp at e
  | _, _, 0, _, .cons r _, e => by simp at e; subst e; exact ⟨_, rfl, r⟩
  | _, _, i + 1, d, .cons _ t, e => by
    obtain ⟨v, h1, h2⟩ := Rls.get (i := i) (d := d) t (by simpa using e)
    exact ⟨v, by simpa using h1, h2⟩
theorem Rls.getV : ∀ {ds : List D} {vs : List V} {i : Nat} {v : V}, Rls K H μ ds vs → vs[i]? = some v → ∃ d, ds[i]? = some d ∧ Rl K H μ d v
  | _, _, _, _, .nil, e => by simp at e
  | _, _, 0, _, .cons r _, e => by simp at e; subst e; exact ⟨_, rfl, r⟩
  | _, _, i + 1, v, .cons _ t, e => by
    obtain ⟨d, h1, h2⟩ := Rls.getV (i := i) (v := v) t (by simpa using e)
    exact ⟨d, by simpa using h1, h2⟩
theorem Rls.take : ∀ {ds : List D} {vs : List V} (n : Nat), Rls K H μ ds vs → Rls K H μ (ds.take n) (vs.take n)
  | _, _, 0, _ => .nil
  | _, _, _ + 1, .nil => .nil
  | _, _, n + 1, .cons r t => .cons r (Rls.take n t)
theorem Rls.drop : ∀ {ds : List D} {vs : List V} (n : Nat), Rls K H μ ds vs → Rls K H μ (ds.drop n) (vs.drop n)
  | _, _, 0, r => r
  | _, _, _ + 1, .nil => .nil
  | _, _, n + 1, .cons _ t => Rls.drop n t
theorem Rls.set {d : D} {v : V} (r : Rl K H μ d v) : ∀ {ds : List D} {vs : List V} (i : Nat), Rls K H μ ds vs → Rls K H μ (ds.set i d) (vs.set i v)
  | _, _, _, .nil => .nil
  | _, _, 0, .cons _ t => .cons r t
  | _, _, i + 1, .cons q t => .cons q (Rls.set r i t)
theorem Rls.reverse : ∀ {ds : List D} {vs : List V}, Rls K H μ ds vs → Rls K H μ ds.reverse vs.reverse
  | _, _, .nil => .nil
  | _, _, .cons r t => by
    rw [List.reverse_cons, List.reverse_cons]
    exact Rls.append (Rls.reverse t) (.cons r .nil)
theorem Rls.dropLast {ds : List D} {vs : List V} (r : Rls K H μ ds vs) : Rls K H μ ds.dropLast vs.dropLast := by
  rw [List.dropLast_eq_take, List.dropLast_eq_take, ← r.length]
  exact r.take _
theorem Rls.ints : ∀ ns : List Int, Rls K H μ (ns.map D.int) (ns.map V.int)
  | [] => .nil
  | n :: ns => .cons (.int n) (Rls.ints ns)
theorem Rls.nil_inv {vs : List V} (r : Rls K H μ [] vs) : vs = [] := by cases r; rfl
theorem Rls.cons_inv {d : D} {ds : List D} {vs : List V} (r : Rls K H μ (d :: ds) vs) : ∃ v us, vs = v :: us ∧ Rl K H μ d v ∧ Rls K H μ ds us := by
  cases r with
  | cons a b => exact ⟨_, _, rfl, a, b⟩
end

/-- a dict's pairs -/
abbrev KR (K : PySem.W.Frag) (H : Hp) (μ : List Addr) : List (Key × D) → List (Key × V) → Prop := Paired fun p q => p.1 = q.1 ∧ Rl K H μ p.2 q.2
theorem KR.ext {H H' : Hp} {μ μ' : List Addr} (e : Ext K H μ H' μ') {kd : List (Key × D)} {kv : List (Key × V)} (r : KR K H μ kd kv) : KR K H' μ' kd kv :=
  Paired.mapP r fun _ _ q => ⟨q.1, q.2.ext e⟩

/-- an instance's attributes -/
abbrev FR (K : PySem.W.Frag) (H : Hp) (μ : List Addr) : List (Str × D) → List (Str × V) → Prop := Paired fun p q => p.1 = q.1 ∧ Rl K H μ p.2 q.2
theorem FR.ext {H H' : Hp} {μ μ' : List Addr} (e : Ext K H μ H' μ') {kd : List (Str × D)} {kv : List (Str × V)} (r : FR K H μ kd kv) : FR K H' μ' kd kv :=
  Paired.mapP r fun _ _ q => ⟨q.1, q.2.ext e⟩
def OR (K : PySem.W.Frag) (H : Hp) (μ : List Addr) : O → Addr → Prop
  | .lst ds, a => ∃ vs, H a = some (.lst vs) ∧ Rls K H μ ds vs
  | .dct kvs, a => ∃ vs, H a = some (.dK vs) ∧ KR K H μ kvs vs
  | .ins C fs, a => ∃ dx vs, H a = some (.ins C dx vs) ∧ FR K H μ fs vs

structure SR (K : PySem.W.Frag) (H : Hp) (μ : List Addr) (st : Stt) : Prop where
  len : μ.length = st.length
  nd : μ.Nodup
  obj : ∀ (n : Nat) (o : O), st[n]? = some o → ∃ a, μ[n]? = some a ∧ OR K H μ o a

/-- no tuple stands here -/
def NoT (u : HO) : Prop := (∀ vs, u ≠ .tup vs) ∧ ∀ o v, u ≠ .frz o v
theorem OR.has {H : Hp} {μ : List Addr} {o : O} {a : Addr} (h : OR K H μ o a) : ∃ u, H a = some u ∧ NoT u := by
  cases o with
  | lst ds => obtain ⟨vs, e, _⟩ := h; exact ⟨_, e, ⟨fun _ z => HO.noConfusion z, fun _ _ z => by cases z⟩⟩
  | dct ds => obtain ⟨vs, e, _⟩ := h; exact ⟨_, e, ⟨fun _ z => HO.noConfusion z, fun _ _ z => by cases z⟩⟩
  | ins C fs => obtain ⟨_, vs, e, _⟩ := h; exact ⟨_, e, ⟨fun _ z => HO.noConfusion z, fun _ _ z => by cases z⟩⟩
/-- a store where no tuple stands keeps the tuples -/
theorem sqT_upd {H : Hp} {p : Addr} {u : HO} (h : ∀ w, H p = some w → NoT w) {a : Addr} {vs : List V} (t : SqT K H a vs) : SqT K (upd H p u) a vs := by
  rcases t with t | t
  · refine .inl ?_
    rcases t with t | ⟨o, t⟩
    · have : a ≠ p := fun e => (h _ (by rw [← e]; exact t)).1 vs rfl
      exact .inl (by rw [upd_ne this]; exact t)
    · have : a ≠ p := fun e => (h _ (by rw [← e]; exact t)).2 o _ rfl
      exact .inr ⟨o, by rw [upd_ne this]; exact t⟩
  · exact .inr t
/-- an object as it was -/
theorem OR.keep {H H' : Hp} {μ μ' : List Addr} (e : Ext K H μ H' μ') {o : O} {a : Addr} (k : H' a = H a) (h : OR K H μ o a) : OR K H' μ' o a := by
  cases o with
  | lst ds => obtain ⟨vs, q, r⟩ := h; exact ⟨vs, k.trans q, r.ext e⟩
  | dct ds => obtain ⟨vs, q, r⟩ := h; exact ⟨vs, k.trans q, r.ext e⟩
  | ins C fs => obtain ⟨u, vs, q, r⟩ := h; exact ⟨u, vs, k.trans q, r.ext e⟩
theorem cl_upd {H : Hp} {p : Addr} {u : HO} (h : ∀ w, H p = some w → NoT w) {a : Addr} {vs : List V} (t : CL K H a vs) : CL K (upd H p u) a vs := by
  rcases t with ⟨o, t⟩ | t
  · have : a ≠ p := fun e => (h _ (by rw [← e]; exact t)).2 o _ rfl
    exact .inl ⟨o, by rw [upd_ne this]; exact t⟩
  · exact .inr t
section
variable {H : Hp} {μ : List Addr} {st : Stt}
theorem SR.fresh (S : SR K H μ st) {p : Addr} (hp : H p = none) : p ∉ μ := fun hm => by
  obtain ⟨n, hn⟩ := List.getElem?_of_mem hm
  have hlt : n < st.length := by rw [← S.len]; exact (List.getElem?_eq_some_iff.mp hn).1
  obtain ⟨a, ha, ho⟩ := S.obj n st[n] (List.getElem?_eq_getElem hlt)
  rw [hn] at ha
  cases ha
  obtain ⟨u, hu, _⟩ := ho.has
  rw [hp] at hu
  cases hu
/-- a new tuple -/
theorem ext_tup {p : Addr} (hp : H p = none) (vs : List V) : Ext K H μ (upd H p (.tup vs)) μ := ⟨fun a us h => sqT_upd (fun w e => by rw [hp] at e; cases e) h, fun a us h => cl_upd (fun w e => by rw [hp] at e; cases e) h, [], by simp⟩
theorem SR.tup (S : SR K H μ st) {p : Addr} (hp : H p = none) (vs : List V) : SR K (upd H p (.tup vs)) μ st := ⟨S.len, S.nd, fun n o h => by
  obtain ⟨a, ha, ho⟩ := S.obj n o h
  obtain ⟨u, hu, _⟩ := ho.has
  exact ⟨a, ha, ho.keep (ext_tup hp vs) (upd_ne (ne_of_none hu hp))⟩⟩
/-- a new object -/
theorem ext_new {p : Addr} (hp : H p = none) (u : HO) : Ext K H μ (upd H p u) (μ ++ [p]) := ⟨fun a us h => sqT_upd (fun w e => by rw [hp] at e; cases e) h, fun a us h => cl_upd (fun w e => by rw [hp] at e; cases e) h, [p], rfl⟩
/-- a cell beside -/
theorem ext_side {p : Addr} (hp : H p = none) (u : HO) : Ext K H μ (upd H p u) μ := ⟨fun a us h => sqT_upd (fun w e => by rw [hp] at e; cases e) h, fun a us h => cl_upd (fun w e => by rw [hp] at e; cases e) h, [], by simp⟩
theorem SR.side (S : SR K H μ st) {p : Addr} (hp : H p = none) (u : HO) : SR K (upd H p u) μ st := ⟨S.len, S.nd, fun n o h => by
  obtain ⟨a, ha, ho⟩ := S.obj n o h
  obtain ⟨w, hw, _⟩ := ho.has
  exact ⟨a, ha, ho.keep (ext_side hp u) (upd_ne (ne_of_none hw hp))⟩⟩
theorem SR.new (S : SR K H μ st) {p : Addr} (hp : H p = none) {u : HO} {o : O} (ho : OR K (upd H p u) (μ ++ [p]) o p) : SR K (upd H p u) (μ ++ [p]) (st ++ [o]) := by
  refine ⟨by simp [S.len], ?_, fun n o' h => ?_⟩
  · rw [List.nodup_append]
    refine ⟨S.nd, by simp, fun a ha b hb e => ?_⟩
    simp only [List.mem_singleton] at hb
    subst hb
    subst e
    exact S.fresh hp ha
  · by_cases hn : n < st.length
    · rw [List.getElem?_append_left hn] at h
      obtain ⟨a, ha, hq⟩ := S.obj n o' h
      obtain ⟨w, hw, _⟩ := hq.has
      exact ⟨a, (ext_new (K := K) hp u).get ha, hq.keep (ext_new hp u) (upd_ne (ne_of_none hw hp))⟩
    · rw [List.getElem?_append_right (by omega)] at h
      have e : n - st.length = 0 := by
        have := (List.getElem?_eq_some_iff.mp h).1
        simp at this
        omega
      rw [e] at h
      have e2 : o = o' := by simpa using h
      subst e2
      refine ⟨p, ?_, ho⟩
      have e3 : n = μ.length := by
        rw [S.len]
        omega
      rw [e3]
      simp
theorem SR.at_loc (S : SR K H μ st) (hp : H = H) : μ[st.length]? = none := by
  rw [List.getElem?_eq_none]
  rw [S.len]
  exact Nat.le_refl _
/-- an object changed -/
theorem ext_set {n : Nat} {a : Addr} {o : O} (S : SR K H μ st) (hn : st[n]? = some o) (ha : μ[n]? = some a) (u : HO) : Ext K H μ (upd H a u) μ := by
  have k : ∀ w, H a = some w → NoT w := fun w e => by
    obtain ⟨a', ha', ho⟩ := S.obj n o hn
    rw [ha] at ha'
    cases ha'
    obtain ⟨w', hw, nt⟩ := ho.has
    rw [e] at hw
    cases hw
    exact nt
  exact ⟨fun b vs h => sqT_upd k h, fun b vs h => cl_upd k h, [], by simp⟩
theorem SR.put (S : SR K H μ st) {n : Nat} {a : Addr} {o o' : O} (hn : st[n]? = some o) (ha : μ[n]? = some a) {u : HO} (ho : OR K (upd H a u) μ o' a) : SR K (upd H a u) μ (st.set n o') := by
  refine ⟨by simp [S.len], S.nd, fun m q h => ?_⟩
  by_cases e : m = n
  · subst e
    have hl : m < st.length := (List.getElem?_eq_some_iff.mp hn).1
    rw [List.getElem?_set_self hl] at h
    cases h
    exact ⟨a, ha, ho⟩
  · rw [List.getElem?_set_ne (Ne.symm e)] at h
    obtain ⟨b, hb, hq⟩ := S.obj m q h
    have nb : b ≠ a := fun z => by
      subst z
      exact e ((List.getElem?_inj (List.getElem?_eq_some_iff.mp hb).1 S.nd).mp (hb.trans ha.symm))
    exact ⟨b, hb, hq.keep (ext_set S hn ha u) (upd_ne nb)⟩
theorem SR.lst (S : SR K H μ st) {n : Nat} {ds : List D} (h : st[n]? = some (.lst ds)) {v : V} (r : Rl K H μ (.loc n) v) : ∃ a vs, v = .ref a ∧ μ[n]? = some a ∧ H a = some (.lst vs) ∧ Rls K H μ ds vs := by
  cases r with
  | loc ha =>
    obtain ⟨a, hb, vs, e, q⟩ := S.obj n _ h
    rw [ha] at hb
    cases hb
    exact ⟨_, vs, rfl, ha, e, q⟩
theorem SR.dct (S : SR K H μ st) {n : Nat} {ds : List (Key × D)} (h : st[n]? = some (.dct ds)) {v : V} (r : Rl K H μ (.loc n) v) : ∃ a vs, v = .ref a ∧ μ[n]? = some a ∧ H a = some (.dK vs) ∧ KR K H μ ds vs := by
  cases r with
  | loc ha =>
    obtain ⟨a, hb, vs, e, q⟩ := S.obj n _ h
    rw [ha] at hb
    cases hb
    exact ⟨_, vs, rfl, ha, e, q⟩
theorem SR.ins (S : SR K H μ st) {n : Nat} {C : Addr} {fs : List (Str × D)} (h : st[n]? = some (.ins C fs)) {v : V} (r : Rl K H μ (.loc n) v) : ∃ a dx vs, v = .ref a ∧ μ[n]? = some a ∧ H a = some (.ins C dx vs) ∧ FR K H μ fs vs := by
  cases r with
  | loc ha =>
    obtain ⟨a, hb, dx, vs, e, q⟩ := S.obj n _ h
    rw [ha] at hb
    cases hb
    exact ⟨_, dx, vs, rfl, ha, e, q⟩
/-- the items of a list, tuple; where it may be read -/
def items (st : Stt) : D → Option (List D)
  | .tup ds => some ds
  | .cl ds => some ds
  | .loc n => match st[n]? with
    | some (.lst ds) => some ds
    | _ => none
  | _ => none
def isL : D → Bool
  | .loc _ => true
  | _ => false
theorem SR.seqL (S : SR K H μ st) {n : Nat} {ds : List D} (h : items st (.loc n) = some ds) {v : V} (r : Rl K H μ (.loc n) v) : ∃ a vs, v = .ref a ∧ SqL K H a vs ∧ Rls K H μ ds vs := by
  have h : (match st[n]? with
    | some (.lst ds) => some ds
    | _ => none) = some ds := h
  cases e : st[n]? with
  | none => rw [e] at h; cases h
  | some o =>
    rw [e] at h
    cases o with
    | lst es =>
      cases h
      obtain ⟨a, vs, rfl, _, e2, q⟩ := S.lst e r
      exact ⟨a, vs, rfl, .inl (.inl e2), q⟩
    | dct es => cases h
    | ins C es => cases h
theorem seqC {ds : List D} {v : V} (r : Rl K H μ (.cl ds) v) : ∃ a vs, v = .ref a ∧ SqL K H a vs ∧ Rls K H μ ds vs := by
  cases r with
  | cl h q => exact ⟨_, _, rfl, h.sq, q⟩
theorem seqT {ds : List D} {v : V} (r : Rl K H μ (.tup ds) v) : ∃ a vs, v = .ref a ∧ SqT K H a vs ∧ Rls K H μ ds vs := by
  cases r with
  | tup h q => exact ⟨_, _, rfl, h, q⟩
end

/-! ### slots -/
abbrev En := List (Option D)
structure ER (K : PySem.W.Frag) (H : Hp) (μ : List Addr) (ρ : En) (σ : L2.St) : Prop where
  len : ρ.length = σ.length
  val : ∀ (i : Nat) (d : D), ρ[i]? = some (some d) → ∃ v, σ[i]? = some (some v) ∧ Rl K H μ d v
theorem ER.ext {H H' : Hp} {μ μ' : List Addr} {ρ : En} {σ : L2.St} (e : Ext K H μ H' μ') (r : ER K H μ ρ σ) : ER K H' μ' ρ σ := ⟨r.len, fun i d h => by
  obtain ⟨v, h1, h2⟩ := r.val i d h
  exact ⟨v, h1, h2.ext e⟩⟩
theorem ER.set {H : Hp} {μ : List Addr} {ρ : En} {σ : L2.St} (r : ER K H μ ρ σ) {d : D} {v : V} (q : Rl K H μ d v) (i : Nat) : ER K H μ (ρ.set i (some d)) (σ.set i (some v)) := ⟨by simp [r.len], fun j e h => by
  by_cases hj : i = j
  · subst hj
    by_cases hl : i < ρ.length
    · rw [List.getElem?_set_self hl] at h
      cases h
      exact ⟨v, List.getElem?_set_self (by rw [← r.len]; exact hl), q⟩
    · rw [List.getElem?_eq_none (by simpa using hl)] at h
      cases h
  · rw [List.getElem?_set_ne hj] at h
    obtain ⟨w, h1, h2⟩ := r.val j e h
    exact ⟨w, by rw [List.getElem?_set_ne hj]; exact h1, h2⟩⟩


end Rg

set_option Elab.async false
set_option linter.all false
set_option maxRecDepth 100000
namespace Rg
open PySem PySem.Spec PyProof.Rows L2

/-! ### what is reckoned -/
/-- an exception: its class, the fields of its own dict (none: it has no dict) -/
structure Exn where
  cls : Addr
  fs : Option (List (Str × D))
inductive R (α : Type) where
  | no | ok (a : α) (st : Stt) | ex (e : Exn) (st : Stt)
def R.bind {α β : Type} : R α → (α → Stt → R β) → R β
  | .no, _ => .no
  | .ok a st, f => f a st
  | .ex e st, _ => .ex e st
@[simp] theorem R.bind_no {α β : Type} (f : α → Stt → R β) : (R.no : R α).bind f = .no := (rfl)
@[simp] theorem R.bind_ok {α β : Type} (a : α) (st : Stt) (f : α → Stt → R β) : (R.ok a st).bind f = f a st := (rfl)
@[simp] theorem R.bind_ex {α β : Type} (e : Exn) (st : Stt) (f : α → Stt → R β) : (R.ex e st : R α).bind f = .ex e st := (rfl)
def R.of {α : Type} : Option (α × Stt) → R α
  | none => .no
  | some (a, st) => .ok a st
@[simp] theorem R.of_none {α : Type} : (R.of none : R α) = .no := (rfl)
@[simp] theorem R.of_some {α : Type} (a : α) (st : Stt) : R.of (some (a, st)) = .ok a st := (rfl)
abbrev XE := En → Stt → R D
abbrev XT := En → Stt → R Bool
abbrev XA := En → Stt → R (List D)
inductive Out where
  | no | nx (ρ : En) (st : Stt) | rt (d : D) (st : Stt) | bk (ρ : En) (st : Stt) | ct (ρ : En) (st : Stt) | xx (ρ : En) (e : Exn) (st : Stt)
abbrev XS := En → Stt → Out
def R.out {α : Type} (ρ : En) (k : α → Stt → Out) : R α → Out
  | .no => .no
  | .ok a st => k a st
  | .ex e st => .xx ρ e st
@[simp] theorem R.out_no {α : Type} (ρ : En) (k : α → Stt → Out) : (R.no : R α).out ρ k = .no := (rfl)
@[simp] theorem R.out_ok {α : Type} (ρ : En) (k : α → Stt → Out) (a : α) (st : Stt) : (R.ok a st).out ρ k = k a st := (rfl)
@[simp] theorem R.out_ex {α : Type} (ρ : En) (k : α → Stt → Out) (e : Exn) (st : Stt) : (R.ex e st : R α).out ρ k = .xx ρ e st := (rfl)
def Out.seq (g : XS) : Out → Out
  | .nx ρ st => g ρ st
  | o => o
@[simp] theorem Out.seq_no (g : XS) : Out.no.seq g = .no := (rfl)
@[simp] theorem Out.seq_nx (g : XS) (ρ : En) (st : Stt) : (Out.nx ρ st).seq g = g ρ st := (rfl)
@[simp] theorem Out.seq_rt (g : XS) (d : D) (st : Stt) : (Out.rt d st).seq g = .rt d st := (rfl)
@[simp] theorem Out.seq_bk (g : XS) (ρ : En) (st : Stt) : (Out.bk ρ st).seq g = .bk ρ st := (rfl)
@[simp] theorem Out.seq_ct (g : XS) (ρ : En) (st : Stt) : (Out.ct ρ st).seq g = .ct ρ st := (rfl)
@[simp] theorem Out.seq_xx (g : XS) (ρ : En) (e : Exn) (st : Stt) : (Out.xx ρ e st).seq g = .xx ρ e st := (rfl)

section
variable {K : PySem.W.Frag}
/-- the exception as it lies -/
def XR (K : PySem.W.Frag) (H : Hp) (μ : List Addr) (e : Exn) (d : Option Addr) : Prop := match e.fs with
  | none => d = none
  | some fs => ∃ dd vs, d = some dd ∧ H dd = some (.xd vs) ∧ FR K H μ fs vs
def wx (K : PySem.W.Frag) (W : WX) (σ : L2.St) : Exn → Hp → List Addr → Prop := fun e H μ => ∀ d, XR K H μ e d → W (.ref e.cls) d σ H
def RO (K : PySem.W.Frag) {α : Type} (W : Exn → Hp → List Addr → Prop) (H : Hp) (μ : List Addr) (Q : α → Stt → Hp → List Addr → Prop) : R α → Prop
  | .no => False
  | .ok a st => ∀ H' μ', Ext K H μ H' μ' → SR K H' μ' st → Q a st H' μ'
  | .ex e st => ∀ H' μ', Ext K H μ H' μ' → SR K H' μ' st → W e H' μ'
theorem RO.at {α : Type} {W : Exn → Hp → List Addr → Prop} {H H' : Hp} {μ μ' : List Addr} {Q : α → Stt → Hp → List Addr → Prop} (x : Ext K H μ H' μ') : ∀ {r : R α}, RO K W H μ Q r → RO K W H' μ' Q r
  | .no, h => h
  | .ok _ _, h => fun H2 μ2 e => h H2 μ2 (x.trans e)
  | .ex _ _, h => fun H2 μ2 e => h H2 μ2 (x.trans e)
theorem RO.mono {α : Type} {W : Exn → Hp → List Addr → Prop} {H : Hp} {μ : List Addr} {Q Q' : α → Stt → Hp → List Addr → Prop} (k : ∀ a st H' μ', Ext K H μ H' μ' → SR K H' μ' st → Q a st H' μ' → Q' a st H' μ') : ∀ {r : R α}, RO K W H μ Q r → RO K W H μ Q' r
  | .no, h => h
  | .ok _ _, h => fun H2 μ2 e S => k _ _ _ _ e S (h H2 μ2 e S)
  | .ex _ _, h => h
theorem RO.bind {α β : Type} {W : Exn → Hp → List Addr → Prop} {H : Hp} {μ : List Addr} {Q : β → Stt → Hp → List Addr → Prop} {f : α → Stt → R β} : ∀ {r : R α}, RO K W H μ Q (r.bind f) → RO K W H μ (fun a st H' μ' => RO K W H' μ' Q (f a st)) r
  | .no, h => h
  | .ok _ _, h => fun H2 μ2 e _ => RO.at e h
  | .ex _ _, h => h
theorem RO.ok {α : Type} {W : Exn → Hp → List Addr → Prop} {H : Hp} {μ : List Addr} {Q : α → Stt → Hp → List Addr → Prop} {a : α} {st : Stt} (S : SR K H μ st) (h : RO K W H μ Q (.ok a st)) : Q a st H μ := h H μ (Ext.refl _ _) S
/-- of an option -/
theorem RO.of {α : Type} {W : Exn → Hp → List Addr → Prop} {H : Hp} {μ : List Addr} {Q : α → Stt → Hp → List Addr → Prop} {o : Option (α × Stt)} (h : RO K W H μ Q (R.of o)) : ∃ a st, o = some (a, st) ∧ ∀ H' μ', Ext K H μ H' μ' → SR K H' μ' st → Q a st H' μ' := by
  cases o with
  | none => exact h.elim
  | some p => obtain ⟨a, st⟩ := p; exact ⟨a, st, rfl, h⟩
/-- of a value -/
abbrev QD (K : PySem.W.Frag) (Q : VK) : D → Stt → Hp → List Addr → Prop := fun d _ H' μ' => ∀ v, Rl K H' μ' d v → Q v H'
abbrev QL (K : PySem.W.Frag) (Q : List V → Hp → Prop) : List D → Stt → Hp → List Addr → Prop := fun d _ H' μ' => ∀ v, Rls K H' μ' d v → Q v H'
def tX (K : PySem.W.Frag) (W : WX) (f : XE) : TE := fun σ H Q => ∃ ρ st μ, ER K H μ ρ σ ∧ SR K H μ st ∧ RO K (wx K W σ) H μ (QD K Q) (f ρ st)
def tXT (K : PySem.W.Frag) (W : WX) (f : XT) : TT := fun σ H Q => ∃ ρ st μ, ER K H μ ρ σ ∧ SR K H μ st ∧ RO K (wx K W σ) H μ (fun b _ H' _ => Q b H') (f ρ st)
def tXA (K : PySem.W.Frag) (W : WX) (f : XA) : TA := fun σ H Q => ∃ ρ st μ, ER K H μ ρ σ ∧ SR K H μ st ∧ RO K (wx K W σ) H μ (QL K Q) (f ρ st)
def outOk (K : PySem.W.Frag) (W : WX) (D' : Ends) (H : Hp) (μ : List Addr) : Out → Prop
  | .no => False
  | .nx ρ st => ∀ σ H' μ', Ext K H μ H' μ' → ER K H' μ' ρ σ → SR K H' μ' st → D'.nx σ H'
  | .rt d st => ∀ v H' μ', Ext K H μ H' μ' → SR K H' μ' st → Rl K H' μ' d v → D'.rt v H'
  | .bk ρ st => ∀ σ H' μ', Ext K H μ H' μ' → ER K H' μ' ρ σ → SR K H' μ' st → D'.bk σ H'
  | .ct ρ st => ∀ σ H' μ', Ext K H μ H' μ' → ER K H' μ' ρ σ → SR K H' μ' st → D'.ct σ H'
  | .xx ρ e st => ∀ σ H' μ', Ext K H μ H' μ' → ER K H' μ' ρ σ → SR K H' μ' st → wx K W σ e H' μ'
def tXS (K : PySem.W.Frag) (W : WX) (f : XS) : TS := fun D' σ H => ∃ ρ st μ, ER K H μ ρ σ ∧ SR K H μ st ∧ outOk K W D' H μ (f ρ st)
theorem outOk.at {W : WX} {D' : Ends} {H H1 : Hp} {μ μ1 : List Addr} (e : Ext K H μ H1 μ1) : ∀ {o : Out}, outOk K W D' H μ o → outOk K W D' H1 μ1 o
  | .no, h => h
  | .nx _ _, h => fun σ H' μ' e' => h σ H' μ' (e.trans e')
  | .rt _ _, h => fun v H' μ' e' => h v H' μ' (e.trans e')
  | .bk _ _, h => fun σ H' μ' e' => h σ H' μ' (e.trans e')
  | .ct _ _, h => fun σ H' μ' e' => h σ H' μ' (e.trans e')
  | .xx _ _ _, h => fun σ H' μ' e' => h σ H' μ' (e.trans e')
theorem outOk.out {α : Type} {W : WX} {D' : Ends} {H : Hp} {μ : List Addr} {ρ : En} {σ : L2.St} (E : ER K H μ ρ σ) {k : α → Stt → Out} : ∀ {r : R α}, outOk K W D' H μ (r.out ρ k) → RO K (wx K W σ) H μ (fun a st H' μ' => outOk K W D' H' μ' (k a st)) r
  | .no, h => h
  | .ok _ _, h => fun H2 μ2 e _ => outOk.at e h
  | .ex _ _, h => fun H2 μ2 e S => h σ H2 μ2 e (E.ext e) S
theorem tX_of {W : WX} {f : XE} {σ : L2.St} {H : Hp} {μ : List Addr} {ρ : En} {st : Stt} {P : D → Stt → Hp → List Addr → Prop} {Q : VK} (E : ER K H μ ρ σ) (S : SR K H μ st) (h : RO K (wx K W σ) H μ P (f ρ st))
    (k : ∀ d st' H' μ' v, Ext K H μ H' μ' → ER K H' μ' ρ σ → SR K H' μ' st' → Rl K H' μ' d v → P d st' H' μ' → Q v H') : tX K W f σ H Q :=
  ⟨ρ, st, μ, E, S, h.mono fun a s H' μ' e S' p v r => k a s H' μ' v e (E.ext e) S' r p⟩
theorem tXT_of {W : WX} {f : XT} {σ : L2.St} {H : Hp} {μ : List Addr} {ρ : En} {st : Stt} {P : Bool → Stt → Hp → List Addr → Prop} {Q : Bool → Hp → Prop} (E : ER K H μ ρ σ) (S : SR K H μ st) (h : RO K (wx K W σ) H μ P (f ρ st))
    (k : ∀ d st' H' μ', Ext K H μ H' μ' → ER K H' μ' ρ σ → SR K H' μ' st' → P d st' H' μ' → Q d H') : tXT K W f σ H Q :=
  ⟨ρ, st, μ, E, S, h.mono fun a s H' μ' e S' p => k a s H' μ' e (E.ext e) S' p⟩
theorem tXA_of {W : WX} {f : XA} {σ : L2.St} {H : Hp} {μ : List Addr} {ρ : En} {st : Stt} {P : List D → Stt → Hp → List Addr → Prop} {Q : List V → Hp → Prop} (E : ER K H μ ρ σ) (S : SR K H μ st) (h : RO K (wx K W σ) H μ P (f ρ st))
    (k : ∀ d st' H' μ' v, Ext K H μ H' μ' → ER K H' μ' ρ σ → SR K H' μ' st' → Rls K H' μ' d v → P d st' H' μ' → Q v H') : tXA K W f σ H Q :=
  ⟨ρ, st, μ, E, S, h.mono fun a s H' μ' e S' p v r => k a s H' μ' v e (E.ext e) S' r p⟩
end

section
variable {X : Cx} {a b c e : Expr} {es : List Expr} {fa fb fc : XE} {pos : Pos} {W : WX}
theorem pe_imp {t t' : TE} (h : PE X e t) (i : ∀ σ H Q, t' σ H Q → t σ H Q) : PE X e t' := ⟨fun pins s σ H Q I q => h.run pins s σ H Q I (i σ H Q q)⟩
theorem pt_imp {t t' : TT} (h : PT X e t) (i : ∀ σ H Q, t' σ H Q → t σ H Q) : PT X e t' := ⟨fun pins s σ H Q I q => h.run pins s σ H Q I (i σ H Q q)⟩
theorem pw_imp {t t' : TT} (h : PW X e t) (i : ∀ σ H Q, t' σ H Q → t σ H Q) : PW X e t' := ⟨fun w pins s σ H Q I q => h.run w pins s σ H Q I (i σ H Q q)⟩
theorem pa_imp {t t' : TA} (h : PA X es t) (i : ∀ σ H Q, t' σ H Q → t σ H Q) : PA X es t' := ⟨fun p pins s σ H Q I q => h.run p pins s σ H Q I (i σ H Q q)⟩
theorem ps_imp {st : Stmt} {t t' : TS} (h : PS X st t) (i : ∀ D σ H, t' D σ H → t D σ H) : PS X st t' := ⟨fun pins s σ H D I q => h.run pins s σ H D I (i D σ H q)⟩
theorem pss_imp {st : List Stmt} {t t' : TS} (h : PSs X st t) (i : ∀ D σ H, t' D σ H → t D σ H) : PSs X st t' := ⟨fun pins s σ H D I q => h.run pins s σ H D I (i D σ H q)⟩

/-! names, constants -/
def xV (i : Nat) : XE := fun ρ st => match ρ[i]? with
  | some (some d) => .ok d st
  | _ => .no
def xC (d : D) : XE := fun _ st => .ok d st
@[simp] theorem xC_run (d : D) (ρ : En) (st : Stt) : xC d ρ st = .ok d st := (rfl)
theorem e_v (i : Nat) {x : Str} (hN : X.N[i]? = some x := by rfl) (hv : Vis X.env.scope x := by first | exact Or.inl rfl | exact Or.inr (Or.inl rfl) | exact Or.inr (Or.inr rfl)) (hd : (x == ("__debug__" : Str)) = false := by decide)
    (hcd : (x == ("__classdict__" : Str)) = false := by decide) : PE X (.Name x pos) (tX X.K W (xV i)) :=
  pe_imp (pe_var hN hv hd hcd) fun σ H Q ⟨ρ, st, μ, E, S, h⟩ => by
    unfold xV at h
    split at h
    · rename_i d' hd
      obtain ⟨v, h1, h2⟩ := E.val i _ hd
      exact ⟨v, h1, h.ok S v h2⟩
    · exact h.elim
theorem e_c {d : D} {v : V} (h : PE X e (tC v)) (r : ∀ H μ, Rl X.K H μ d v) : PE X e (tX X.K W (xC d)) :=
  pe_imp h fun σ H Q ⟨ρ, st, μ, E, S, h⟩ => h.ok S v (r H μ)
theorem e_int {i : Int} {j} : PE X (.Constant (.int i) j pos) (tX X.K W (xC (.int i))) := e_c pe_int fun _ _ => .int i
theorem e_bl {i : Bool} {j} : PE X (.Constant (.bool i) j pos) (tX X.K W (xC (.bl i))) := e_c pe_bl fun _ _ => .bl i
theorem e_non {j} : PE X (.Constant .none j pos) (tX X.K W (xC .non)) := e_c pe_non fun _ _ => .non
theorem e_str {x : Str} {j} : PE X (.Constant (.str x) j pos) (tX X.K W (xC (.str x))) := e_c pe_str fun _ _ => .str x
theorem e_gint {x : Str} {i : Int} {t : Tok} (hm : X.mg x = some (.int i t)) (hg : Gl X x := by rfl) (hd : (x == ("__debug__" : Str)) = false := by decide) : PE X (.Name x pos) (tX X.K W (xC (.int i))) := e_c (v := .int i) (pe_glob hg hm ⟨t, rfl⟩ hd) fun _ _ => .int i
theorem e_gstr {x : Str} {i : Str} {t : Tok} (hm : X.mg x = some (.str i t)) (hg : Gl X x := by rfl) (hd : (x == ("__debug__" : Str)) = false := by decide) : PE X (.Name x pos) (tX X.K W (xC (.str i))) := e_c (v := .str i) (pe_glob hg hm ⟨t, rfl⟩ hd) fun _ _ => .str i
/-- a tuple of the module's, by its tree -/
inductive WT (K : PySem.W.Frag) : D → Value → Prop
  | non : WT K .non .none
  | bl (b : Bool) : WT K (.bl b) (.bool b)
  | int (i : Int) (t : Tok) : WT K (.int i) (.int i t)
  | str (x : Str) (t : Tok) : WT K (.str x) (.str x t)
  | tup {ds : List D} {a : Addr} {o : Obj} {its : Array Value} {n : Nat} : K.lookup a = some o → o.cls = .type "tuple" → o.data = .seq its n → its.size ≤ sizeLine → Paired (WT K) ds its.toList → WT K (.tup ds) (.ref a)

/-! two operands -/
abbrev Op2 := D → D → Stt → Option (D × Stt)
def x2 (f : Op2) (fa fb : XE) : XE := fun ρ st => (fa ρ st).bind fun x s1 => (fb ρ s1).bind fun y s2 => R.of (f x y s2)
/-- r does on values what f does on trees -/
def Does (K : PySem.W.Frag) (r : R2) (f : Op2) : Prop := ∀ x y st d st' xv yv H μ (Q : VK), Rl K H μ x xv → Rl K H μ y yv → SR K H μ st → f x y st = some (d, st') → (∀ v H' μ', Ext K H μ H' μ' → SR K H' μ' st' → Rl K H' μ' d v → Q v H') → r xv yv H Q
theorem tOp_x2 {K : PySem.W.Frag} {r : R2} {f : Op2} (hd : Does K r f) {σ : L2.St} {H : Hp} {Q : VK} (h : tX K W (x2 f fa fb) σ H Q) : tOp r (tX K W fa) (tX K W fb) σ H Q := by
  obtain ⟨ρ, st, μ, E, S, h⟩ := h
  refine tX_of E S h.bind fun x s1 H1 μ1 xv e1 E1 S1 r1 h1 => ?_
  refine tX_of E1 S1 h1.bind fun y s2 H2 μ2 yv e2 E2 S2 r2 h2 => ?_
  obtain ⟨d, s3, h3, k⟩ := h2.of
  exact hd x y s2 d s3 xv yv H2 μ2 Q (r1.ext e2) r2 S2 h3 fun v H' μ' e S' r => k H' μ' e S' v r
theorem e_op {op : Operator} {r : R2} {f : Op2} (ho : OpR X (binaryOp op) r) (hd : Does X.K r f) (ha : PE X a (tX X.K W fa)) (hb : PE X b (tX X.K W fb)) : PE X (.BinOp a op b pos) (tX X.K W (x2 f fa fb)) :=
  pe_imp (pe_op ho ha hb) fun _ _ _ h => tOp_x2 hd h
theorem e_cmp {op : CmpOp} {r : R2} {f : Op2} (ho : OpR X (compareOp op) r) (hd : Does X.K r f) (ha : PE X a (tX X.K W fa)) (hb : PE X b (tX X.K W fb)) (hm : behindInMarks op b = false) : PE X (.Compare a [op] [b] pos) (tX X.K W (x2 f fa fb)) :=
  pe_imp (pe_cmpR ho ha hb hm) fun _ _ _ h => tOp_x2 hd h
/-- one operand -/
abbrev Op1 := D → Stt → Option (D × Stt)
def x1 (f : Op1) (fa : XE) : XE := fun ρ st => (fa ρ st).bind fun x s1 => R.of (f x s1)
def Does1 (K : PySem.W.Frag) (r : V → Hp → VK → Prop) (f : Op1) : Prop := ∀ x st d st' xv H μ (Q : VK), Rl K H μ x xv → SR K H μ st → f x st = some (d, st') → (∀ v H' μ', Ext K H μ H' μ' → SR K H' μ' st' → Rl K H' μ' d v → Q v H') → r xv H Q
theorem e_un {op : UnaryOp} {r : V → Hp → VK → Prop} {f : Op1} (ho : UnR X (unaryOp op) r) (hd : Does1 X.K r f) (ha : PE X a (tX X.K W fa)) (h : ∀ t, PE X a t → PE X (.UnaryOp op a pos) (tUn r t) := by exact fun _ h => pe_un ho h) : PE X (.UnaryOp op a pos) (tX X.K W (x1 f fa)) :=
  pe_imp (h _ ha) fun σ H Q ⟨ρ, st, μ, E, S, h⟩ => by
    refine tX_of E S h.bind fun x s1 H1 μ1 xv e1 E1 S1 r1 h1 => ?_
    obtain ⟨d, s3, h3, k⟩ := h1.of
    exact hd x s1 d s3 xv H1 μ1 Q r1 S1 h3 fun v H' μ' e S' r => k H' μ' e S' v r
/-- a value that is a bool, as a test -/
def isB (d : D) (st : Stt) : R Bool := match d with
  | .bl b => .ok b st
  | _ => .no
def xB (f : XE) : XT := fun ρ st => (f ρ st).bind isB
@[simp] theorem isB_bl (b : Bool) (st : Stt) : isB (.bl b) st = .ok b st := (rfl)
theorem RO.isB {K : PySem.W.Frag} {Wd : Exn → Hp → List Addr → Prop} {H : Hp} {μ : List Addr} {Q : Bool → Stt → Hp → List Addr → Prop} {d : D} {st : Stt} {v : V} (S : SR K H μ st) (r : Rl K H μ d v) (h : RO K Wd H μ Q (isB d st)) : ∃ k, v = .bl k ∧ Q k st H μ := by
  cases d with
  | bl b => cases r; exact ⟨b, rfl, h.ok S⟩
  | non => exact h.elim
  | int _ => exact h.elim
  | str _ => exact h.elim
  | tup _ => exact h.elim
  | loc _ => exact h.elim
  | cl _ => exact h.elim
theorem tX_bl {K : PySem.W.Frag} {f : XE} {σ : L2.St} {H : Hp} {Q : Bool → Hp → Prop} (h : tXT K W (xB f) σ H Q) : tX K W f σ H fun x H' => ∃ k, x = .bl k ∧ Q k H' := by
  obtain ⟨ρ, st, μ, E, S, h⟩ := h
  exact tX_of E S h.bind fun x s1 H1 μ1 xv e1 E1 S1 r1 h1 => h1.isB S1 r1
theorem t_cmp {op : CmpOp} {r : R2} {f : Op2} (ho : OpR X (compareOp op) r) (hd : Does X.K r f) (ha : PE X a (tX X.K W fa)) (hb : PE X b (tX X.K W fb)) (hm : behindInMarks op b = false) : PT X (.Compare a [op] [b] pos) (tXT X.K W (xB (x2 f fa fb))) :=
  pt_imp (pt_cmpR ho ha hb hm) fun σ H Q h => by
    show tOp r (tX X.K W fa) (tX X.K W fb) σ H _
    exact tOp_x2 hd (tX_bl h)
/-- any other expression whose value is a bool -/
theorem t_val (ha : PE X a (tX X.K W fa)) (he : ∀ whole, isTrue a X.env whole = (do let v ← whole; standAt a.pos; holding [v] (truthy v)) := by intro _; rfl) : PT X a (tXT X.K W (xB fa)) :=
  pt_imp (pt_val ha he) fun σ H Q h => tX_bl h
/-- a chain a op b op' c -/
def xCh (f f' : Op2) (fa fb fc : XE) : XE := fun ρ st => (fa ρ st).bind fun x s1 => (fb ρ s1).bind fun y s2 => (R.of (f x y s2)).bind fun z s3 => (isB z s3).bind fun k s4 => if k = true then (fc ρ s4).bind fun w s5 => R.of (f' y w s5) else .ok (.bl false) s4
theorem tCh_x {K : PySem.W.Frag} {r r' : R2} {f f' : Op2} (hd : Does K r f) (hd' : Does K r' f') {σ : L2.St} {H : Hp} {Q : VK} (h : tX K W (xCh f f' fa fb fc) σ H Q) : tChain r r' (tX K W fa) (tX K W fb) (tX K W fc) σ H Q := by
  obtain ⟨ρ, st, μ, E, S, h⟩ := h
  refine tX_of E S h.bind fun x s1 H1 μ1 xv e1 E1 S1 r1 h1 => ?_
  refine tX_of E1 S1 h1.bind fun y s2 H2 μ2 yv e2 E2 S2 r2 h2 => ?_
  obtain ⟨z, s3, h3, k⟩ := h2.bind.of
  refine hd x y s2 z s3 xv yv H2 μ2 _ (r1.ext e2) r2 S2 h3 fun v H3 μ3 e3 S3 r3 => ?_
  obtain ⟨b, rfl, q⟩ := (k H3 μ3 e3 S3).bind.isB S3 r3
  refine ⟨b, rfl, ?_⟩
  cases b with
  | true =>
    rw [if_pos rfl] at q ⊢
    refine tX_of (E2.ext e3) S3 q.bind fun w s5 H5 μ5 wv e5 E5 S5 r5 h5 => ?_
    obtain ⟨d, s6, h6, k6⟩ := h5.of
    exact hd' y w s5 d s6 yv wv H5 μ5 Q (r2.ext (e3.trans e5)) r5 S5 h6 fun v H' μ' e S' r => k6 H' μ' e S' v r
  | false =>
    rw [if_neg Bool.false_ne_true] at q ⊢
    exact q.ok S3 _ (.bl false)
theorem e_chain {op op' : CmpOp} {r r' : R2} {f f' : Op2} (ho : OpR X (compareOp op) r) (hd : Does X.K r f) (ho' : OpR X (compareOp op') r') (hd' : Does X.K r' f') (ha : PE X a (tX X.K W fa)) (hb : PE X b (tX X.K W fb)) (hc : PE X c (tX X.K W fc))
    (hm : lastMarks [op, op'] [b, c] = false := by with_unfolding_all rfl) : PE X (.Compare a [op, op'] [b, c] pos) (tX X.K W (xCh f f' fa fb fc)) :=
  pe_imp (pe_chain ho ho' ha hb hc hm) fun _ _ _ h => tCh_x hd hd' h
theorem t_chain {op op' : CmpOp} {r r' : R2} {f f' : Op2} (ho : OpR X (compareOp op) r) (hd : Does X.K r f) (ho' : OpR X (compareOp op') r') (hd' : Does X.K r' f') (ha : PE X a (tX X.K W fa)) (hb : PE X b (tX X.K W fb)) (hc : PE X c (tX X.K W fc))
    (hm : lastMarks [op, op'] [b, c] = false := by with_unfolding_all rfl) : PT X (.Compare a [op, op'] [b, c] pos) (tXT X.K W (xB (xCh f f' fa fb fc))) :=
  pt_imp (pt_chain ho ho' ha hb hc hm) fun σ H Q h => by
    show tChain r r' (tX X.K W fa) (tX X.K W fb) (tX X.K W fc) σ H _
    exact tCh_x hd hd' (tX_bl h)

/-! truth -/
def truth (st : Stt) : D → Option Bool
  | .non => some false
  | .bl b => some b
  | .int i => some (i != 0)
  | .str x => if x.length ≤ sizeLine then some ((x.length : Int) != 0) else none
  | .tup ds => some (!ds.isEmpty)
  | .cl ds => some (!ds.isEmpty)
  | .loc n => match st[n]? with
    | some (.lst ds) => some (!ds.isEmpty)
    | some (.dct ds) => some (!ds.isEmpty)
    | _ => none
theorem Rls.empty {K : PySem.W.Frag} {H : Hp} {μ : List Addr} {ds : List D} {vs : List V} (r : Rls K H μ ds vs) : vs.isEmpty = ds.isEmpty := by cases r <;> rfl
theorem truV {K : PySem.W.Frag} {H : Hp} {μ : List Addr} {st : Stt} {d : D} {v : V} {k : Bool} (S : SR K H μ st) (r : Rl K H μ d v) (h : truth st d = some k) : TruV K v H k := by
  cases d with
  | non => cases r; cases h; rfl
  | bl b => cases r; cases h; rfl
  | int i => cases r; cases h; rfl
  | str x =>
    cases r
    have h : (if x.length ≤ sizeLine then some ((x.length : Int) != 0) else none) = some k := h
    by_cases hx : x.length ≤ sizeLine
    · rw [if_pos hx] at h
      cases h
      exact ⟨hx, rfl⟩
    · rw [if_neg hx] at h
      cases h
  | tup ds =>
    obtain ⟨a, vs, rfl, hq, q⟩ := seqT r
    cases h
    exact .inr (.inl ⟨vs, hq, by rw [q.empty]⟩)
  | cl ds =>
    obtain ⟨a, vs, rfl, hq, q⟩ := seqC r
    cases h
    exact .inl ⟨vs, hq, by rw [q.empty]⟩
  | loc n =>
    have h : (match st[n]? with
      | some (.lst ds) => some (!ds.isEmpty)
        | some (.dct ds) => some (!ds.isEmpty)
      | _ => none) = some k := h
    cases e : st[n]? with
    | none => rw [e] at h; cases h
    | some o =>
      rw [e] at h
      cases o with
      | lst ds =>
        cases h
        obtain ⟨a, vs, rfl, _, e2, q⟩ := S.lst e r
        exact .inl ⟨vs, .inl (.inl e2), by rw [q.empty]⟩
      | dct ds =>
        cases h
        obtain ⟨a, vs, rfl, _, e2, q⟩ := S.dct e r
        refine .inr (.inr ⟨vs, e2, ?_⟩)
        cases q <;> rfl
      | ins C fs => cases h
def isT (d : D) (st : Stt) : R Bool := match truth st d with
  | some b => .ok b st
  | none => .no
theorem RO.isT {K : PySem.W.Frag} {Wd : Exn → Hp → List Addr → Prop} {H : Hp} {μ : List Addr} {Q : Bool → Stt → Hp → List Addr → Prop} {d : D} {st : Stt} {v : V} (S : SR K H μ st) (r : Rl K H μ d v) (h : RO K Wd H μ Q (isT d st)) : ∃ k, TruV K v H k ∧ truth st d = some k ∧ Q k st H μ := by
  unfold Rg.isT at h
  cases e : truth st d with
  | none => rw [e] at h; exact h.elim
  | some b => rw [e] at h; exact ⟨b, truV S r e, rfl, h.ok S⟩
def xTr (f : XE) : XT := fun ρ st => (f ρ st).bind isT
theorem t_tr (ha : PE X a (tX X.K W fa)) (he : ∀ whole, isTrue a X.env whole = (do let v ← whole; standAt a.pos; holding [v] (truthy v)) := by intro _; rfl) : PT X a (tXT X.K W (xTr fa)) :=
  pt_imp (pt_truth ha he) fun σ H Q ⟨ρ, st, μ, E, S, h⟩ =>
    tX_of E S h.bind fun x s1 H1 μ1 xv e1 E1 S1 r1 h1 => by
      obtain ⟨k, t, _, q⟩ := h1.isT S1 r1
      exact ⟨k, t, q⟩
def xNot (f : XT) : XT := fun ρ st => (f ρ st).bind fun b s => .ok (!b) s
theorem t_not {f : XT} (ha : PT X a (tXT X.K W f)) : PT X (.UnaryOp .Not a pos) (tXT X.K W (xNot f)) :=
  pt_imp (pt_not ha) fun σ H Q ⟨ρ, st, μ, E, S, h⟩ =>
    tXT_of E S h.bind fun k s1 H1 μ1 e1 E1 S1 h1 => h1.ok S1
/-- not a, as a value -/
def xNotV (f : XE) : XE := fun ρ st => (f ρ st).bind fun d s => (isT d s).bind fun b s => .ok (.bl !b) s
theorem e_not (ha : PE X a (tX X.K W fa)) : PE X (.UnaryOp .Not a pos) (tX X.K W (xNotV fa)) :=
  pe_imp (pe_notT ha) fun σ H Q ⟨ρ, st, μ, E, S, h⟩ =>
    tX_of E S h.bind fun x s1 H1 μ1 xv e1 E1 S1 r1 h1 => by
      obtain ⟨k, t, _, q⟩ := h1.bind.isT S1 r1
      exact ⟨k, t, q.ok S1 _ (.bl _)⟩
def xAnd (f g : XT) : XT := fun ρ st => (f ρ st).bind fun b s => if b = true then g ρ s else .ok false s
def xOr (f g : XT) : XT := fun ρ st => (f ρ st).bind fun b s => if b = true then .ok true s else g ρ s
theorem w_1 {op : BoolOp} {f : XT} (ha : PT X a (tXT X.K W f)) : PW X (.BoolOp op [a] pos) (tXT X.K W f) := by
  cases op
  · exact pw_and1 ha
  · exact pw_or1 ha
theorem w_and {rest : List Expr} {f g : XT} (ha : PT X a (tXT X.K W f)) (hb : PW X (.BoolOp .And (b :: rest) pos) (tXT X.K W g)) : PW X (.BoolOp .And (a :: b :: rest) pos) (tXT X.K W (xAnd f g)) :=
  pw_imp (pw_and ha hb) fun σ H Q ⟨ρ, st, μ, E, S, h⟩ =>
    tXT_of E S h.bind fun k s1 H1 μ1 e1 E1 S1 h1 => by
      cases k with
      | true => exact ⟨ρ, s1, μ1, E1, S1, h1⟩
      | false => exact h1.ok S1
theorem w_or {rest : List Expr} {f g : XT} (ha : PT X a (tXT X.K W f)) (hb : PW X (.BoolOp .Or (b :: rest) pos) (tXT X.K W g)) : PW X (.BoolOp .Or (a :: b :: rest) pos) (tXT X.K W (xOr f g)) :=
  pw_imp (pw_or ha hb) fun σ H Q ⟨ρ, st, μ, E, S, h⟩ =>
    tXT_of E S h.bind fun k s1 H1 μ1 e1 E1 S1 h1 => by
      cases k with
      | false => exact ⟨ρ, s1, μ1, E1, S1, h1⟩
      | true => exact h1.ok S1
/-- a and b, a or b, as values -/
def xAndV (f g : XE) : XE := fun ρ st => (f ρ st).bind fun d s => (isT d s).bind fun b s => if b = true then g ρ s else .ok d s
def xOrV (f g : XE) : XE := fun ρ st => (f ρ st).bind fun d s => (isT d s).bind fun b s => if b = true then .ok d s else g ρ s
theorem e_1 {op : BoolOp} (ha : PE X a (tX X.K W fa)) : PE X (.BoolOp op [a] pos) (tX X.K W fa) := pe_one ha
def xIte (t : XT) (f g : XE) : XE := fun ρ st => (t ρ st).bind fun b s => if b = true then f ρ s else g ρ s
theorem e_ite {t : XT} (hc : PT X c (tXT X.K W t)) (ha : PE X a (tX X.K W fa)) (hb : PE X b (tX X.K W fb)) : PE X (.IfExp c a b pos) (tX X.K W (xIte t fa fb)) :=
  pe_imp (pe_ifExp hc ha hb) fun σ H Q ⟨ρ, st, μ, E, S, h⟩ =>
    tXT_of E S h.bind fun k s1 H1 μ1 e1 E1 S1 h1 => by
      cases k with
      | true => exact ⟨ρ, s1, μ1, E1, S1, h1⟩
      | false => exact ⟨ρ, s1, μ1, E1, S1, h1⟩

/-! arguments, displays -/
def xNil : XA := fun _ st => .ok [] st
def xCons (f : XE) (g : XA) : XA := fun ρ st => (f ρ st).bind fun d s => (g ρ s).bind fun ds s => .ok (d :: ds) s
theorem a_nil : PA X [] (tXA X.K W xNil) := pa_imp pa_nil fun σ H Q ⟨ρ, st, μ, E, S, h⟩ => h.ok S [] .nil
theorem a_cons {g : XA} (ha : PE X e (tX X.K W fa)) (hr : PA X es (tXA X.K W g)) (hs : starEach (e :: es) X.env = (false, eval e X.env) :: starEach es X.env := by rfl) : PA X (e :: es) (tXA X.K W (xCons fa g)) :=
  pa_imp (pa_cons ha hr hs) fun σ H Q ⟨ρ, st, μ, E, S, h⟩ =>
    tX_of E S h.bind fun x s1 H1 μ1 xv e1 E1 S1 r1 h1 =>
      tXA_of E1 S1 h1.bind fun ys s2 H2 μ2 vs e2 E2 S2 r2 h2 => h2.ok S2 (xv :: vs) (.cons (r1.ext e2) r2)
def mkTup (ds : List D) (st : Stt) : R D := if ds.length ≤ sizeLine then .ok (.tup ds) st else .no
def mkLst (ds : List D) (st : Stt) : R D := if ds.length ≤ sizeLine then .ok (.loc st.length) (st ++ [.lst ds]) else .no
def xTup (g : XA) : XE := fun ρ st => (g ρ st).bind mkTup
def xLst (g : XA) : XE := fun ρ st => (g ρ st).bind mkLst
theorem e_tup {g : XA} {k : Nat} (h : PA X es (tXA X.K W g)) : PE X (.Tuple es k pos) (tX X.K W (xTup g)) :=
  pe_imp (pe_tup h) fun σ H Q ⟨ρ, st, μ, E, S, h⟩ =>
    tXA_of E S h.bind fun ds s1 H1 μ1 vs e1 E1 S1 r1 h1 => by
      unfold mkTup at h1
      split at h1
      · rename_i hz
        refine ⟨by rw [← r1.length]; exact hz, fun p hp => ?_⟩
        exact h1 _ μ1 (ext_tup hp vs) (S1.tup hp vs) _ (.tup (.inl (.inl upd_same)) (r1.ext (ext_tup hp vs)))
      · exact h1.elim
theorem loc_new {K : PySem.W.Frag} {H : Hp} {μ : List Addr} {st : Stt} {p : Addr} {u : HO} (S : SR K H μ st) : Rl K (upd H p u) (μ ++ [p]) (.loc st.length) (.ref p) := .loc (by rw [← S.len]; simp)
theorem SR.newL {K : PySem.W.Frag} {H : Hp} {μ : List Addr} {st : Stt} {p : Addr} {ds : List D} {vs : List V} (S : SR K H μ st) (hp : H p = none) (r : Rls K H μ ds vs) : SR K (upd H p (.lst vs)) (μ ++ [p]) (st ++ [.lst ds]) :=
  S.new (o := .lst ds) hp ⟨vs, upd_same, r.ext (ext_new hp _)⟩
theorem e_lst {g : XA} (h : PA X es (tXA X.K W g)) : PE X (.List es pos) (tX X.K W (xLst g)) :=
  pe_imp (pe_lst h) fun σ H Q ⟨ρ, st, μ, E, S, h⟩ =>
    tXA_of E S h.bind fun ds s1 H1 μ1 vs e1 E1 S1 r1 h1 => by
      unfold mkLst at h1
      split at h1
      · rename_i hz
        refine ⟨by rw [← r1.length]; exact hz, fun p hp => ?_⟩
        exact h1 _ (μ1 ++ [p]) (ext_new hp _) (S1.newL hp r1) _ (loc_new S1)
      · exact h1.elim
def xDict0 : XE := fun _ st => .ok (.loc st.length) (st ++ [.dct []])
theorem e_dict0 : PE X (.Dict [] [] pos) (tX X.K W xDict0) :=
  pe_imp pe_dnewK fun σ H Q ⟨ρ, st, μ, E, S, h⟩ => by
    intro p hp
    exact h _ (μ ++ [p]) (ext_new hp _) (S.new (o := .dct []) hp ⟨[], upd_same, .nil⟩) _ (loc_new S)
end
end Rg

set_option Elab.async false
set_option linter.all false
set_option maxRecDepth 100000
namespace Rg
open PySem PySem.Spec PyProof.Rows L2
variable {K : PySem.W.Frag}

/-! ### trees as data, == -/
def toD (st : Stt) : Nat → D → Option PyData
  | 0, _ => none
  | n + 1, d => match d with
    | .non => some .none
    | .bl b => some (.bool b)
    | .int i => some (.int i)
    | .str x => if PyData.strOk x = true then some (.str x) else none
    | .tup ds => (ds.mapM (toD st n)).map .tuple
    | .cl ds => (ds.mapM (toD st n)).map .list
    | .loc k => match st[k]? with
      | some (.lst ds) => (ds.mapM (toD st n)).map .list
      | _ => none
theorem mapM_dp {H : Hp} {μ : List Addr} {f : D → Option PyData} {n : Nat} (hf : ∀ d p v, f d = some p → Rl K H μ d v → Dp K H v p ∧ p.depth ≤ n ∧ p.canLay0 = true) : ∀ (ds : List D) (ps : List PyData) (vs : List V), ds.mapM f = some ps → Rls K H μ ds vs →
    DpAll K H vs ps ∧ PyData.depthAll ps ≤ n ∧ PyData.canLayAll0 ps = true
  | [], ps, vs, h, r => by
    rw [List.mapM_nil] at h
    cases h
    cases r
    exact ⟨.nil, by simp [PyData.depthAll], by simp [PyData.canLayAll0]⟩
  | d :: ds, ps, vs, h, r => by
    rw [List.mapM_cons] at h
    obtain ⟨p, h1, h⟩ := Option.bind_eq_some_iff.mp h
    obtain ⟨qs, h2, h⟩ := Option.bind_eq_some_iff.mp h
    cases h
    cases r with
    | cons r1 r2 =>
      obtain ⟨a1, a2, a3⟩ := hf d p _ h1 r1
      obtain ⟨b1, b2, b3⟩ := mapM_dp hf ds qs _ h2 r2
      refine ⟨.cons a1 b1, ?_, ?_⟩
      · simp only [PyData.depthAll]
        omega
      · simp only [PyData.canLayAll0, a3, b3, Bool.and_self]
theorem toD_dp {H : Hp} {μ : List Addr} {st : Stt} (S : SR K H μ st) : ∀ (n : Nat) (d : D) (p : PyData) (v : V), toD st n d = some p → Rl K H μ d v → Dp K H v p ∧ p.depth ≤ n ∧ p.canLay0 = true
  | 0, _, _, _, h, _ => by cases h
  | n + 1, d, p, v, h, r => by
    cases d with
    | non => cases h; cases r; exact ⟨.non, by simp [PyData.depth], by simp [PyData.canLay0]⟩
    | bl b => cases h; cases r; exact ⟨.bl b, by simp [PyData.depth], by simp [PyData.canLay0]⟩
    | int i => cases h; cases r; exact ⟨.int i, by simp [PyData.depth], by simp [PyData.canLay0]⟩
    | str x =>
      have h : (if PyData.strOk x = true then some (PyData.str x) else none) = some p := h
      by_cases hx : PyData.strOk x = true
      · rw [if_pos hx] at h
        cases h
        cases r
        exact ⟨.str x, by simp [PyData.depth], by simpa [PyData.canLay0] using hx⟩
      · rw [if_neg hx] at h
        cases h
    | tup ds =>
      obtain ⟨qs, h1, h2⟩ := Option.map_eq_some_iff.mp (show (ds.mapM (toD st n)).map PyData.tuple = some p from h)
      subst h2
      obtain ⟨a, vs, rfl, hq, q⟩ := seqT (K := K) r
      obtain ⟨b1, b2, b3⟩ := mapM_dp (toD_dp S n) ds qs vs h1 q
      exact ⟨.tup hq b1, by simp only [PyData.depth]; omega, by simpa [PyData.canLay0] using b3⟩
    | cl ds =>
      obtain ⟨qs, h1, h2⟩ := Option.map_eq_some_iff.mp (show (ds.mapM (toD st n)).map PyData.list = some p from h)
      subst h2
      obtain ⟨a, vs, rfl, hq, q⟩ := seqC (K := K) r
      obtain ⟨b1, b2, b3⟩ := mapM_dp (toD_dp S n) ds qs vs h1 q
      exact ⟨.lst hq b1, by simp only [PyData.depth]; omega, by simpa [PyData.canLay0] using b3⟩
    | loc k =>
      have h : (match st[k]? with
        | some (.lst ds) => (ds.mapM (toD st n)).map PyData.list
        | _ => none) = some p := h
      have go : ∀ ds, items st (.loc k) = some ds → (ds.mapM (toD st n)).map PyData.list = some p → Dp K H v p ∧ p.depth ≤ n + 1 ∧ p.canLay0 = true := fun ds hi h => by
        obtain ⟨qs, h1, h2⟩ := Option.map_eq_some_iff.mp h
        subst h2
        obtain ⟨a, vs, rfl, hq, q⟩ := S.seqL (K := K) hi r
        obtain ⟨b1, b2, b3⟩ := mapM_dp (toD_dp S n) ds qs vs h1 q
        exact ⟨.lst hq b1, by simp only [PyData.depth]; omega, by simpa [PyData.canLay0] using b3⟩
      cases e : st[k]? with
      | none => rw [e] at h; cases h
      | some o =>
        rw [e] at h
        cases o with
        | lst ds => exact go ds (by show (match st[k]? with | some (.lst ds) => some ds | _ => none) = _; rw [e]) h
        | dct ds => cases h
        | ins _ _ => cases h
def deq (st : Stt) (x y : D) : Option Bool := (toD st 60 x).bind fun a => (toD st 60 y).map fun b => PyData.eqv a b
def oEq : Op2 := fun x y st => (deq st x y).map fun b => (.bl b, st)
def oNe : Op2 := fun x y st => (deq st x y).map fun b => (.bl !b, st)
theorem deq_some {st : Stt} {x y : D} {b : Bool} (h : deq st x y = some b) : ∃ p q, toD st 60 x = some p ∧ toD st 60 y = some q ∧ b = PyData.eqv p q := by
  unfold deq at h
  obtain ⟨p, h1, h⟩ := Option.bind_eq_some_iff.mp h
  obtain ⟨q, h2, h⟩ := Option.map_eq_some_iff.mp h
  exact ⟨p, q, h1, h2, h.symm⟩
theorem shaped_of {p : PyData} (h : p.depth ≤ 60) (c : p.canLay0 = true) : SeqAt.shaped p = true := by
  show (p.canLay0 && decide (p.depth ≤ 64)) = true
  rw [c, decide_eq_true (by omega)]
  rfl
theorem does_eq : Does K (rEqD K) oEq := fun x y st d st' xv yv H μ Q rx ry S h q => by
  unfold oEq at h
  obtain ⟨b, h1, h⟩ := Option.map_eq_some_iff.mp h
  cases h
  obtain ⟨p, r, h2, h3, rfl⟩ := deq_some h1
  obtain ⟨a1, a2, a3⟩ := toD_dp (K := K) S 60 x p xv h2 rx
  obtain ⟨b1, b2, b3⟩ := toD_dp (K := K) S 60 y r yv h3 ry
  exact ⟨p, r, a1, b1, shaped_of a2 a3, shaped_of b2 b3, q _ H μ (Ext.refl _ _) S (.bl _)⟩
theorem does_ne : Does K (rNeD K) oNe := fun x y st d st' xv yv H μ Q rx ry S h q => by
  unfold oNe at h
  obtain ⟨b, h1, h⟩ := Option.map_eq_some_iff.mp h
  cases h
  obtain ⟨p, r, h2, h3, rfl⟩ := deq_some h1
  obtain ⟨a1, a2, a3⟩ := toD_dp (K := K) S 60 x p xv h2 rx
  obtain ⟨b1, b2, b3⟩ := toD_dp (K := K) S 60 y r yv h3 ry
  exact ⟨p, r, a1, b1, shaped_of a2 a3, shaped_of b2 b3, q _ H μ (Ext.refl _ _) S (.bl _)⟩

/-! ### ints -/
def oI (C : Int → Int → Prop) [∀ i j, Decidable (C i j)] (g : Int → Int → D) : Op2 := fun x y st => match x, y with
  | .int i, .int j => if C i j then some (g i j, st) else none
  | _, _ => none
instance : ∀ i j, Decidable (CMul i j) := fun i j => inferInstanceAs (Decidable ((-(2 ^ 64) < i ∧ i < 2 ^ 64) ∨ (-(2 ^ 64) < j ∧ j < 2 ^ 64)))
instance : ∀ i j, Decidable (CDiv i j) := fun i j => inferInstanceAs (Decidable (0 < j ∧ j < 1073741824))
instance : ∀ i j, Decidable (CPow i j) := fun i j => inferInstanceAs (Decidable (0 ≤ j ∧ j ≤ 1000000 ∧ i.natAbs < 2 ^ 64))
def CAny (_ _ : Int) : Prop := True
instance : ∀ i j, Decidable (CAny i j) := fun _ _ => inferInstanceAs (Decidable True)
def CPos (_ j : Int) : Prop := 0 < j
instance : ∀ i j, Decidable (CPos i j) := fun _ j => inferInstanceAs (Decidable (0 < j))
theorem oI_some {C : Int → Int → Prop} [∀ i j, Decidable (C i j)] {g : Int → Int → D} {x y d : D} {st st' : Stt} (h : oI C g x y st = some (d, st')) : ∃ i j, x = .int i ∧ y = .int j ∧ C i j ∧ d = g i j ∧ st' = st := by
  unfold oI at h
  split at h
  · split at h
    · rename_i hc
      cases h
      exact ⟨_, _, rfl, rfl, hc, rfl, rfl⟩
    · cases h
  · cases h
theorem does_I {C : Int → Int → Prop} [∀ i j, Decidable (C i j)] {g : Int → Int → Int} : Does K (rI C fun i j => .int (g i j)) (oI C fun i j => .int (g i j)) := fun x y st d st' xv yv H μ Q rx ry S h q => by
  obtain ⟨i, j, rfl, rfl, hc, rfl, rfl⟩ := oI_some h
  cases rx
  cases ry
  exact ⟨i, j, rfl, rfl, hc, q _ H μ (Ext.refl _ _) S (.int _)⟩
theorem does_I0 {g : Int → Int → Int} : Does K (rI0 fun i j => .int (g i j)) (oI CAny fun i j => .int (g i j)) := fun x y st d st' xv yv H μ Q rx ry S h q => by
  obtain ⟨i, j, rfl, rfl, hc, rfl, rfl⟩ := oI_some h
  cases rx
  cases ry
  exact ⟨i, j, rfl, rfl, q _ H μ (Ext.refl _ _) S (.int _)⟩
theorem does_B0 {g : Int → Int → Bool} : Does K (rI0 fun i j => .bl (g i j)) (oI CAny fun i j => .bl (g i j)) := fun x y st d st' xv yv H μ Q rx ry S h q => by
  obtain ⟨i, j, rfl, rfl, hc, rfl, rfl⟩ := oI_some h
  cases rx
  cases ry
  exact ⟨i, j, rfl, rfl, q _ H μ (Ext.refl _ _) S (.bl _)⟩
abbrev oSub : Op2 := oI CAny fun i j => .int (i - j)
abbrev oMul : Op2 := oI CMul fun i j => .int (i * j)
abbrev oMod : Op2 := oI CPos fun i j => .int (i % j)
abbrev oDiv : Op2 := oI CDiv fun i j => .int (i / j)
abbrev oPow : Op2 := oI CPow fun i j => .int (i ^ j.toNat)
abbrev oLtI : Op2 := oI CAny fun i j => .bl (decide (i < j))
abbrev oLe : Op2 := oI CAny fun i j => .bl (decide (i ≤ j))
abbrev oGt : Op2 := oI CAny fun i j => .bl (decide (j < i))
abbrev oGe : Op2 := oI CAny fun i j => .bl (decide (j ≤ i))
theorem does_mod : Does K (rI (fun _ j => 0 < j) fun i j => .int (i % j)) oMod := does_I (C := CPos)

/-! ### two rules for one operation -/
theorem does_or {r r' : R2} {f f' : Op2} (h : Does K r f) (h' : Does K r' f') : Does K (fun x y H Q => r x y H Q ∨ r' x y H Q) (fun x y st => (f x y st).orElse fun _ => f' x y st) := fun x y st d st' xv yv H μ Q rx ry S e q => by
  cases e1 : f x y st with
  | some p =>
    have e : ((f x y st).orElse fun _ => f' x y st) = some (d, st') := e
    rw [e1] at e
    have e : some p = some (d, st') := e
    exact .inl (h x y st d st' xv yv H μ Q rx ry S (e1.trans e) q)
  | none =>
    have e : ((f x y st).orElse fun _ => f' x y st) = some (d, st') := e
    rw [e1] at e
    have e : f' x y st = some (d, st') := e
    exact .inr (h' x y st d st' xv yv H μ Q rx ry S e q)
/-- by the shapes of the operands -/
theorem does_imp {r r' : R2} {f : Op2} (h : Does K r f) (i : ∀ x y H Q, r x y H Q → r' x y H Q) : Does K r' f := fun x y st d st' xv yv H μ Q rx ry S e q => i _ _ _ _ (h x y st d st' xv yv H μ Q rx ry S e q)
def oAdd : Op2 := fun x y st => match x, y with
  | .int i, .int j => some (.int (i + j), st)
  | .str i, .str j => if i.length + j.length ≤ sizeLine then some (.str (i ++ j), st) else none
  | .tup a, .tup b => if a.length + b.length ≤ sizeLine then some (.tup (a ++ b), st) else none
  | .loc m, .loc n => match st[m]?, st[n]? with
    | some (.lst a), some (.lst b) => if a.length + b.length ≤ sizeLine then some (.loc st.length, st ++ [.lst (a ++ b)]) else none
    | _, _ => none
  | _, _ => none
def rAddD (K : PySem.W.Frag) : R2 := fun x y H Q => (∃ i j, x = .int i ∧ y = .int j ∧ Q (.int (i + j)) H) ∨ ((∃ i j, x = .str i ∧ y = .str j ∧ i.length + j.length ≤ sizeLine ∧ Q (.str (i ++ j)) H) ∨ (rCatA K x y H Q ∨ rCat x y H Q))
theorem op_addD {X : Cx} : OpR X (binaryOp .Add) (rAddD X.K) := op_add.or (op_add_str.or (op_catA.or op_cat))
theorem does_addD : Does K (rAddD K) oAdd := fun x y st d st' xv yv H μ Q rx ry S h q => by
  unfold oAdd at h
  split at h
  · cases h
    cases rx
    cases ry
    exact .inl ⟨_, _, rfl, rfl, q _ H μ (Ext.refl _ _) S (.int _)⟩
  · split at h
    · rename_i hz
      cases h
      cases rx
      cases ry
      exact .inr (.inl ⟨_, _, rfl, rfl, hz, q _ H μ (Ext.refl _ _) S (.str _)⟩)
    · cases h
  · rename_i a b
    split at h
    · rename_i hz
      cases h
      obtain ⟨p, vs, rfl, h1, q1⟩ := seqT (K := K) rx
      obtain ⟨p2, us, rfl, h2, q2⟩ := seqT (K := K) ry
      refine .inr (.inr (.inl ⟨p, p2, vs, us, rfl, rfl, h1, h2, by rw [← q1.length, ← q2.length]; exact hz, fun e => ?_, fun e e2 => ?_, fun _ _ n hn => ?_⟩))
      · subst e
        cases q1
        exact q _ H μ (Ext.refl _ _) S (.tup h2 q2)
      · subst e2
        cases q2
        rw [List.append_nil] at q
        exact q _ H μ (Ext.refl _ _) S (.tup h1 q1)
      · exact q _ _ μ (ext_tup hn _) (S.tup hn _) (.tup (.inl (.inl upd_same)) ((q1.append q2).ext (ext_tup hn _)))
    · cases h
  · rename_i m n
    cases e1 : st[m]? with
    | none => rw [e1] at h; cases h
    | some o =>
      cases e2 : st[n]? with
      | none => rw [e1, e2] at h; cases o <;> cases h
      | some o2 =>
        rw [e1, e2] at h
        cases o with
        | lst a =>
          cases o2 with
          | lst b =>
            have h : (if a.length + b.length ≤ sizeLine then some (D.loc st.length, st ++ [O.lst (a ++ b)]) else none) = some (d, st') := h
            by_cases hz : a.length + b.length ≤ sizeLine
            · rw [if_pos hz] at h
              cases h
              obtain ⟨p, vs, rfl, _, t1, q1⟩ := S.lst e1 rx
              obtain ⟨p2, us, rfl, _, t2, q2⟩ := S.lst e2 ry
              refine .inr (.inr (.inr ⟨p, p2, vs, us, rfl, rfl, t1, t2, by rw [← q1.length, ← q2.length]; exact hz, fun n hn => ?_⟩))
              exact q _ _ _ (ext_new hn _) (S.newL hn (q1.append q2)) (loc_new S)
            · rw [if_neg hz] at h
              cases h
          | dct _ => cases h
          | ins _ _ => cases h
        | dct _ => cases h
        | ins _ _ => cases h
  · cases h
section
variable {X : Cx}
theorem does_sub : Does K (rI0 fun i j => .int (i - j)) oSub := does_I0
theorem does_mul : Does K (rI CMul fun i j => .int (i * j)) oMul := does_I
theorem does_div : Does K (rI CDiv fun i j => .int (i / j)) oDiv := does_I
theorem does_pow : Does K (rI CPow fun i j => .int (i ^ j.toNat)) oPow := does_I
theorem does_le : Does K (rI0 fun i j => .bl (decide (i ≤ j))) oLe := does_B0
theorem does_gt : Does K (rI0 fun i j => .bl (decide (j < i))) oGt := does_B0
theorem does_ge : Does K (rI0 fun i j => .bl (decide (j ≤ i))) oGe := does_B0
end
/-- < of ints and of texts -/
def oLt : Op2 := fun x y st => match x, y with
  | .int i, .int j => some (.bl (decide (i < j)), st)
  | .str i, .str j => some (.bl (decide (i.cps.toList < j.cps.toList)), st)
  | _, _ => none
def rLtD : R2 := fun x y H Q => (∃ i j, x = .int i ∧ y = .int j ∧ Q (.bl (decide (i < j))) H) ∨ ∃ i j, x = .str i ∧ y = .str j ∧ Q (.bl (decide (i.cps.toList < j.cps.toList))) H
theorem op_ltD {X : Cx} : OpR X (compareOp .Lt) rLtD := op_lt.or op_lt_str
theorem does_ltD : Does K rLtD oLt := fun x y st d st' xv yv H μ Q rx ry S h q => by
  unfold oLt at h
  split at h
  · cases h
    cases rx
    cases ry
    exact .inl ⟨_, _, rfl, rfl, q _ H μ (Ext.refl _ _) S (.bl _)⟩
  · cases h
    cases rx
    cases ry
    exact .inr ⟨_, _, rfl, rfl, q _ H μ (Ext.refl _ _) S (.bl _)⟩
  · cases h

/-! ### is, is not; in -/
def oIsB : Op2 := fun x y st => match x, y with
  | .bl a, .bl b => some (.bl (decide (a = b)), st)
  | _, _ => none
def oNotB : Op2 := fun x y st => match x, y with
  | .bl a, .bl b => some (.bl (!decide (a = b)), st)
  | _, _ => none
theorem does_isB : Does K rIsB oIsB := fun x y st d st' xv yv H μ Q rx ry S h q => by
  unfold oIsB at h
  split at h
  · cases h
    cases rx
    cases ry
    exact ⟨_, _, rfl, rfl, q _ H μ (Ext.refl _ _) S (.bl _)⟩
  · cases h
theorem does_notB : Does K rNotB oNotB := fun x y st d st' xv yv H μ Q rx ry S h q => by
  unfold oNotB at h
  split at h
  · cases h
    cases rx
    cases ry
    exact ⟨_, _, rfl, rfl, q _ H μ (Ext.refl _ _) S (.bl _)⟩
  · cases h
def inS (i j : Str) : Bool := !(Builtin.Str.occurrences j i 0 j.length 1).isEmpty
def oInS : Op2 := fun x y st => match x, y with
  | .str i, .str j => some (.bl (inS i j), st)
  | _, _ => none
theorem does_inS : Does K (fun x y H Q => ∃ i j, x = .str i ∧ y = .str j ∧ Q (.bl (!(Builtin.Str.occurrences j i 0 j.length 1).isEmpty)) H) oInS := fun x y st d st' xv yv H μ Q rx ry S h q => by
  unfold oInS at h
  split at h
  · cases h
    cases rx
    cases ry
    exact ⟨_, _, rfl, rfl, q _ H μ (Ext.refl _ _) S (.bl _)⟩
  · cases h

/-! ### items, slices -/
def oIx : Op2 := fun x y st => match y with
  | .int i => match x with
    | .str z => if z.length ≤ sizeLine then (atI z.cps.toList i).map fun c => (.str ⟨#[c]⟩, st) else none
    | x => (items st x).bind fun ds => (atI ds i).map fun d => (d, st)
  | _ => none
theorem atI_rls {H : Hp} {μ : List Addr} {ds : List D} {vs : List V} {i : Int} {d : D} (r : Rls K H μ ds vs) (h : atI ds i = some d) : ∃ v, atI vs i = some v ∧ Rl K H μ d v := by
  unfold atI at h ⊢
  obtain ⟨j, h1, h2⟩ := Option.bind_eq_some_iff.mp h
  obtain ⟨v, h3, h4⟩ := r.get h2
  rw [r.length] at h1
  exact ⟨v, by rw [h1]; exact h3, h4⟩
theorem does_ix : Does K (rIx K) oIx := fun x y st d st' xv yv H μ Q rx ry S h q => by
  unfold oIx at h
  split at h
  · rename_i i
    cases ry
    split at h
    · rename_i z
      split at h
      · rename_i hz
        obtain ⟨c, h1, h⟩ := Option.map_eq_some_iff.mp h
        cases h
        cases rx
        exact .inr (.inr ⟨z, i, c, rfl, rfl, hz, h1, q _ H μ (Ext.refl _ _) S (.str _)⟩)
      · cases h
    · obtain ⟨ds, h1, h⟩ := Option.bind_eq_some_iff.mp h
      obtain ⟨e, h2, h⟩ := Option.map_eq_some_iff.mp h
      cases h
      cases x with
      | tup es =>
        cases h1
        obtain ⟨a, vs, rfl, hq, q1⟩ := seqT (K := K) rx
        obtain ⟨v, h3, h4⟩ := atI_rls q1 h2
        exact .inr (.inl ⟨a, vs, i, v, rfl, rfl, hq, h3, q v H μ (Ext.refl _ _) S h4⟩)
      | loc n =>
        obtain ⟨a, vs, rfl, hq, q1⟩ := S.seqL (K := K) h1 rx
        obtain ⟨v, h3, h4⟩ := atI_rls q1 h2
        exact .inl ⟨a, vs, i, v, rfl, rfl, hq, h3, q v H μ (Ext.refl _ _) S h4⟩
      | cl es =>
        cases h1
        obtain ⟨a, vs, rfl, hq, q1⟩ := seqC (K := K) rx
        obtain ⟨v, h3, h4⟩ := atI_rls q1 h2
        exact .inl ⟨a, vs, i, v, rfl, rfl, hq, h3, q v H μ (Ext.refl _ _) S h4⟩
      | non => cases h1
      | bl _ => cases h1
      | int _ => cases h1
      | str _ => cases h1
  · cases h
section
variable {X : Cx} {a b e : Expr} {fa fb : XE} {pos : Pos} {W : WX}
theorem e_ix (ha : PE X a (tX X.K W fa)) (hb : PE X b (tX X.K W fb)) (hs : PlainIx b := by exact fun _ _ => rfl) : PE X (.Subscript a b pos) (tX X.K W (x2 oIx fa fb)) :=
  pe_imp (pe_ix ix_seq ha hb hs) fun _ _ _ h => tOp_x2 does_ix h
/-- the parts of a slice -/
abbrev XO := En → Stt → R (Option Int)
def tXO (K : PySem.W.Frag) (W : WX) (f : XO) : TO := fun σ H Q => ∃ ρ st μ, ER K H μ ρ σ ∧ SR K H μ st ∧ RO K (wx K W σ) H μ (fun o _ H' _ => Q o H') (f ρ st)
theorem tXO_of {W : WX} {f : XO} {σ : L2.St} {H : Hp} {μ : List Addr} {ρ : En} {st : Stt} {P : Option Int → Stt → Hp → List Addr → Prop} {Q : Option Int → Hp → Prop} (E : ER K H μ ρ σ) (S : SR K H μ st) (h : RO K (wx K W σ) H μ P (f ρ st))
    (k : ∀ d st' H' μ', Ext K H μ H' μ' → ER K H' μ' ρ σ → SR K H' μ' st' → P d st' H' μ' → Q d H') : tXO K W f σ H Q :=
  ⟨ρ, st, μ, E, S, h.mono fun a s H' μ' e S' p => k a s H' μ' e (E.ext e) S' p⟩
def xON : XO := fun _ st => .ok none st
def isI (d : D) (st : Stt) : R Int := match d with
  | .int i => .ok i st
  | _ => .no
@[simp] theorem isI_int (i : Int) (st : Stt) : isI (.int i) st = .ok i st := (rfl)
theorem RO.isI {Wd : Exn → Hp → List Addr → Prop} {H : Hp} {μ : List Addr} {Q : Int → Stt → Hp → List Addr → Prop} {d : D} {st : Stt} {v : V} (S : SR K H μ st) (r : Rl K H μ d v) (h : RO K Wd H μ Q (isI d st)) : ∃ k, v = .int k ∧ Q k st H μ := by
  cases d with
  | int b => cases r; exact ⟨b, rfl, h.ok S⟩
  | non => exact h.elim
  | bl _ => exact h.elim
  | str _ => exact h.elim
  | tup _ => exact h.elim
  | loc _ => exact h.elim
  | cl _ => exact h.elim
def xOS (f : XE) : XO := fun ρ st => (f ρ st).bind fun d s => (isI d s).bind fun i s => .ok (some i) s
theorem po_imp {o : Option Expr} {t t' : TO} (h : PO X o t) (i : ∀ σ H Q, t' σ H Q → t σ H Q) : PO X o t' := ⟨fun pins s σ H Q I q => h.run pins s σ H Q I (i σ H Q q)⟩
theorem o_none : PO X none (tXO X.K W xON) := po_imp po_none fun σ H Q ⟨ρ, st, μ, E, S, h⟩ => h.ok S
theorem o_some (ha : PE X a (tX X.K W fa)) : PO X (some a) (tXO X.K W (xOS fa)) := po_imp (po_some ha) fun σ H Q ⟨ρ, st, μ, E, S, h⟩ =>
  tX_of E S h.bind fun x s1 H1 μ1 xv e1 E1 S1 r1 h1 => by
    obtain ⟨i, e, q⟩ := h1.bind.isI S1 r1
    exact ⟨i, e, q.ok S1⟩
def cutD (ds : List D) (lo hi : Option Int) : List D := (ds.drop (HT.sIx ds.length 0 lo)).take (HT.sIx ds.length ds.length hi - HT.sIx ds.length 0 lo)
theorem cut_rls {H : Hp} {μ : List Addr} {ds : List D} {vs : List V} (r : Rls K H μ ds vs) (lo hi : Option Int) : Rls K H μ (cutD ds lo hi) (cutV vs lo hi) := by
  unfold cutD cutV
  rw [r.length]
  exact (r.drop _).take _
theorem cut_whole {ds : List D} {lo hi : Option Int} (h : HT.sIx ds.length 0 lo = 0 ∧ HT.sIx ds.length ds.length hi = ds.length) : cutD ds lo hi = ds := by
  unfold cutD
  rw [h.1, h.2]
  simp
/-- of lists, tuples -/
def oSl (x : D) (lo hi : Option Int) (st : Stt) : Option (D × Stt) := match x with
  | .tup ds => some (.tup (cutD ds lo hi), st)
  | .loc n => (items st (.loc n)).map fun ds => (.loc st.length, st ++ [.lst (cutD ds lo hi)])
  | .cl ds => some (.loc st.length, st ++ [.lst (cutD ds lo hi)])
  | _ => none
def xSl (g : D → Option Int → Option Int → Stt → Option (D × Stt)) (fa : XE) (lo hi : XO) : XE := fun ρ st => (fa ρ st).bind fun p s => (lo ρ s).bind fun l s => (hi ρ s).bind fun u s => R.of (g p l u s)
theorem e_sl {lo hi : Option Expr} {fl fu : XO} {p2 : Pos} (ha : PE X a (tX X.K W fa)) (hl : PO X lo (tXO X.K W fl)) (hu : PO X hi (tXO X.K W fu)) : PE X (.Subscript a (.Slice lo hi none p2) pos) (tX X.K W (xSl oSl fa fl fu)) :=
  pe_imp (pe_slice (sl_list.or sl_tupA) ha hl hu) fun σ H Q ⟨ρ, st, μ, E, S, h⟩ => by
    refine tX_of E S h.bind fun x s1 H1 μ1 xv e1 E1 S1 r1 h1 => ?_
    refine tXO_of E1 S1 h1.bind fun l s2 H2 μ2 e2 E2 S2 h2 => ?_
    refine tXO_of E2 S2 h2.bind fun u s3 H3 μ3 e3 E3 S3 h3 => ?_
    obtain ⟨d, s4, h4, k⟩ := h3.of
    have r3 := (r1.ext e2).ext e3
    unfold oSl at h4
    split at h4
    · rename_i ds
      cases h4
      obtain ⟨a, vs, rfl, hq, q1⟩ := seqT (K := X.K) r3
      refine .inr ⟨a, vs, rfl, hq, fun hw => ?_, fun _ n hn => ?_⟩
      · rw [← q1.length] at hw
        refine k H3 μ3 (Ext.refl _ _) S3 _ ?_
        rw [cut_whole hw]
        exact .tup hq q1
      · exact k _ μ3 (ext_tup hn _) (S3.tup hn _) _ (.tup (.inl (.inl upd_same)) ((cut_rls q1 _ _).ext (ext_tup hn _)))
    · rename_i n
      obtain ⟨ds, hd, h4⟩ := Option.map_eq_some_iff.mp h4
      cases h4
      obtain ⟨a, vs, rfl, hq, q1⟩ := S3.seqL (K := X.K) hd r3
      exact .inl ⟨a, vs, rfl, hq, fun n hn => k _ _ (ext_new hn _) (S3.newL hn (cut_rls q1 _ _)) _ (loc_new S3)⟩
    · cases h4
      obtain ⟨a, vs, rfl, hq, q1⟩ := seqC (K := X.K) r3
      exact .inl ⟨a, vs, rfl, hq, fun n hn => k _ _ (ext_new hn _) (S3.newL hn (cut_rls q1 _ _)) _ (loc_new S3)⟩
    · cases h4
end
end Rg

set_option Elab.async false
set_option linter.all false
set_option maxRecDepth 100000
namespace Rg
open PySem PySem.Spec PyProof.Rows L2
variable {K : PySem.W.Frag}

/-! ### calls of what is built in -/
abbrev BF := List D → Stt → Option (D × Stt)
/-- r does on values what f does on trees -/
def DoesN (K : PySem.W.Frag) (r : List V → Hp → VK → Prop) (f : BF) : Prop := ∀ xs st d st' vs H μ (Q : VK), Rls K H μ xs vs → SR K H μ st → f xs st = some (d, st') → (∀ v H' μ', Ext K H μ H' μ' → SR K H' μ' st' → Rl K H' μ' d v → Q v H') → r vs H Q
def xCall (f : BF) (g : XA) : XE := fun ρ st => (g ρ st).bind fun ds s => R.of (f ds s)
section
variable {X : Cx} {x : Str} {p pos : Pos} {e : Expr} {es : List Expr} {g : XA} {id T : String} {r : List V → Hp → VK → Prop} {f : BF} {W : WX}
theorem tCB_x (hd : DoesN K r f) {σ : L2.St} {H : Hp} {Q : VK} (h : tX K W (xCall f g) σ H Q) : tCB r (tXA K W g) σ H Q := by
  obtain ⟨ρ, st, μ, E, S, h⟩ := h
  refine tXA_of E S h.bind fun xs s1 H1 μ1 vs e1 E1 S1 r1 h1 => ?_
  obtain ⟨d, s2, h2, k⟩ := h1.of
  exact hd xs s1 d s2 vs H1 μ1 Q r1 S1 h2 fun v H' μ' e S' r => k H' μ' e S' v r
theorem e_cb (hc : CallR X (.builtin id) r) (hd : DoesN X.K r f) (hm : X.mg x = none) (ha : PA X (e :: es) (tXA X.K W g)) (hg : Gl X x := by rfl) (hv : bootBuiltins x = some (.builtin id) := by decide +kernel) (hn : x ≠ "__name__" := by decide) (hdb : (x == ("__debug__" : Str)) = false := by decide)
    (he : starEach (e :: es) X.env = (false, eval e X.env) :: starEach es X.env := by rfl) (hpl : (backTo pos (starEach es X.env)).any (·.1) = false := by rfl) : PE X (.Call (.Name x p) (e :: es) [] pos) (tX X.K W (xCall f g)) :=
  pe_imp (pe_callB hc hg hm hv ha hn hdb he hpl) fun _ _ _ h => tCB_x hd h
theorem e_ct (hc : CallR X (.type T) r) (hd : DoesN X.K r f) (hm : X.mg x = none) (ha : PA X (e :: es) (tXA X.K W g)) (hg : Gl X x := by rfl) (hv : bootBuiltins x = some (.type T) := by decide +kernel) (hn : x ≠ "__name__" := by decide) (hdb : (x == ("__debug__" : Str)) = false := by decide)
    (he : starEach (e :: es) X.env = (false, eval e X.env) :: starEach es X.env := by rfl) (hpl : (backTo pos (starEach es X.env)).any (·.1) = false := by rfl) : PE X (.Call (.Name x p) (e :: es) [] pos) (tX X.K W (xCall f g)) :=
  pe_imp (pe_callTy hc hg hm hv ha hn hdb he hpl) fun _ _ _ h => tCB_x hd h
end
theorem rls1 {H : Hp} {μ : List Addr} {d : D} {vs : List V} (r : Rls K H μ [d] vs) : ∃ v, vs = [v] ∧ Rl K H μ d v := by
  cases r with
  | cons a b => cases b; exact ⟨_, rfl, a⟩
theorem rls2 {H : Hp} {μ : List Addr} {d e : D} {vs : List V} (r : Rls K H μ [d, e] vs) : ∃ v u, vs = [v, u] ∧ Rl K H μ d v ∧ Rl K H μ e u := by
  cases r with
  | cons a b => obtain ⟨u, rfl, c⟩ := rls1 b; exact ⟨_, _, rfl, a, c⟩

def fLen : BF := fun xs st => match xs with
  | [.str x] => if x.length ≤ sizeLine then some (.int x.length, st) else none
  | [d] => (items st d).map fun ds => (.int ds.length, st)
  | _ => none
theorem items_seq {H : Hp} {μ : List Addr} {st : Stt} {d : D} {ds : List D} {v : V} (S : SR K H μ st) (h : items st d = some ds) (r : Rl K H μ d v) : ∃ a vs, v = .ref a ∧ (SqL K H a vs ∨ SqT K H a vs) ∧ Rls K H μ ds vs := by
  cases d with
  | tup es =>
    cases h
    obtain ⟨a, vs, rfl, hq, q1⟩ := seqT (K := K) r
    exact ⟨a, vs, rfl, .inr hq, q1⟩
  | cl es =>
    cases h
    obtain ⟨a, vs, rfl, hq, q1⟩ := seqC (K := K) r
    exact ⟨a, vs, rfl, .inl hq, q1⟩
  | loc n =>
    obtain ⟨a, vs, rfl, hq, q1⟩ := S.seqL (K := K) h r
    exact ⟨a, vs, rfl, .inl hq, q1⟩
  | non => cases h
  | bl _ => cases h
  | int _ => cases h
  | str _ => cases h
theorem does_len : DoesN K (fun xs H Q => ∃ x n, xs = [x] ∧ LenV K x H n ∧ Q (.int (n : Nat)) H) fLen := fun xs st d st' vs H μ Q r S h q => by
  unfold fLen at h
  split at h
  · split at h
    · rename_i x hx
      cases h
      obtain ⟨v, rfl, rv⟩ := rls1 r
      cases rv
      exact ⟨_, _, rfl, ⟨hx, rfl⟩, q _ H μ (Ext.refl _ _) S (.int _)⟩
    · cases h
  · obtain ⟨ds, h1, h⟩ := Option.map_eq_some_iff.mp h
    cases h
    obtain ⟨v, rfl, rv⟩ := rls1 r
    obtain ⟨a, us, rfl, hq, q1⟩ := items_seq (K := K) S h1 rv
    refine ⟨_, us.length, rfl, ?_, ?_⟩
    · rcases hq with hq | hq
      · exact .inl ⟨us, hq, rfl⟩
      · exact .inr ⟨us, hq, rfl⟩
    · rw [← q1.length]
      exact q _ H μ (Ext.refl _ _) S (.int _)
  · cases h
def fAbs : BF := fun xs st => match xs with
  | [.int i] => some (.int (if i < 0 then -i else i), st)
  | _ => none
theorem does_abs : DoesN K (fun xs H Q => ∃ i, xs = [.int i] ∧ Q (.int (if i < 0 then -i else i)) H) fAbs := fun xs st d st' vs H μ Q r S h q => by
  unfold fAbs at h
  split at h
  · cases h
    obtain ⟨v, rfl, rv⟩ := rls1 r
    cases rv
    exact ⟨_, rfl, q _ H μ (Ext.refl _ _) S (.int _)⟩
  · cases h
def fMin2 : BF := fun xs st => match xs with
  | [.int i, .int j] => some (.int (if j < i then j else i), st)
  | _ => none
theorem does_min2 : DoesN K (fun xs H Q => ∃ i j, xs = [.int i, .int j] ∧ Q (.int (if j < i then j else i)) H) fMin2 := fun xs st d st' vs H μ Q r S h q => by
  unfold fMin2 at h
  split at h
  · cases h
    obtain ⟨v, u, rfl, rv, ru⟩ := rls2 r
    cases rv
    cases ru
    exact ⟨_, _, rfl, q _ H μ (Ext.refl _ _) S (.int _)⟩
  · cases h
def fInt : BF := fun xs st => match xs with
  | [.int i] => some (.int i, st)
  | [.bl k] => some (.int (if k then 1 else 0), st)
  | _ => none
theorem does_int : DoesN K (fun xs H Q => (∃ i, xs = [.int i] ∧ Q (.int i) H) ∨ ∃ k, xs = [.bl k] ∧ Q (.int (if k then 1 else 0)) H) fInt := fun xs st d st' vs H μ Q r S h q => by
  unfold fInt at h
  split at h
  · cases h
    obtain ⟨v, rfl, rv⟩ := rls1 r
    cases rv
    exact .inl ⟨_, rfl, q _ H μ (Ext.refl _ _) S (.int _)⟩
  · cases h
    obtain ⟨v, rfl, rv⟩ := rls1 r
    cases rv
    exact .inr ⟨_, rfl, q _ H μ (Ext.refl _ _) S (.int _)⟩
  · cases h
/-- list(x), x a text, a list or a tuple -/
def signs (x : Str) : List D := x.cps.toList.map fun c => .str ⟨#[c]⟩
def fList : BF := fun xs st => match xs with
  | [.str x] => if x.length ≤ sizeLine then some (.loc st.length, st ++ [.lst (signs x)]) else none
  | [d] => (items st d).map fun ds => (.loc st.length, st ++ [.lst ds])
  | _ => none
def rListS : List V → Hp → VK → Prop := fun xs H Q => ∃ x, xs = [.str x] ∧ x.length ≤ sizeLine ∧ ∀ l, H l = none → Q (.ref l) (upd H l (.lst (x.cps.toList.map fun c => V.str ⟨#[c]⟩)))
theorem vals_signs : ∀ (l : List Nat) (us : List Value), us.length = l.length → (∀ (i : Nat) (u : Value), us[i]? = some u → ∃ c t, l[i]? = some c ∧ u = .str ⟨#[c]⟩ t) → Vals (l.map fun c => V.str ⟨#[c]⟩) us
  | [], [], _, _ => .nil
  | [], u :: us, h, _ => by simp at h
  | c :: l, [], h, _ => by simp at h
  | c :: l, u :: us, h, k => by
    obtain ⟨c', t, e, rfl⟩ := k 0 u rfl
    cases e
    exact .cons ⟨t, rfl⟩ (vals_signs l us (by simpa using h) fun i w e => k (i + 1) w (by simpa using e))
theorem call_list_strR {X : Cx} (hc : X.calm = true) : CallR X (.type "list") rListS := by
  intro pins s σ H xs us Q I r h
  obtain ⟨x, rfl, hz, q⟩ := h
  obtain ⟨u, rfl, t, rfl⟩ := vals1 r
  refine call_list_str (I.ok.hd hc) x t (fun h' tk acc' c' hk hS hacc => ?_) hz
  have hv : Vals (x.cps.toList.map fun c => V.str ⟨#[c]⟩) acc'.toList := vals_signs _ _ (by rw [Array.length_toList, Array.length_toList]; exact hacc.1) fun i w e => by
    have := hacc.2 i w (by rw [← Array.getElem?_toList]; exact e)
    obtain ⟨c, t', h1, h2⟩ := this
    exact ⟨c, t', by rw [Array.getElem?_toList]; exact h1, h2⟩
  refine ⟨.ref s.heap.objs.size, upd H s.heap.objs.size _, I.laid (t' := tk) hk (Nat.le_refl _) (show ObjOk X.prog X.w _ h' _ (.lst (x.cps.toList.map fun c => V.str ⟨#[c]⟩)) from ⟨?_, acc'.toList, c', hv, ?_⟩), rfl, q _ (I.hok.fresh (Nat.le_refl _))⟩
  · rw [List.length_map, Array.length_toList]
    exact hz
  · rw [Array.toArray_toList]
    exact hS
def rListD' (K : PySem.W.Frag) : List V → Hp → VK → Prop := fun xs H Q => rListS xs H Q ∨ ∃ p ys, xs = [.ref p] ∧ (SqL K H p ys ∨ SqT K H p ys) ∧ ∀ l, H l = none → Q (.ref l) (upd H l (.lst ys))
theorem call_listD' {X : Cx} (hc : X.calm = true) : CallR X (.type "list") (rListD' X.K) := (call_list_strR hc).or call_list_of
theorem signs_rls {H : Hp} {μ : List Addr} : ∀ l : List Nat, Rls K H μ (l.map fun c => D.str ⟨#[c]⟩) (l.map fun c => V.str ⟨#[c]⟩)
  | [] => .nil
  | c :: l => .cons (.str _) (signs_rls l)
theorem does_list : DoesN K (rListD' K) fList := fun xs st d st' vs H μ Q r S h q => by
  unfold fList at h
  split at h
  · split at h
    · rename_i x hx
      cases h
      obtain ⟨v, rfl, rv⟩ := rls1 r
      cases rv
      exact .inl ⟨_, rfl, hx, fun l hl => q _ _ _ (ext_new hl _) (S.newL hl (signs_rls _)) (loc_new S)⟩
    · cases h
  · obtain ⟨ds, h1, h⟩ := Option.map_eq_some_iff.mp h
    cases h
    obtain ⟨v, rfl, rv⟩ := rls1 r
    obtain ⟨a, us, rfl, hq, q1⟩ := items_seq (K := K) S h1 rv
    exact .inr ⟨a, us, rfl, hq, fun l hl => q _ _ _ (ext_new hl _) (S.newL hl q1) (loc_new S)⟩
  · cases h
def fTuple : BF := fun xs st => match xs with
  | [d] => (items st d).map fun ds => (.tup ds, st)
  | _ => none
theorem does_tuple : DoesN K (fun xs H Q => ∃ p ys, xs = [.ref p] ∧ ((SqL K H p ys ∧ ∀ l, H l = none → Q (.ref l) (upd H l (.tup ys))) ∨ (SqT K H p ys ∧ Q (.ref p) H))) fTuple := fun xs st d st' vs H μ Q r S h q => by
  unfold fTuple at h
  split at h
  · rename_i d0
    obtain ⟨ds, h1, h⟩ := Option.map_eq_some_iff.mp h
    cases h
    obtain ⟨v, rfl, rv⟩ := rls1 r
    cases d0 with
    | tup es =>
      cases h1
      obtain ⟨a, us, rfl, hq, q1⟩ := seqT (K := K) rv
      exact ⟨a, us, rfl, .inr ⟨hq, q _ H μ (Ext.refl _ _) S (.tup hq q1)⟩⟩
    | cl es =>
      cases h1
      obtain ⟨a, us, rfl, hq, q1⟩ := seqC (K := K) rv
      exact ⟨a, us, rfl, .inl ⟨hq, fun l hl => q _ _ μ (ext_tup hl _) (S.tup hl _) (.tup (.inl (.inl upd_same)) (q1.ext (ext_tup hl _)))⟩⟩
    | loc n =>
      obtain ⟨a, us, rfl, hq, q1⟩ := S.seqL (K := K) h1 rv
      exact ⟨a, us, rfl, .inl ⟨hq, fun l hl => q _ _ μ (ext_tup hl _) (S.tup hl _) (.tup (.inl (.inl upd_same)) (q1.ext (ext_tup hl _)))⟩⟩
    | non => cases h1
    | bl _ => cases h1
    | int _ => cases h1
    | str _ => cases h1
  · cases h
/-- all, any of a list of bools -/
def bools : List D → Option (List Bool)
  | [] => some []
  | .bl b :: r => (bools r).map (b :: ·)
  | _ => none
theorem bools_map : ∀ (ds : List D) (bs : List Bool), bools ds = some bs → ds = bs.map D.bl
  | [], bs, h => by cases h; rfl
  | d :: r, bs, h => by
    cases d with
    | bl b =>
      obtain ⟨cs, h1, rfl⟩ := Option.map_eq_some_iff.mp (show (bools r).map (b :: ·) = some bs from h)
      rw [bools_map r cs h1]
      rfl
    | non => cases h
    | int _ => cases h
    | str _ => cases h
    | tup _ => cases h
    | cl _ => cases h
    | loc _ => cases h
theorem bls_rls {H : Hp} {μ : List Addr} : ∀ (bs : List Bool) (vs : List V), Rls K H μ (bs.map D.bl) vs → vs = bs.map V.bl
  | [], _, r => r.nil_inv
  | b :: bs, vs, r => by
    obtain ⟨v, us, rfl, a, c⟩ := r.cons_inv
    cases a
    rw [bls_rls bs us c]
    rfl
def fAll : BF := fun xs st => match xs with
  | [.loc n] => (items st (.loc n)).bind fun ds => (bools ds).map fun bs => (.bl (bs.all id), st)
  | _ => none
def fAny : BF := fun xs st => match xs with
  | [.loc n] => (items st (.loc n)).bind fun ds => (bools ds).map fun bs => (.bl (bs.any id), st)
  | _ => none
theorem does_all : DoesN K (rAll K) fAll := fun xs st d st' vs H μ Q r S h q => by
  unfold fAll at h
  split at h
  · obtain ⟨ds, h1, h⟩ := Option.bind_eq_some_iff.mp h
    obtain ⟨bs, h2, h⟩ := Option.map_eq_some_iff.mp h
    cases h
    obtain ⟨v, rfl, rv⟩ := rls1 r
    obtain ⟨a, us, rfl, hq, q1⟩ := S.seqL (K := K) h1 rv
    rw [bools_map ds bs h2] at q1
    rw [bls_rls bs us q1] at hq
    exact ⟨a, bs, rfl, hq, q _ H μ (Ext.refl _ _) S (.bl _)⟩
  · cases h
theorem does_any : DoesN K (rAny K) fAny := fun xs st d st' vs H μ Q r S h q => by
  unfold fAny at h
  split at h
  · obtain ⟨ds, h1, h⟩ := Option.bind_eq_some_iff.mp h
    obtain ⟨bs, h2, h⟩ := Option.map_eq_some_iff.mp h
    cases h
    obtain ⟨v, rfl, rv⟩ := rls1 r
    obtain ⟨a, us, rfl, hq, q1⟩ := S.seqL (K := K) h1 rv
    rw [bools_map ds bs h2] at q1
    rw [bls_rls bs us q1] at hq
    exact ⟨a, bs, rfl, hq, q _ H μ (Ext.refl _ _) S (.bl _)⟩
  · cases h

/-! ### isinstance(x, T), T a built-in type -/
def tyD (st : Stt) : D → Option String
  | .non => some "NoneType"
  | .bl _ => some "bool"
  | .int _ => some "int"
  | .str _ => some "str"
  | .tup _ => some "tuple"
  | .cl _ => some "list"
  | .loc n => match st[n]? with
    | some (.lst _) => some "list"
    | some (.dct _) => some "dict"
    | _ => none
theorem tyD_ok {H : Hp} {μ : List Addr} {st : Stt} {d : D} {v : V} {T : String} (S : SR K H μ st) (r : Rl K H μ d v) (h : tyD st d = some T) : TyX K H v (.type T) := by
  cases d with
  | non => cases r; cases h; exact .base .non
  | bl _ => cases r; cases h; exact .base (.bl _)
  | int _ => cases r; cases h; exact .base (.int _)
  | str _ => cases r; cases h; exact .base (.str _)
  | tup ds =>
    obtain ⟨a, vs, rfl, t, _⟩ := seqT (K := K) r
    cases h
    rcases t with (t | ⟨o, t⟩) | ⟨o, its, n, h1, h2, _⟩
    · exact .base (.tup t)
    · exact .fTuple t
    · exact .kTuple h1 h2
  | cl ds =>
    cases r with
    | cl h1 q =>
      cases h
      rcases h1 with ⟨o, h1⟩ | ⟨o, its, n, h1, h2, _⟩
      · exact .base (.frz h1)
      · exact .kList h1 h2
  | loc n =>
    have h : (match st[n]? with
      | some (.lst _) => some "list"
        | some (.dct _) => some "dict"
      | _ => none) = some T := h
    cases e : st[n]? with
    | none => rw [e] at h; cases h
    | some o =>
      rw [e] at h
      cases o with
      | lst ds => cases h; obtain ⟨a, vs, rfl, _, t, _⟩ := S.lst e r; exact .base (.lst t)
      | dct ds => cases h; obtain ⟨a, vs, rfl, _, t, _⟩ := S.dct e r; exact .base (.dK t)
      | ins _ _ => cases h
def oIsi (T : String) : Op1 := fun d st => (tyD st d).bind fun t => (kitB t T).map fun b => (.bl b, st)
section
variable {X : Cx} {p p2 pos : Pos} {e : Expr} {f : XE} {T : Str} {tn : String} {W : WX}
theorem e_isi (he : PE X e (tX X.K W f)) (hm : X.mg "isinstance" = none) (hT : X.mg T = none) (hv : bootBuiltins T = some (.type tn) := by decide +kernel) (hg : Gl X "isinstance" := by rfl) (hg2 : Gl X T := by rfl) (hn : T ≠ "__name__" := by decide) (hdb : (T == ("__debug__" : Str)) = false := by decide)
    (hs : starEach [e, .Name T p2] X.env = (false, eval e X.env) :: starEach [.Name T p2] X.env := by rfl) (hpl : (backTo pos (starEach [.Name T p2] X.env)).any (·.1) = false := by rfl) : PE X (.Call (.Name "isinstance" p) [e, .Name T p2] [] pos) (tX X.K W (x1 (oIsi tn) f)) :=
  pe_imp (pe_callB call_isi hg hm (by decide +kernel) (pa_cons he (pa_cons (pe_bltn (v := .ty tn) hg2 hT hv rfl hn hdb) pa_nil) hs) (by decide) (by decide) hs hpl) fun σ H Q ⟨ρ, st, μ, E, S, h⟩ =>
    tX_of E S h.bind fun x s1 H1 μ1 xv e1 E1 S1 r1 h1 => by
      obtain ⟨d, s2, h2, k⟩ := h1.of
      unfold oIsi at h2
      obtain ⟨t, h3, h2⟩ := Option.bind_eq_some_iff.mp h2
      obtain ⟨b, h4, h2⟩ := Option.map_eq_some_iff.mp h2
      cases h2
      exact ⟨xv, .ty tn, .type t, .type tn, b, rfl, .ty tn, tyD_ok S1 r1 h3, kit_ty h4, k H1 μ1 (Ext.refl _ _) S1 _ (.bl b)⟩
end

/-! ### methods -/
abbrev MtF := D → List D → Stt → Option (D × Stt)
def DoesM (K : PySem.W.Frag) (r : V → List V → Hp → VK → Prop) (f : MtF) : Prop := ∀ x xs st d st' v vs H μ (Q : VK), Rl K H μ x v → Rls K H μ xs vs → SR K H μ st → f x xs st = some (d, st') → (∀ v H' μ', Ext K H μ H' μ' → SR K H' μ' st' → Rl K H' μ' d v → Q v H') → r v vs H Q
/-- the receiver is of that type, whatever its arguments do -/
def Recv (K : PySem.W.Frag) (T : String) (t : Stt → D → Bool) : Prop := ∀ x st v H μ, Rl K H μ x v → SR K H μ st → t st x = true → tyV K T v H
def isRc (t : Stt → D → Bool) (d : D) (st : Stt) : R Unit := if t st d = true then .ok () st else .no
def xMt (t : Stt → D → Bool) (f : MtF) (fo : XE) (g : XA) : XE := fun ρ st => (fo ρ st).bind fun d s => (isRc t d s).bind fun _ s => (g ρ s).bind fun ds s => R.of (f d ds s)
theorem RO.isRc {t : Stt → D → Bool} {Wd : Exn → Hp → List Addr → Prop} {H : Hp} {μ : List Addr} {Q : Unit → Stt → Hp → List Addr → Prop} {d : D} {st : Stt} (S : SR K H μ st) (h : RO K Wd H μ Q (isRc t d st)) : t st d = true ∧ Q () st H μ := by
  unfold Rg.isRc at h
  split at h
  · exact ⟨by assumption, h.ok S⟩
  · exact h.elim
def isLst (st : Stt) : D → Bool
  | .loc n => match st[n]? with
    | some (.lst _) => true
    | _ => false
  | _ => false
def isStr (_ : Stt) : D → Bool
  | .str _ => true
  | _ => false
theorem recv_lst : Recv K "list" isLst := fun x st v H μ r S h => by
  cases x with
  | loc n =>
    have h : (match st[n]? with
      | some (.lst _) => true
      | _ => false) = true := h
    cases e : st[n]? with
    | none => rw [e] at h; cases h
    | some o =>
      rw [e] at h
      cases o with
      | lst ds => obtain ⟨a, vs, rfl, _, t, _⟩ := S.lst e r; exact .inl ⟨rfl, vs, .inl (.inl t)⟩
      | dct ds => cases h
      | ins _ _ => cases h
  | non => cases h
  | bl _ => cases h
  | int _ => cases h
  | str _ => cases h
  | tup _ => cases h
  | cl _ => cases h
theorem recv_str : Recv K "str" isStr := fun x st v H μ r S h => by
  cases x with
  | str y => cases r; rfl
  | non => cases h
  | bl _ => cases h
  | int _ => cases h
  | loc _ => cases h
  | tup _ => cases h
  | cl _ => cases h
section
variable {X : Cx} {o e : Expr} {es : List Expr} {fo : XE} {g : XA} {name : Str} {apos cpos : Pos} {T id : String} {r : V → List V → Hp → VK → Prop} {t : Stt → D → Bool} {f : MtF} {W : WX}
theorem e_mt0 (pa : PlainAttrs T) (slot : Slot T name id) (hty : typeOf (.builtin id) = pure (.type "method_descriptor")) (hm : MtR X id r) (hd : DoesM X.K r f) (hr : Recv X.K T t) (ho : PE X o (tX X.K W fo))
    (hbase : attributeBase o name X.env (eval o X.env) = eval o X.env := by rfl) (hline : (apos.endLine == cpos.line) = true := by rfl) : PE X (.Call (.Attribute o name apos) [] [] cpos) (tX X.K W (xMt t f fo xNil)) :=
  pe_imp (pe_bm0 pa slot hty hm ho hbase hline) fun σ H Q ⟨ρ, st, μ, E, S, h⟩ =>
    tX_of E S h.bind fun x s1 H1 μ1 v e1 E1 S1 r1 h1 => by
      obtain ⟨ht, h2⟩ := h1.bind.isRc S1
      refine ⟨hr x s1 v H1 μ1 r1 S1 ht, ?_⟩
      obtain ⟨d, s2, h3, k⟩ := (h2.bind.ok S1).of
      exact hd x [] s1 d s2 v [] H1 μ1 Q r1 .nil S1 h3 fun v' H' μ' e2 S' r' => k H' μ' e2 S' v' r'
theorem e_mt (pa : PlainAttrs T) (slot : Slot T name id) (hty : typeOf (.builtin id) = pure (.type "method_descriptor")) (hm : MtR X id r) (hd : DoesM X.K r f) (hr : Recv X.K T t) (ho : PE X o (tX X.K W fo)) (ha : PA X (e :: es) (tXA X.K W g))
    (hbase : attributeBase o name X.env (eval o X.env) = eval o X.env := by rfl)
    (hfew : ((backTo cpos (starEach (e :: es) X.env)).all (fun x => !x.1) && (backToKw cpos (keywordEach [] X.env)).all (fun x => x.1.isSome)
      && decide ((e :: es).length + ([] : List Keyword).length + (if ([] : List Keyword).isEmpty then 0 else 1) < 30)) = true := by rfl)
    (hline : (apos.endLine == cpos.line) = true := by rfl) (hs : starEach (e :: es) X.env = (false, eval e X.env) :: starEach es X.env := by rfl) (hplain : (backTo cpos (starEach es X.env)).any (·.1) = false := by rfl) :
    PE X (.Call (.Attribute o name apos) (e :: es) [] cpos) (tX X.K W (xMt t f fo g)) :=
  pe_imp (pe_bm pa slot hty hm ho ha hbase hfew hline hs hplain) fun σ H Q ⟨ρ, st, μ, E, S, h⟩ =>
    tX_of E S h.bind fun x s1 H1 μ1 v e1 E1 S1 r1 h1 => by
      obtain ⟨ht, h2⟩ := h1.bind.isRc S1
      refine ⟨hr x s1 v H1 μ1 r1 S1 ht, ?_⟩
      refine tXA_of E1 S1 h2.bind fun ys s2 H2 μ2 vs e2 E2 S2 r2 h3 => ?_
      obtain ⟨d, s3, h4, k⟩ := h3.of
      exact hd x ys s2 d s3 v vs H2 μ2 Q (r1.ext e2) r2 S2 h4 fun v' H' μ' e2 S' r' => k H' μ' e2 S' v' r'
end
/-- what stands at a place, a list -/
def lstAt (st : Stt) : D → Option (Nat × List D)
  | .loc n => match st[n]? with
    | some (.lst ds) => some (n, ds)
    | _ => none
  | _ => none
theorem lstAt_some {st : Stt} {d : D} {n : Nat} {ds : List D} (h : lstAt st d = some (n, ds)) : d = .loc n ∧ st[n]? = some (.lst ds) := by
  cases d with
  | loc m =>
    have h : (match st[m]? with
      | some (.lst ds) => some (m, ds)
      | _ => none) = some (n, ds) := h
    cases e : st[m]? with
    | none => rw [e] at h; cases h
    | some o =>
      rw [e] at h
      cases o with
      | lst es => cases h; exact ⟨rfl, e⟩
      | dct ds => cases h
      | ins _ _ => cases h
  | non => cases h
  | bl _ => cases h
  | int _ => cases h
  | str _ => cases h
  | tup _ => cases h
  | cl _ => cases h
def mAppend : MtF := fun x xs st => match xs with
  | [d] => (lstAt st x).bind fun p => if p.2.length < sizeLine then some (.non, st.set p.1 (.lst (p.2 ++ [d]))) else none
  | _ => none
theorem does_append : DoesM K rAppend mAppend := fun x xs st d st' v vs H μ Q r rs S h q => by
  unfold mAppend at h
  split at h
  · obtain ⟨⟨n, ds⟩, h1, h⟩ := Option.bind_eq_some_iff.mp h
    dsimp only at h
    split at h
    · rename_i y hz
      cases h
      obtain ⟨rfl, e⟩ := lstAt_some h1
      obtain ⟨a, us, rfl, ha, t, q1⟩ := S.lst e r
      obtain ⟨w, rfl, rw'⟩ := rls1 rs
      refine ⟨a, us, w, rfl, rfl, t, by rw [← q1.length]; exact hz, ?_⟩
      have ex := ext_set S e ha (.lst (us ++ [w]))
      exact q _ _ μ ex (S.put e ha (o' := .lst (ds ++ [_])) ⟨us ++ [w], upd_same, (q1.append (.cons rw' .nil)).ext ex⟩) .non
    · cases h
  · cases h
def mPop : MtF := fun x xs st => match xs with
  | [] => (lstAt st x).bind fun p => (p.2[p.2.length - 1]?).map fun d => (d, st.set p.1 (.lst p.2.dropLast))
  | _ => none
theorem does_pop : DoesM K rPop mPop := fun x xs st d st' v vs H μ Q r rs S h q => by
  unfold mPop at h
  split at h
  · obtain ⟨⟨n, ds⟩, h1, h⟩ := Option.bind_eq_some_iff.mp h
    obtain ⟨y, h2, h⟩ := Option.map_eq_some_iff.mp h
    cases h
    obtain ⟨rfl, e⟩ := lstAt_some h1
    obtain ⟨a, us, rfl, ha, t, q1⟩ := S.lst e r
    have := rs.nil_inv
    subst this
    obtain ⟨w, h3, rw'⟩ := q1.get h2
    have ex := ext_set S e ha (.lst us.dropLast)
    refine ⟨a, us, w, rfl, rfl, t, by rw [← q1.length]; exact h3, ?_⟩
    exact q _ _ μ ex (S.put e ha (o' := .lst ds.dropLast) ⟨us.dropLast, upd_same, q1.dropLast.ext ex⟩) (rw'.ext ex)
  · cases h
/-- xs.extend(ys), ys a list or a tuple -/
def rExtendT (K : PySem.W.Frag) : V → List V → Hp → VK → Prop := fun x vs H Q => ∃ l b xs zs, x = .ref l ∧ vs = [.ref b] ∧ H l = some (.lst xs) ∧ SqT K H b zs ∧ xs.length + zs.length ≤ sizeLine ∧ Q .non (upd H l (.lst (xs ++ zs)))
end Rg
namespace RgX
open PySem PySem.Spec PyProof.Rows
open PySem.AutoSeq1 in
theorem list_extend_tupleG (l : Addr) (xs : Array Value) (n : Nat) (b : Addr) (ys : Array Value) (n2 : Nat) (dd : Option Addr) (sl : Array (Option Value)) (hs0 : ¬(!xs.isEmpty && Builtin.List.listTooLong (xs.size + ys.size)) = true) (hs1 : xs.size ≤ sizeLine) (hs2 : xs.size + ys.size ≤ sizeLine + 1) :
    Meets (Builtin.«list.extend» ⟨[.ref l, .ref b], []⟩) (fun _ R s => s.heap.get? l = some { cls := .type "list", dict := none, data := .seq xs n, slots := #[] } ∧ s.heap.get? b = some { cls := .type "tuple", dict := dd, data := .seq ys n2, slots := sl } ∧ R (.ok (.ret Value.none)) { s with heap := s.heap.update l (Obj.mapSeq fun x => x ++ ys), toks := s.toks }) :=
  .of_wp fun prog w A R s0 hq0 => by
    obtain ⟨hp, gs, dr, tk, os⟩ := s0
    obtain ⟨hl, hb, hr⟩ := hq0
    have g1 := idx_int
    have g2 := PySem.AutoSeq1.sub_tuple_tuple
    have g3 := PySem.AutoSeq1.sub_list_list
    have g4 := PySem.AutoSeq1.sub_tuple_list
    have g5 := PySem.AutoSeq1.sub_list_tuple
    have hz' : (xs ++ ys).size ≤ sizeLine + 1 := by
      rw [Array.size_append]
      exact hs2
    wp_walk using (wpAny_updateSeq hl rfl (hz := hs1) (_hz' := hz')), wpAny_loadPart' hl, wpAny_loadPart' hb
    exact ⟨_, rfl, hr⟩
end RgX
namespace Rg
open PySem PySem.Spec PyProof.Rows L2
variable {K : PySem.W.Frag}
theorem mt_extendT {X : Cx} : MtM X "list.extend" (rExtendT X.K) := by
  intro pins s σ H x vs v us Q I rx rv h
  obtain ⟨l, b, xs, zs, rfl, rfl, hH, hB, hz, q⟩ := h
  cases rx
  obtain ⟨u, rfl, ru⟩ := rv.one
  cases ru
  obtain ⟨z, its, n, r, hl, e⟩ := I.lstM hH
  obtain ⟨its2, r2, ⟨ob, e2, c2, n2, d2⟩, z2⟩ := I.tuple hB
  have hl2 := r2.length
  obtain ⟨oc, od, dt, sl⟩ := ob
  simp only at c2 d2
  subst c2 d2
  have hsz : its.toArray.size + its2.toArray.size ≤ sizeLine := by rw [List.size_toArray, List.size_toArray]; omega
  have hlong : ¬ (!its.toArray.isEmpty && Builtin.List.listTooLong (its.toArray.size + its2.toArray.size)) = true := by
    rw [notLongL hsz, Bool.and_false]
    exact Bool.false_ne_true
  refine call_meets F.slot_list_extend ⟨_, e, rfl⟩ F.entry_list_extend (F.args_list_extend_2 _ _)
    (RgX.list_extend_tupleG l its.toArray n b its2.toArray n2 od sl hlong (by rw [List.size_toArray]; omega) (by omega)) ⟨e, e2, ?_⟩
  refine ⟨.non, _, I.lset (its' := its ++ its2) hH e (by simp) (r.append r2) ?_, rfl, q⟩
  rw [List.length_append]
  omega
def rExtendD (K : PySem.W.Frag) : V → List V → Hp → VK → Prop := fun x vs H Q => rExtend x vs H Q ∨ rExtendT K x vs H Q
theorem mt_extendD {X : Cx} : MtR X "list.extend" (rExtendD X.K) := MtR.or mt_extend mt_extendT
def mExtend : MtF := fun x xs st => match xs with
  | [.tup es] => (lstAt st x).bind fun p => if p.2.length + es.length ≤ sizeLine then some (.non, st.set p.1 (.lst (p.2 ++ es))) else none
  | [.loc m] => (lstAt st x).bind fun p => (lstAt st (.loc m)).bind fun q => if p.2.length + q.2.length ≤ sizeLine then some (.non, st.set p.1 (.lst (p.2 ++ q.2))) else none
  | _ => none
theorem does_extend : DoesM K (rExtendD K) mExtend := fun x xs st d st' v vs H μ Q r rs S h q => by
  unfold mExtend at h
  split at h
  · obtain ⟨⟨n, ds⟩, h1, h⟩ := Option.bind_eq_some_iff.mp h
    dsimp only at h
    split at h
    · rename_i es hz
      cases h
      obtain ⟨rfl, e⟩ := lstAt_some h1
      obtain ⟨a, us, rfl, ha, t, q1⟩ := S.lst e r
      obtain ⟨w, rfl, rw'⟩ := rls1 rs
      obtain ⟨b, ws, rfl, t2, q2⟩ := seqT (K := K) rw'
      refine .inr ⟨a, b, us, ws, rfl, rfl, t, t2, by rw [← q1.length, ← q2.length]; exact hz, ?_⟩
      have ex := ext_set S e ha (.lst (us ++ ws))
      exact q _ _ μ ex (S.put e ha (o' := .lst (ds ++ _)) ⟨us ++ ws, upd_same, (q1.append q2).ext ex⟩) .non
    · cases h
  · obtain ⟨⟨n, ds⟩, h1, h⟩ := Option.bind_eq_some_iff.mp h
    obtain ⟨⟨n2, es⟩, h2, h⟩ := Option.bind_eq_some_iff.mp h
    dsimp only at h
    split at h
    · rename_i hz
      cases h
      obtain ⟨rfl, e⟩ := lstAt_some h1
      obtain ⟨em, e2⟩ := lstAt_some h2
      cases em
      obtain ⟨a, us, rfl, ha, t, q1⟩ := S.lst e r
      obtain ⟨w, rfl, rw'⟩ := rls1 rs
      obtain ⟨b, ws, rfl, _, t2, q2⟩ := S.lst e2 rw'
      refine .inl ⟨a, b, us, ws, rfl, rfl, t, t2, by rw [← q1.length, ← q2.length]; exact hz, ?_⟩
      have ex := ext_set S e ha (.lst (us ++ ws))
      exact q _ _ μ ex (S.put e ha (o' := .lst (ds ++ _)) ⟨us ++ ws, upd_same, (q1.append q2).ext ex⟩) .non
    · cases h
  · cases h
/-- sep.join(xs) -/
def txts : List D → Option (List Str)
  | [] => some []
  | .str x :: r => (txts r).map (x :: ·)
  | _ => none
theorem txts_map : ∀ (ds : List D) (bs : List Str), txts ds = some bs → ds = bs.map D.str
  | [], bs, h => by cases h; rfl
  | d :: r, bs, h => by
    cases d with
    | str b =>
      obtain ⟨cs, h1, rfl⟩ := Option.map_eq_some_iff.mp (show (txts r).map (b :: ·) = some bs from h)
      rw [txts_map r cs h1]
      rfl
    | non => cases h
    | int _ => cases h
    | bl _ => cases h
    | tup _ => cases h
    | cl _ => cases h
    | loc _ => cases h
theorem txts_rls {H : Hp} {μ : List Addr} : ∀ (bs : List Str) (vs : List V), Rls K H μ (bs.map D.str) vs → vs = bs.map V.str
  | [], _, r => r.nil_inv
  | b :: bs, vs, r => by
    obtain ⟨v, us, rfl, a, c⟩ := r.cons_inv
    cases a
    rw [txts_rls bs us c]
    rfl
def mJoin : MtF := fun x xs st => match x, xs with
  | .str a, [d] => (items st d).bind fun ds => (txts ds).bind fun ys => if (ys.map (·.length)).sum + ys.length * a.length ≤ 16777216 then some (.str (Txt.join a ys), st) else none
  | _, _ => none
def rJoin (K : PySem.W.Frag) : V → List V → Hp → VK → Prop := fun x xs H Q => ∃ a p, ∃ ys : List Str, x = .str a ∧ xs = [.ref p] ∧ (SqL K H p (ys.map V.str) ∨ SqT K H p (ys.map V.str)) ∧
    (ys.map (·.length)).sum + ys.length * a.length ≤ 16777216 ∧ Q (.str (Txt.join a ys)) H
theorem mt_joinR {X : Cx} : MtR X "str.join" (rJoin X.K) := mt_join
theorem does_join : DoesM K (rJoin K) mJoin := fun x xs st d st' v vs H μ Q r rs S h q => by
  unfold mJoin at h
  split at h
  · obtain ⟨ds, h1, h⟩ := Option.bind_eq_some_iff.mp h
    obtain ⟨ys, h2, h⟩ := Option.bind_eq_some_iff.mp h
    split at h
    · rename_i hz
      cases h
      obtain ⟨w, rfl, rw'⟩ := rls1 rs
      cases r
      obtain ⟨a, us, rfl, hq, q1⟩ := items_seq (K := K) S h1 rw'
      rw [txts_map ds ys h2] at q1
      rw [txts_rls ys us q1] at hq
      exact ⟨_, a, ys, rfl, rfl, hq, hz, q _ H μ (Ext.refl _ _) S (.str _)⟩
    · cases h
  · cases h
end Rg

set_option Elab.async false
set_option linter.all false
set_option maxRecDepth 100000
namespace Rg
variable {K : PySem.W.Frag}
open PySem PySem.Spec PyProof.Rows L2

/-! ### targets -/
def wipeD (ρ : En) : List Nat → En
  | [] => ρ
  | v :: vs => (wipeD ρ vs).set v none
theorem ER.none {H : Hp} {μ : List Addr} {ρ : En} {σ : L2.St} (r : ER K H μ ρ σ) (i : Nat) : ER K H μ (ρ.set i none) (σ.set i none) := ⟨by simp [r.len], fun j e h => by
  by_cases hj : i = j
  · subst hj
    by_cases hl : i < ρ.length
    · rw [List.getElem?_set_self hl] at h
      cases h
    · rw [List.getElem?_eq_none (by simpa using hl)] at h
      cases h
  · rw [List.getElem?_set_ne hj] at h
    obtain ⟨w, h1, h2⟩ := r.val j e h
    exact ⟨w, by rw [List.getElem?_set_ne hj]; exact h1, h2⟩⟩
theorem ER.wipe {H : Hp} {μ : List Addr} {ρ : En} {σ : L2.St} (r : ER K H μ ρ σ) : ∀ vs : List Nat, ER K H μ (wipeD ρ vs) (L2.wipe σ vs)
  | [] => r
  | v :: vs => (ER.wipe r vs).none v
theorem wipe_set {σ : L2.St} {i : Nat} {x : Option V} : ∀ {vs : List Nat}, i ∈ vs → L2.wipe (σ.set i x) vs = L2.wipe σ vs
  | [], h => nomatch h
  | v :: vs, h => by
    show (L2.wipe (σ.set i x) vs).set v none = (L2.wipe σ vs).set v none
    by_cases hi : i ∈ vs
    · rw [wipe_set hi]
    · have e : i = v := by
        rcases List.mem_cons.mp h with h | h
        · exact h
        · exact absurd h hi
      subst e
      have out : ∀ vs : List Nat, i ∉ vs → L2.wipe (σ.set i x) vs = (L2.wipe σ vs).set i x := by
        intro vs
        induction vs with
        | nil => intro _; rfl
        | cons u us ih =>
          intro hu
          have h1 : i ≠ u := fun e => hu (by rw [e]; exact List.mem_cons_self)
          have h2 : i ∉ us := fun e => hu (List.mem_cons_of_mem _ e)
          show (L2.wipe (σ.set i x) us).set u none = ((L2.wipe σ us).set u none).set i x
          rw [ih h2, List.set_comm _ _ h1]
      rw [out vs hi, List.set_set]
theorem wipe_wipe {σ : L2.St} : ∀ (us vs : List Nat), (∀ i ∈ us, i ∈ vs) → L2.wipe (L2.wipe σ us) vs = L2.wipe σ vs
  | [], _, _ => rfl
  | u :: us, vs, h => by
    show L2.wipe ((L2.wipe σ us).set u none) vs = _
    rw [wipe_set (h u List.mem_cons_self), wipe_wipe us vs fun i hi => h i (List.mem_cons_of_mem _ hi)]
abbrev XG := D → En → Option En
/-- vs: the slots that it stores to -/
def tG (K : PySem.W.Frag) (vs : List Nat) (g : XG) : TG := fun v σ H Q => ∃ ρ st μ d, ER K H μ ρ σ ∧ SR K H μ st ∧ Rl K H μ d v ∧ ∃ ρ', g d ρ = some ρ' ∧ ∀ σ', ER K H μ ρ' σ' → (∀ us, (∀ i ∈ vs, i ∈ us) → L2.wipe σ' us = L2.wipe σ us) → Q σ' H
def tGs (K : PySem.W.Frag) (vs : List Nat) : TGs := fun xs σ H Q => ∃ ρ st μ ds, ER K H μ ρ σ ∧ SR K H μ st ∧ Rls K H μ ds xs ∧ ds.length = vs.length ∧ ∀ σ', ER K H μ (List.foldl (fun (r : En) (p : Nat × D) => r.set p.1 (some p.2)) ρ (vs.zip ds)) σ' → (∀ us, (∀ i ∈ vs, i ∈ us) → L2.wipe σ' us = L2.wipe σ us) → Q σ' H
def gN (i : Nat) : XG := fun d ρ => some (ρ.set i (some d))
def gT (vs : List Nat) : XG := fun d ρ => match d with
  | .tup ds => if ds.length = vs.length then some (List.foldl (fun (r : En) (p : Nat × D) => r.set p.1 (some p.2)) ρ (vs.zip ds)) else none
  | _ => none
section
variable {X : Cx} {pos : Pos} {e : Expr} {es : List Expr}
theorem pg_imp {t t' : TG} (h : PG X e t) (i : ∀ v σ H Q, t' v σ H Q → t v σ H Q) : PG X e t' := ⟨fun pins s σ H v u Q I r q => h.run pins s σ H v u Q I r (i v σ H Q q)⟩
theorem pgs_imp {t t' : TGs} (h : PGs X es t) (i : ∀ v σ H Q, t' v σ H Q → t v σ H Q) : PGs X es t' := ⟨fun pins s σ H v u Q I r q => h.run pins s σ H v u Q I r (i v σ H Q q)⟩
theorem g_name (i : Nat) {x : Str} (hN : X.N.Nodup) (hi : X.N[i]? = some x := by rfl) (hx : Loc X.env.scope x := by first | exact .inl rfl | exact .inr rfl) (hf : X.fn x = true ∨ X.env.scope.names.lookup x = some .local := by first | exact .inl rfl | exact .inr rfl) : PG X (.Name x pos) (tG X.K [i] (gN i)) :=
  pg_imp (pg_name hN hi hx hf) fun v σ H Q ⟨ρ, st, μ, d, E, S, r, ρ', h, q⟩ => by
    cases h
    exact q _ (E.set r i) fun us hu => wipe_set (hu i (by simp))
theorem gs_nil : PGs X [] (tGs X.K []) := pgs_imp pgs_nil fun v σ H Q ⟨ρ, st, μ, ds, E, S, r, hl, q⟩ => by
  have : ds = [] := List.eq_nil_of_length_eq_zero hl
  subst this
  exact ⟨r.nil_inv, q σ E fun _ _ => rfl⟩
theorem gs_cons {i : Nat} {vs : List Nat} (h1 : PG X e (tG X.K [i] (gN i))) (h2 : PGs X es (tGs X.K vs)) (hs : (assignEach (e :: es) X.env).map (·.2) = assign e X.env :: (assignEach es X.env).map (·.2) := by rfl) : PGs X (e :: es) (tGs X.K (i :: vs)) :=
  pgs_imp (pgs_cons h1 h2 hs) fun v σ H Q ⟨ρ, st, μ, ds, E, S, r, hl, q⟩ => by
    cases ds with
    | nil => simp at hl
    | cons d ds =>
      obtain ⟨x, xs, rfl, ra, rb⟩ := r.cons_inv
      refine ⟨x, xs, rfl, ρ, st, μ, d, E, S, ra, _, rfl, fun σ1 E1 w1 => ?_⟩
      refine ⟨_, st, μ, ds, E1, S, rb, by simpa using hl, fun σ2 E2 w2 => q σ2 E2 fun us hu => ?_⟩
      rw [w2 us fun j hj => hu j (List.mem_cons_of_mem _ hj), w1 us fun j hj => hu j (by simp at hj; subst hj; exact List.mem_cons_self)]
theorem g_tup {vs : List Nat} {k : Nat} (hc : X.calm = true) (h : PGs X es (tGs X.K vs)) (hn : (assignEach es X.env).length = vs.length := by rfl) (hst : (assignEach es X.env).findIdx? (·.1) = none := by rfl) : PG X (.Tuple es k pos) (tG X.K vs (gT vs)) :=
  pg_imp (pg_tup hc h hn hst) fun v σ H Q ⟨ρ, st, μ, d, E, S, r, ρ', h, q⟩ => by
    unfold gT at h
    split at h
    · rename_i ds
      split at h
      · rename_i hl
        cases h
        obtain ⟨a, us, rfl, hq, q1⟩ := seqT (K := X.K) r
        exact ⟨a, us, rfl, hq, by rw [← q1.length]; exact hl, ρ, st, μ, ds, E, S, q1, hl, q⟩
      · cases h
    · cases h
end

/-! ### what is walked -/
structure Wk where
  its : List D
  ok : Stt → Prop
structure ItOk (K : PySem.W.Frag) (w : Wk) (J : It) (H : Hp) (μ : List Addr) : Prop where
  go : ∀ (H2 : Hp) (μ2 : List Addr) (st2 : Stt) (i : Nat) (d : D), Ext K H μ H2 μ2 → SR K H2 μ2 st2 → w.ok st2 → w.its[i]? = some d → J.go i H2
  yld : ∀ (H2 : Hp) (μ2 : List Addr) (st2 : Stt) (i : Nat) (d : D) (x : V) (H3 : Hp), Ext K H μ H2 μ2 → SR K H2 μ2 st2 → w.ok st2 → w.its[i]? = some d → J.yld i H2 x H3 → Ext K H2 μ2 H3 μ2 ∧ SR K H3 μ2 st2 ∧ Rl K H3 μ2 d x ∧ ∀ b o, H2 b = some o → H3 b = some o
  stop : ∀ (H2 : Hp) (μ2 : List Addr) (st2 : Stt) (i : Nat), Ext K H μ H2 μ2 → SR K H2 μ2 st2 → w.ok st2 → w.its[i]? = none → J.stop i H2
abbrev XI := En → Stt → R Wk
def tXI (K : PySem.W.Frag) (W : WX) (f : XI) : TI := fun σ H Q => ∃ ρ st μ, ER K H μ ρ σ ∧ SR K H μ st ∧ RO K (wx K W σ) H μ (fun w _ H' μ' => ∀ J, ItOk K w J H' μ' → Q J H') (f ρ st)
theorem pi_imp {X : Cx} {tg e : Expr} {t t' : TI} (h : PI X tg e t) (i : ∀ σ H Q, t' σ H Q → t σ H Q) : PI X tg e t' := ⟨fun pins s σ H Q I q => h.run pins s σ H Q I (i σ H Q q)⟩
theorem pi_or {X : Cx} {tg e : Expr} {t t' : TI} (h : PI X tg e t) (h' : PI X tg e t') : PI X tg e (fun σ H R => t σ H R ∨ t' σ H R) := ⟨fun pins s σ H Q I q => by
  rcases q with q | q
  · exact h.run pins s σ H Q I q
  · exact h'.run pins s σ H Q I q⟩
/-- a list (as it stands), a tuple, a text -/
def wkOf (d : D) (st : Stt) : R Wk := match d with
  | .tup ds => .ok ⟨ds, fun _ => True⟩ st
  | .cl ds => .ok ⟨ds, fun _ => True⟩ st
  | .str x => .ok ⟨signs x, fun _ => True⟩ st
  | .loc n => match items st (.loc n) with
    | some ds => .ok ⟨ds, fun st => items st (.loc n) = some ds⟩ st
    | none => .no
  | _ => .no
def xIt (f : XE) : XI := fun ρ st => (f ρ st).bind wkOf
section
variable {X : Cx} {tg e e2 : Expr} {f f2 : XE} {W : WX}
theorem rd_inj {H : Hp} {a : Addr} {xs ys : List V} (h : Rd H a (.lst xs)) (g : Rd H a (.lst ys)) : xs = ys := by
  rcases h with h | ⟨o, h⟩ <;> rcases g with g | ⟨o', g⟩ <;> (rw [h] at g; first | (cases g; rfl) | cases g)
theorem itl_ok {H : Hp} {μ : List Addr} {st : Stt} {n : Nat} {ds : List D} {a : Addr} (S : SR K H μ st) (hi : items st (.loc n) = some ds) (ha : μ[n]? = some a) : ItOk K ⟨ds, fun st => items st (.loc n) = some ds⟩ (Itl K a) H μ := by
  have key : ∀ (H2 : Hp) (μ2 : List Addr) (st2 : Stt), Ext K H μ H2 μ2 → SR K H2 μ2 st2 → items st2 (.loc n) = some ds → ∃ vs, SqL K H2 a vs ∧ Rls K H2 μ2 ds vs := fun H2 μ2 st2 e S2 h => by
    obtain ⟨b, vs, eb, hq, q1⟩ := S2.seqL (K := K) h (.loc (e.get ha))
    cases eb
    exact ⟨vs, hq, q1⟩
  refine ⟨fun H2 μ2 st2 i d e S2 h hd => ?_, fun H2 μ2 st2 i d x H3 e S2 h hd hy => ?_, fun H2 μ2 st2 i e S2 h hd => ?_⟩
  · obtain ⟨vs, hq, q1⟩ := key H2 μ2 st2 e S2 h
    obtain ⟨v, h1, _⟩ := q1.get hd
    exact ⟨vs, v, hq, h1⟩
  · obtain ⟨vs, hq, q1⟩ := key H2 μ2 st2 e S2 h
    obtain ⟨v, h1, r⟩ := q1.get hd
    obtain ⟨rfl, hv⟩ := hy
    have : x = v := Option.some.inj ((hv vs hq).symm.trans h1)
    subst this
    exact ⟨Ext.refl _ _, S2, r, fun _ _ h => h⟩
  · obtain ⟨vs, hq, q1⟩ := key H2 μ2 st2 e S2 h
    refine ⟨vs, hq, ?_⟩
    rw [← q1.length]
    exact List.getElem?_eq_none_iff.mp hd
theorem itt_ok {H : Hp} {μ : List Addr} {ds : List D} {a : Addr} {vs : List V} (ht : SqT K H a vs) (q : Rls K H μ ds vs) : ItOk K ⟨ds, fun _ => True⟩ (Itt K a) H μ := by
  refine ⟨fun H2 μ2 st2 i d e S2 _ hd => ?_, fun H2 μ2 st2 i d x H3 e S2 _ hd hy => ?_, fun H2 μ2 st2 i e S2 _ hd => ?_⟩
  · obtain ⟨v, h1, _⟩ := q.get hd
    exact ⟨vs, v, e.tups _ _ ht, h1⟩
  · obtain ⟨v, h1, r⟩ := q.get hd
    obtain ⟨rfl, hv⟩ := hy
    have : x = v := Option.some.inj ((hv vs (e.tups _ _ ht)).symm.trans h1)
    subst this
    exact ⟨Ext.refl _ _, S2, r.ext e, fun _ _ h => h⟩
  · refine ⟨vs, e.tups _ _ ht, ?_⟩
    rw [← q.length]
    exact List.getElem?_eq_none_iff.mp hd
theorem itc_ok {H : Hp} {μ : List Addr} {ds : List D} {a : Addr} {vs : List V} (ht : CL K H a vs) (q : Rls K H μ ds vs) : ItOk K ⟨ds, fun _ => True⟩ (Itl K a) H μ := by
  refine ⟨fun H2 μ2 st2 i d e S2 _ hd => ?_, fun H2 μ2 st2 i d x H3 e S2 _ hd hy => ?_, fun H2 μ2 st2 i e S2 _ hd => ?_⟩
  · obtain ⟨v, h1, _⟩ := q.get hd
    exact ⟨vs, v, (e.cls _ _ ht).sq, h1⟩
  · obtain ⟨v, h1, r⟩ := q.get hd
    obtain ⟨rfl, hv⟩ := hy
    have : x = v := Option.some.inj ((hv vs (e.cls _ _ ht).sq).symm.trans h1)
    subst this
    exact ⟨Ext.refl _ _, S2, r.ext e, fun _ _ h => h⟩
  · refine ⟨vs, (e.cls _ _ ht).sq, ?_⟩
    rw [← q.length]
    exact List.getElem?_eq_none_iff.mp hd
theorem its_ok {H : Hp} {μ : List Addr} {x : Str} : ItOk K ⟨signs x, fun _ => True⟩ (Its x) H μ := by
  have len : (signs x).length = x.cps.size := by simp [signs]
  have at_ : ∀ (i : Nat) (d : D), (signs x)[i]? = some d → ∃ c, x.cps[i]? = some c ∧ d = .str ⟨#[c]⟩ := fun i d h => by
    unfold signs at h
    rw [List.getElem?_map] at h
    obtain ⟨c, h1, h2⟩ := Option.map_eq_some_iff.mp h
    exact ⟨c, by rw [← Array.getElem?_toList]; exact h1, h2.symm⟩
  refine ⟨fun H2 μ2 st2 i d e S2 _ hd => ?_, fun H2 μ2 st2 i d v H3 e S2 _ hd hy => ?_, fun H2 μ2 st2 i e S2 _ hd => ?_⟩
  · have := (List.getElem?_eq_some_iff.mp hd).1
    rw [len] at this
    exact this
  · obtain ⟨c, h1, rfl⟩ := at_ i d hd
    obtain ⟨rfl, c', h2, rfl⟩ := hy
    rw [h1] at h2
    cases h2
    exact ⟨Ext.refl _ _, S2, .str _, fun _ _ h => h⟩
  · have := List.getElem?_eq_none_iff.mp hd
    rw [len] at this
    exact this
theorem i_it (he : PE X e (tX X.K W f)) : PI X tg e (tXI X.K W (xIt f)) :=
  pi_imp (pi_or (pi_list he) (pi_or (pi_tup he) (pi_str he))) fun σ H Q ⟨ρ, st, μ, E, S, h⟩ => by
    cases hf : f ρ st with
    | no => unfold xIt at h; rw [hf] at h; exact h.elim
    | ex x s1 =>
      unfold xIt at h
      rw [hf] at h
      exact .inl ⟨ρ, st, μ, E, S, by rw [hf]; exact h⟩
    | ok x s1 =>
      unfold xIt at h
      rw [hf] at h
      have h : RO X.K (wx X.K W σ) H μ (fun w _ H' μ' => ∀ J, ItOk X.K w J H' μ' → Q J H') (wkOf x s1) := h
      cases x with
      | tup ds =>
        refine .inr (.inl ⟨ρ, st, μ, E, S, ?_⟩)
        rw [hf]
        intro H1 μ1 e1 S1 v r1
        obtain ⟨a, vs, rfl, hq, q1⟩ := seqT (K := X.K) r1
        exact ⟨a, rfl, ⟨vs, hq⟩, h H1 μ1 e1 S1 _ (itt_ok hq q1)⟩
      | str y =>
        refine .inr (.inr ⟨ρ, st, μ, E, S, ?_⟩)
        rw [hf]
        intro H1 μ1 e1 S1 v r1
        cases r1
        exact ⟨y, rfl, h H1 μ1 e1 S1 _ its_ok⟩
      | loc n =>
        refine .inl ⟨ρ, st, μ, E, S, ?_⟩
        rw [hf]
        intro H1 μ1 e1 S1 v r1
        have h : RO X.K (wx X.K W σ) H μ (fun w _ H' μ' => ∀ J, ItOk X.K w J H' μ' → Q J H') (match items s1 (.loc n) with
          | some ds => .ok ⟨ds, fun st => items st (.loc n) = some ds⟩ s1
          | none => .no) := h
        cases h2 : items s1 (.loc n) with
        | none => rw [h2] at h; exact h.elim
        | some ds =>
          rw [h2] at h
          obtain ⟨a, vs, rfl, hq, q1⟩ := S1.seqL (K := X.K) h2 r1
          cases r1 with
          | loc ha => exact ⟨a, rfl, ⟨vs, hq⟩, h H1 μ1 e1 S1 _ (itl_ok S1 h2 ha)⟩
      | cl ds =>
        refine .inl ⟨ρ, st, μ, E, S, ?_⟩
        rw [hf]
        intro H1 μ1 e1 S1 v r1
        obtain ⟨a, vs, ev, hq, q1⟩ := seqC (K := X.K) r1
        cases r1 with
        | cl hc q2 => exact ⟨_, rfl, ⟨_, hc.sq⟩, h H1 μ1 e1 S1 _ (itc_ok hc q2)⟩
      | non => exact h.elim
      | bl _ => exact h.elim
      | int _ => exact h.elim
/-- range(n), range(a, b) -/
def intsD (a : Int) (n : Nat) : List D := (List.range n).map fun (i : Nat) => .int (a + i)
theorem itr_ok {H : Hp} {μ : List Addr} {a : Int} {n : Nat} : ItOk K ⟨intsD a n, fun _ => True⟩ (Itr a n) H μ := by
  have len : (intsD a n).length = n := by simp [intsD]
  have at_ : ∀ (i : Nat) (d : D), (intsD a n)[i]? = some d → d = .int (a + i) := fun i d h => by
    unfold intsD at h
    rw [List.getElem?_map] at h
    obtain ⟨c, h1, h2⟩ := Option.map_eq_some_iff.mp h
    have h3 := List.getElem?_eq_some_iff.mp h1
    obtain ⟨h4, h5⟩ := h3
    rw [List.getElem_range] at h5
    subst h5
    exact h2.symm
  refine ⟨fun H2 μ2 st2 i d e S2 _ hd => ?_, fun H2 μ2 st2 i d v H3 e S2 _ hd hy => ?_, fun H2 μ2 st2 i e S2 _ hd => ?_⟩
  · have := (List.getElem?_eq_some_iff.mp hd).1
    rw [len] at this
    exact this
  · have := at_ i d hd
    subst this
    obtain ⟨rfl, rfl⟩ := hy
    exact ⟨Ext.refl _ _, S2, .int _, fun _ _ h => h⟩
  · have := List.getElem?_eq_none_iff.mp hd
    rw [len] at this
    exact this
def wkRange (ds : List D) (st : Stt) : R Wk := match ds with
  | [.int j] => if -(2 ^ 62) ≤ j ∧ j < 2 ^ 62 then .ok ⟨intsD 0 j.toNat, fun _ => True⟩ st else .no
  | _ => .no
def wkRange2 (ds : List D) (st : Stt) : R Wk := match ds with
  | [.int i, .int j] => if -(2 ^ 62) ≤ i ∧ i < 2 ^ 62 ∧ -(2 ^ 62) ≤ j ∧ j < 2 ^ 62 then .ok ⟨intsD i (j - i).toNat, fun _ => True⟩ st else .no
  | _ => .no
def xRange (g : XA) : XI := fun ρ st => (g ρ st).bind wkRange
def xRange2 (g : XA) : XI := fun ρ st => (g ρ st).bind wkRange2
theorem i_range {g : XA} {p pos : Pos} (hm : X.mg "range" = none) (ha : PA X [e] (tXA X.K W g)) (hg : Gl X "range" := by rfl) (hs : starEach [e] X.env = [(false, eval e X.env)] := by rfl) : PI X tg (.Call (.Name "range" p) [e] [] pos) (tXI X.K W (xRange g)) :=
  pi_imp (pi_range1 hg hm ha hs) fun σ H Q ⟨ρ, st, μ, E, S, h⟩ =>
    tXA_of E S h.bind fun ds s1 H1 μ1 vs e1 E1 S1 r1 h1 => by
      unfold wkRange at h1
      split at h1
      · rename_i j
        split at h1
        · rename_i hj
          obtain ⟨v, rfl, rv⟩ := rls1 r1
          cases rv
          exact ⟨j, rfl, hj.1, hj.2, h1 H1 μ1 (Ext.refl _ _) S1 _ itr_ok⟩
        · exact h1.elim
      · exact h1.elim
theorem i_range2 {g : XA} {p pos : Pos} (hm : X.mg "range" = none) (ha : PA X [e, e2] (tXA X.K W g)) (hg : Gl X "range" := by rfl) (hs : starEach [e, e2] X.env = [(false, eval e X.env), (false, eval e2 X.env)] := by rfl) (hs2 : starEach [e2] X.env = [(false, eval e2 X.env)] := by rfl) : PI X tg (.Call (.Name "range" p) [e, e2] [] pos) (tXI X.K W (xRange2 g)) :=
  pi_imp (pi_range2 hg hm ha hs hs2) fun σ H Q ⟨ρ, st, μ, E, S, h⟩ =>
    tXA_of E S h.bind fun ds s1 H1 μ1 vs e1 E1 S1 r1 h1 => by
      unfold wkRange2 at h1
      split at h1
      · rename_i i j
        split at h1
        · rename_i hj
          obtain ⟨v, u, rfl, rv, ru⟩ := rls2 r1
          cases rv
          cases ru
          exact ⟨i, j, rfl, hj, h1 H1 μ1 (Ext.refl _ _) S1 _ itr_ok⟩
        · exact h1.elim
      · exact h1.elim
/-- enumerate(xs), zip(xs, ys) of lists -/
def enumD (ds : List D) : List D := ds.zipIdx.map fun p => .tup [.int p.2, p.1]
def zipD (ds es : List D) : List D := (ds.zip es).map fun p => .tup [p.1, p.2]
def wkEnum (ds : List D) (st : Stt) : R Wk := match ds with
  | [.loc n] => match items st (.loc n) with
    | some ds => .ok ⟨enumD ds, fun st => items st (.loc n) = some ds⟩ st
    | none => .no
  | _ => .no
def wkZip (ds : List D) (st : Stt) : R Wk := match ds with
  | [.loc n, .loc m] => match items st (.loc n), items st (.loc m) with
    | some ds, some es => .ok ⟨zipD ds es, fun st => items st (.loc n) = some ds ∧ items st (.loc m) = some es⟩ st
    | _, _ => .no
  | _ => .no
def xEnum (g : XA) : XI := fun ρ st => (g ρ st).bind wkEnum
def xZip (g : XA) : XI := fun ρ st => (g ρ st).bind wkZip
theorem pair_new {H : Hp} {μ : List Addr} {st : Stt} {T : Addr} {v u : V} {d e : D} (S : SR K H μ st) (hT : H T = none) (r : Rl K H μ d v) (r2 : Rl K H μ e u) : Ext K H μ (upd H T (.tup [v, u])) μ ∧ SR K (upd H T (.tup [v, u])) μ st ∧ Rl K (upd H T (.tup [v, u])) μ (.tup [d, e]) (.ref T) ∧ ∀ b o, H b = some o → (upd H T (.tup [v, u])) b = some o :=
  ⟨ext_tup hT _, S.tup hT _, .tup (.inl (.inl upd_same)) (.cons (r.ext (ext_tup hT _)) (.cons (r2.ext (ext_tup hT _)) .nil)), fun b o h => by rw [upd_ne (ne_of_none h hT)]; exact h⟩
theorem i_enum {g : XA} {p pos tpos : Pos} {elts : List Expr} {kk : Nat} (hm : X.mg "enumerate" = none) (ha : PA X [e] (tXA X.K W g)) (hg : Gl X "enumerate" := by rfl) (hs : starEach [e] X.env = [(false, eval e X.env)] := by rfl) : PI X (.Tuple elts kk tpos) (.Call (.Name "enumerate" p) [e] [] pos) (tXI X.K W (xEnum g)) :=
  pi_imp (pi_enum hg hm ha hs) fun σ H Q ⟨ρ, st, μ, E, S, h⟩ => by
    refine tXA_of E S h.bind fun xs s1 H1 μ1 vs e1 E1 S1 r1 h1 => ?_
    unfold wkEnum at h1
    split at h1
    · rename_i n
      cases h2 : items s1 (.loc n) with
      | none => rw [h2] at h1; exact h1.elim
      | some ds =>
      rw [h2] at h1
      obtain ⟨v, rfl, rv⟩ := rls1 r1
      obtain ⟨a, us, rfl, hq, q1⟩ := S1.seqL (K := X.K) h2 rv
      have ha : μ1[n]? = some a := by
        cases rv with
        | loc ha => exact ha
      refine ⟨a, us, rfl, hq, h1 H1 μ1 (Ext.refl _ _) S1 _ ?_⟩
      have key : ∀ (H2 : Hp) (μ2 : List Addr) (st2 : Stt), Ext X.K H1 μ1 H2 μ2 → SR X.K H2 μ2 st2 → items st2 (.loc n) = some ds → ∃ vs, SqL X.K H2 a vs ∧ Rls X.K H2 μ2 ds vs := fun H2 μ2 st2 e S2 h => by
        obtain ⟨b, vs, eb, hq, q1⟩ := S2.seqL (K := X.K) h (.loc (e.get ha))
        cases eb
        exact ⟨vs, hq, q1⟩
      have at_ : ∀ (i : Nat) (d : D), (enumD ds)[i]? = some d → ∃ x, ds[i]? = some x ∧ d = .tup [.int i, x] := fun i d h => by
        unfold enumD at h
        rw [List.getElem?_map] at h
        obtain ⟨⟨x, k⟩, h1, h2⟩ := Option.map_eq_some_iff.mp h
        rw [List.getElem?_zipIdx] at h1
        obtain ⟨y, h3, h4⟩ := Option.map_eq_some_iff.mp h1
        cases h4
        refine ⟨x, h3, ?_⟩
        rw [← h2]
        simp
      have len : (enumD ds).length = ds.length := by simp [enumD]
      refine ⟨fun H2 μ2 st2 i d e S2 h hd => ?_, fun H2 μ2 st2 i d x H3 e S2 h hd hy => ?_, fun H2 μ2 st2 i e S2 h hd => ?_⟩
      · obtain ⟨vs, hq, q1⟩ := key H2 μ2 st2 e S2 h
        obtain ⟨y, h3, _⟩ := at_ i d hd
        obtain ⟨v, h4, _⟩ := q1.get h3
        exact ⟨vs, v, hq, h4⟩
      · obtain ⟨vs, hq, q1⟩ := key H2 μ2 st2 e S2 h
        obtain ⟨y, h3, rfl⟩ := at_ i d hd
        obtain ⟨v, h4, r⟩ := q1.get h3
        obtain ⟨T, z, rfl, hT, rfl, hz⟩ := hy
        have : z = v := Option.some.inj ((hz vs hq).symm.trans h4)
        subst this
        exact pair_new S2 hT (.int _) r
      · obtain ⟨vs, hq, q1⟩ := key H2 μ2 st2 e S2 h
        refine ⟨vs, hq, ?_⟩
        rw [← q1.length, ← len]
        exact List.getElem?_eq_none_iff.mp hd
    · exact h1.elim
theorem i_zip {g : XA} {p pos tpos : Pos} {elts : List Expr} {kk : Nat} (hm : X.mg "zip" = none) (ha : PA X [e, e2] (tXA X.K W g)) (hg : Gl X "zip" := by rfl) (hs : starEach [e, e2] X.env = (false, eval e X.env) :: starEach [e2] X.env := by rfl) (hpl : (backTo pos (starEach [e2] X.env)).any (·.1) = false := by rfl) : PI X (.Tuple elts kk tpos) (.Call (.Name "zip" p) [e, e2] [] pos) (tXI X.K W (xZip g)) :=
  pi_imp (pi_zip hg hm ha hs hpl) fun σ H Q ⟨ρ, st, μ, E, S, h⟩ => by
    refine tXA_of E S h.bind fun xs s1 H1 μ1 vs e1 E1 S1 r1 h1 => ?_
    unfold wkZip at h1
    split at h1
    · rename_i n m
      cases h2 : items s1 (.loc n) with
      | none => rw [h2] at h1; exact h1.elim
      | some ds =>
      cases h2' : items s1 (.loc m) with
      | none => rw [h2, h2'] at h1; exact h1.elim
      | some es =>
      rw [h2, h2'] at h1
      obtain ⟨v, u, rfl, rv, ru⟩ := rls2 r1
      obtain ⟨a, us, rfl, hq, q1⟩ := S1.seqL (K := X.K) h2 rv
      obtain ⟨b, ws, rfl, hq', q1'⟩ := S1.seqL (K := X.K) h2' ru
      have ha : μ1[n]? = some a := by
        cases rv with
        | loc ha => exact ha
      have hb : μ1[m]? = some b := by
        cases ru with
        | loc hb => exact hb
      refine ⟨a, b, us, ws, rfl, hq, hq', h1 H1 μ1 (Ext.refl _ _) S1 _ ?_⟩
      have key : ∀ (n : Nat) (a : Addr) (ds : List D), μ1[n]? = some a → ∀ (H2 : Hp) (μ2 : List Addr) (st2 : Stt), Ext X.K H1 μ1 H2 μ2 → SR X.K H2 μ2 st2 → items st2 (.loc n) = some ds → ∃ vs, SqL X.K H2 a vs ∧ Rls X.K H2 μ2 ds vs := fun n a ds ha H2 μ2 st2 e S2 h => by
        obtain ⟨b, vs, eb, hq, q1⟩ := S2.seqL (K := X.K) h (.loc (e.get ha))
        cases eb
        exact ⟨vs, hq, q1⟩
      have at_ : ∀ (i : Nat) (d : D), (zipD ds es)[i]? = some d → ∃ x y, ds[i]? = some x ∧ es[i]? = some y ∧ d = .tup [x, y] := fun i d h => by
        unfold zipD at h
        rw [List.getElem?_map] at h
        obtain ⟨⟨x, y⟩, h1, h2⟩ := Option.map_eq_some_iff.mp h
        obtain ⟨h3, h4⟩ := List.getElem?_zip_eq_some.mp h1
        exact ⟨x, y, h3, h4, h2.symm⟩
      refine ⟨fun H2 μ2 st2 i d e S2 h hd => ?_, fun H2 μ2 st2 i d x H3 e S2 h hd hy => ?_, fun H2 μ2 st2 i e S2 h hd => ?_⟩
      · obtain ⟨vs, hq, q1⟩ := key n a ds ha H2 μ2 st2 e S2 h.1
        obtain ⟨vs', hq', q1'⟩ := key m b es hb H2 μ2 st2 e S2 h.2
        obtain ⟨y, z, h3, h3', _⟩ := at_ i d hd
        obtain ⟨v, h4, _⟩ := q1.get h3
        obtain ⟨v', h4', _⟩ := q1'.get h3'
        exact ⟨vs, vs', v, v', hq, hq', h4, h4'⟩
      · obtain ⟨vs, hq, q1⟩ := key n a ds ha H2 μ2 st2 e S2 h.1
        obtain ⟨vs', hq', q1'⟩ := key m b es hb H2 μ2 st2 e S2 h.2
        obtain ⟨y, z, h3, h3', rfl⟩ := at_ i d hd
        obtain ⟨v, h4, r⟩ := q1.get h3
        obtain ⟨v', h4', r'⟩ := q1'.get h3'
        obtain ⟨T, z1, z2, rfl, hT, rfl, hz, hz'⟩ := hy
        have : z1 = v := Option.some.inj ((hz vs hq).symm.trans h4)
        subst this
        have : z2 = v' := Option.some.inj ((hz' vs' hq').symm.trans h4')
        subst this
        exact pair_new S2 hT r r'
      · obtain ⟨vs, hq, q1⟩ := key n a ds ha H2 μ2 st2 e S2 h.1
        obtain ⟨vs', hq', q1'⟩ := key m b es hb H2 μ2 st2 e S2 h.2
        refine ⟨vs, vs', hq, hq', ?_⟩
        rw [← q1.length, ← q1'.length]
        have := List.getElem?_eq_none_iff.mp hd
        simp only [zipD, List.length_map, List.length_zip] at this
        omega
    · exact h1.elim
end
end Rg

set_option Elab.async false
set_option linter.all false
set_option maxRecDepth 100000
namespace Rg
open PySem PySem.Spec PyProof.Rows L2

/-! ### statements -/
def sNil : XS := fun ρ st => .nx ρ st
def sCons (f g : XS) : XS := fun ρ st => (f ρ st).seq g
def sSet (i : Nat) (f : XE) : XS := fun ρ st => (f ρ st).out ρ fun d s => .nx (ρ.set i (some d)) s
def gOut (g : XG) (ρ : En) (d : D) (s : Stt) : Out := match g d ρ with
  | some ρ' => .nx ρ' s
  | none => .no
def sAsg (f : XE) (g : XG) : XS := fun ρ st => (f ρ st).out ρ (gOut g ρ)
def sExpr (f : XE) : XS := fun ρ st => (f ρ st).out ρ fun _ s => .nx ρ s
def sRet (f : XE) : XS := fun ρ st => (f ρ st).out ρ fun d s => .rt d s
def sIf (t : XT) (f g : XS) : XS := fun ρ st => (t ρ st).out ρ fun b s => if b = true then f ρ s else g ρ s
def sNo : XS := fun _ _ => .no
def sPass : XS := fun ρ st => .nx ρ st
def sBrk : XS := fun ρ st => .bk ρ st
def sCont : XS := fun ρ st => .ct ρ st
section
variable {X : Cx} {st : Stmt} {rest : List Stmt} {f g : XS} {e tg c : Expr} {fe : XE} {pos : Pos} {W : WX}
theorem ss_nil : PSs X [] (tXS X.K W sNil) := pss_imp pss_nil fun D' σ H ⟨ρ, s, μ, E, S, h⟩ => h σ H μ (Ext.refl _ _) E S
theorem ss_cons (h1 : PS X st (tXS X.K W f)) (h2 : PSs X rest (tXS X.K W g)) : PSs X (st :: rest) (tXS X.K W (sCons f g)) :=
  pss_imp (pss_cons h1 h2) fun D' σ H ⟨ρ, s, μ, E, S, h⟩ => by
    unfold sCons at h
    refine ⟨ρ, s, μ, E, S, ?_⟩
    cases e1 : f ρ s with
    | no => rw [e1] at h; exact h
    | nx ρ' s' =>
      rw [e1] at h
      exact fun σ1 H1 μ1 ex E1 S1 => ⟨ρ', s', μ1, E1, S1, outOk.at ex h⟩
    | rt d s' => rw [e1] at h; exact h
    | bk ρ' s' => rw [e1] at h; exact h
    | ct ρ' s' => rw [e1] at h; exact h
    | xx ρ' e s' => rw [e1] at h; exact h
theorem s_never : PS X st (tXS X.K W sNo) := ps_imp ps_never fun D' σ H ⟨ρ, s, μ, E, S, h⟩ => h.elim
theorem s_pass : PS X (.Pass pos) (tXS X.K W sPass) := ps_imp ps_pass fun D' σ H ⟨ρ, s, μ, E, S, h⟩ => h σ H μ (Ext.refl _ _) E S
theorem s_brk : PS X (.Break pos) (tXS X.K W sBrk) := ps_imp ps_break fun D' σ H ⟨ρ, s, μ, E, S, h⟩ => h σ H μ (Ext.refl _ _) E S
theorem s_cont : PS X (.Continue pos) (tXS X.K W sCont) := ps_imp ps_continue fun D' σ H ⟨ρ, s, μ, E, S, h⟩ => h σ H μ (Ext.refl _ _) E S
theorem s_set (i : Nat) {x : Str} {pos' : Pos} (hN : X.N.Nodup) (he : PE X e (tX X.K W fe)) (hi : X.N[i]? = some x := by rfl) (hx : Loc X.env.scope x := by first | exact .inl rfl | exact .inr rfl) (hs : swapsWith e (some (.Name x pos')) pos.line X.env = pure false := by rfl) (hf : X.fn x = true ∨ X.env.scope.names.lookup x = some .local := by first | exact .inl rfl | exact .inr rfl) :
    PS X (.Assign [.Name x pos'] e pos) (tXS X.K W (sSet i fe)) :=
  ps_imp (ps_set hN hi hx he hs hf) fun D' σ H ⟨ρ, s, μ, E, S, h⟩ =>
    tX_of E S (h.out E) fun d s1 H1 μ1 v e1 E1 S1 r q => q _ H1 μ1 (Ext.refl _ _) (E1.set r i) S1
theorem s_asg {vs : List Nat} {gt : XG} (he : PE X e (tX X.K W fe)) (hg : PG X tg (tG X.K vs gt)) (hs : swapsWithSole [tg] e pos.line X.env = pure false := by rfl) (hw : swappedStores [tg] e X.env = pure none := by rfl) (h1 : (assignEach [tg] X.env).map (·.2) = [assign tg X.env] := by rfl) :
    PS X (.Assign [tg] e pos) (tXS X.K W (sAsg fe gt)) :=
  ps_imp (ps_asg he hg hs hw h1) fun D' σ H ⟨ρ, s, μ, E, S, h⟩ =>
    tX_of E S (h.out E) fun d s1 H1 μ1 v e1 E1 S1 r q => by
      unfold gOut at q
      cases hgt : gt d ρ with
      | none => rw [hgt] at q; exact q.elim
      | some ρ' =>
        rw [hgt] at q
        exact ⟨ρ, s1, μ1, d, E1, S1, r, ρ', hgt, fun σ' E' _ => q σ' H1 μ1 (Ext.refl _ _) E' S1⟩
theorem s_expr (he : PE X e (tX X.K W fe)) (hs : swapsWith e none pos.line X.env = pure false := by rfl) : PS X (.Expr e pos) (tXS X.K W (sExpr fe)) :=
  ps_imp (ps_expr he hs) fun D' σ H ⟨ρ, s, μ, E, S, h⟩ =>
    tX_of E S (h.out E) fun d s1 H1 μ1 v e1 E1 S1 r q => q σ H1 μ1 (Ext.refl _ _) E1 S1
theorem s_ret (he : PE X e (tX X.K W fe)) : PS X (.Return (some e) pos) (tXS X.K W (sRet fe)) :=
  ps_imp (ps_ret he) fun D' σ H ⟨ρ, s, μ, E, S, h⟩ =>
    tX_of E S (h.out E) fun d s1 H1 μ1 v e1 E1 S1 r q => q v H1 μ1 (Ext.refl _ _) S1 r
theorem s_retN : PS X (.Return none pos) (tXS X.K W (sRet (xC .non))) :=
  ps_imp ps_retN fun D' σ H ⟨ρ, s, μ, E, S, h⟩ => h .non H μ (Ext.refl _ _) S .non
theorem s_if {a b : List Stmt} {t : XT} (hc : PT X c (tXT X.K W t)) (ha : PSs X a (tXS X.K W f)) (hb : PSs X b (tXS X.K W g)) : PS X (.If c a b pos) (tXS X.K W (sIf t f g)) :=
  ps_imp (ps_if hc ha hb) fun D' σ H ⟨ρ, s, μ, E, S, h⟩ =>
    tXT_of E S (h.out E) fun b s1 H1 μ1 e1 E1 S1 q => by
      cases b with
      | true => exact ⟨ρ, s1, μ1, E1, S1, q⟩
      | false => exact ⟨ρ, s1, μ1, E1, S1, q⟩
/-- xs[i] = v -/
def setL (o i v : D) (ρ : En) (s : Stt) : Out := match i, lstAt s o with
  | .int k, some p => match ixN p.2.length k with
    | some j => .nx ρ (s.set p.1 (.lst (p.2.set j v)))
    | none => .no
  | _, _ => .no
def sSubL (fo fi fv : XE) : XS := fun ρ st => (fv ρ st).out ρ fun v s => (fo ρ s).out ρ fun o s => (fi ρ s).out ρ fun i s => setL o i v ρ s
theorem s_subL {o i : Expr} {fo fi fv : XE} {p2 : Pos} (ho : PE X o (tX X.K W fo)) (hi : PE X i (tX X.K W fi)) (he : PE X e (tX X.K W fv))
    (ha : ∀ v, assign (.Subscript o i p2) X.env v = (do
      let ov ← holding [v] (eval o X.env)
      let iv ← holding [v, ov] (eval i X.env)
      standAt p2
      holding [v, ov, iv] (setItem ov iv v)
      release [v, ov, iv] []) := by intro _; rfl)
    (hs : swapsWithSole [.Subscript o i p2] e pos.line X.env = pure false := by rfl) (hw : swappedStores [.Subscript o i p2] e X.env = pure none := by rfl) (h1 : (assignEach [.Subscript o i p2] X.env).map (·.2) = [assign (.Subscript o i p2) X.env] := by rfl) :
    PS X (.Assign [.Subscript o i p2] e pos) (tXS X.K W (sSubL fo fi fv)) :=
  ps_imp (ps_asg he (pg_sub ho hi set_list ha) hs hw h1) fun D' σ H ⟨ρ, s, μ, E, S, h⟩ => by
    refine tX_of E S (h.out E) fun v s1 H1 μ1 vv e1 E1 S1 r1 hA => ?_
    refine tX_of E1 S1 (hA.out E1) fun o s2 H2 μ2 ov e2 E2 S2 r2 hB => ?_
    refine tX_of E2 S2 (hB.out E2) fun i s3 H3 μ3 iv e3 E3 S3 r3 hC => ?_
    unfold setL at hC
    split at hC
    · rename_i k p hp
      obtain ⟨n, ds⟩ := p
      split at hC
      · rename_i j hj
        obtain ⟨rfl, e4⟩ := lstAt_some hp
        cases r3
        obtain ⟨a, us, rfl, ha, t, q1⟩ := S3.lst e4 (r2.ext e3)
        refine ⟨a, us, k, j, rfl, rfl, t, by rw [← q1.length]; exact hj, ?_⟩
        have ex := ext_set S3 e4 ha (.lst (us.set j vv))
        exact hC σ _ μ3 ex (E3.ext ex) (S3.put e4 ha (o' := .lst (ds.set j v)) ⟨us.set j vv, upd_same, (Rls.set ((r1.ext e2).ext e3) j q1).ext ex⟩)
      · exact hC.elim
    · exact hC.elim
/-- d[k] = v -/
def keyD : D → Option Key
  | .int i => some (.inl i)
  | .str x => some (.inr x)
  | _ => none
theorem keyD_ok {K : PySem.W.Frag} {H : Hp} {μ : List Addr} {d : D} {v : V} {k : Key} (r : Rl K H μ d v) (h : keyD d = some k) : v = kV k := by
  cases d with
  | int i => cases h; cases r; rfl
  | str x => cases h; cases r; rfl
  | non => cases h
  | bl _ => cases h
  | tup _ => cases h
  | cl _ => cases h
  | loc _ => cases h
def dctAt (st : Stt) : D → Option (Nat × List (Key × D))
  | .loc n => match st[n]? with
    | some (.dct ds) => some (n, ds)
    | _ => none
  | _ => none
theorem dctAt_some {st : Stt} {d : D} {n : Nat} {ds : List (Key × D)} (h : dctAt st d = some (n, ds)) : d = .loc n ∧ st[n]? = some (.dct ds) := by
  cases d with
  | loc m =>
    have h : (match st[m]? with
      | some (.dct ds) => some (m, ds)
      | _ => none) = some (n, ds) := h
    cases e : st[m]? with
    | none => rw [e] at h; cases h
    | some o =>
      rw [e] at h
      cases o with
      | dct es => cases h; exact ⟨rfl, e⟩
      | lst ds => cases h
      | ins _ _ => cases h
  | non => cases h
  | bl _ => cases h
  | int _ => cases h
  | str _ => cases h
  | tup _ => cases h
  | cl _ => cases h
theorem kr_any {K : PySem.W.Frag} {H : Hp} {μ : List Addr} {k : Key} : ∀ {kd : List (Key × D)} {kv : List (Key × V)}, KR K H μ kd kv → (kv.any fun p => decide (p.1 = k)) = (kd.any fun p => decide (p.1 = k))
  | _, _, .nil => rfl
  | _, _, .cons r t => by rw [List.any_cons, List.any_cons, kr_any t, r.1]
theorem kr_map {K : PySem.W.Frag} {H : Hp} {μ : List Addr} {k : Key} {d : D} {v : V} (q : Rl K H μ d v) : ∀ {kd : List (Key × D)} {kv : List (Key × V)}, KR K H μ kd kv → KR K H μ (kd.map fun p => if p.1 = k then (p.1, d) else p) (kv.map fun p => if p.1 = k then (p.1, v) else p)
  | _, _, .nil => .nil
  | p :: kd, u :: kv, .cons r t => by
    refine .cons ?_ (kr_map q t)
    show (if p.1 = k then (p.1, d) else p).1 = (if u.1 = k then (u.1, v) else u).1 ∧ Rl K H μ (if p.1 = k then (p.1, d) else p).2 (if u.1 = k then (u.1, v) else u).2
    by_cases e : p.1 = k
    · rw [if_pos e, if_pos (r.1.symm.trans e)]
      exact ⟨r.1, q⟩
    · rw [if_neg e, if_neg fun z => e (r.1.trans z)]
      exact r
theorem kr_app {K : PySem.W.Frag} {H : Hp} {μ : List Addr} {k : Key} {d : D} {v : V} (q : Rl K H μ d v) : ∀ {kd : List (Key × D)} {kv : List (Key × V)}, KR K H μ kd kv → KR K H μ (kd ++ [(k, d)]) (kv ++ [(k, v)])
  | _, _, .nil => .cons ⟨rfl, q⟩ .nil
  | _, _, .cons r t => .cons r (kr_app q t)
def putD (kvs : List (Key × D)) (k : Key) (v : D) : List (Key × D) :=
  if (kvs.any fun kv => decide (kv.1 = k)) = true then kvs.map (fun kv => if kv.1 = k then (kv.1, v) else kv) else kvs ++ [(k, v)]
theorem kr_put {K : PySem.W.Frag} {H : Hp} {μ : List Addr} {k : Key} {d : D} {v : V} (q : Rl K H μ d v) {kd : List (Key × D)} {kv : List (Key × V)} (r : KR K H μ kd kv) : KR K H μ (putD kd k d) (putK kv k v) := by
  unfold putK putD
  rw [kr_any r]
  split
  · exact kr_map q r
  · exact kr_app q r
def setDk (o i v : D) (ρ : En) (s : Stt) : Out := match keyD i, dctAt s o with
  | some k, some p => if p.2.length < sizeLine then .nx ρ (s.set p.1 (.dct (putD p.2 k v))) else .no
  | _, _ => .no
def sPut (fo fi fv : XE) : XS := fun ρ st => (fv ρ st).out ρ fun v s => (fo ρ s).out ρ fun o s => (fi ρ s).out ρ fun i s => setDk o i v ρ s
theorem s_put {o i : Expr} {fo fi fv : XE} {p2 : Pos} (hu : X.A.units + 1 < cLine) (ho : PE X o (tX X.K W fo)) (hi : PE X i (tX X.K W fi)) (he : PE X e (tX X.K W fv)) (hs : swapsWith e (some (.Subscript o i p2)) pos.line X.env = pure false := by rfl) :
    PS X (.Assign [.Subscript o i p2] e pos) (tXS X.K W (sPut fo fi fv)) :=
  ps_imp (ps_dput hu ho hi he hs) fun D' σ H ⟨ρ, s, μ, E, S, h⟩ => by
    refine tX_of E S (h.out E) fun v s1 H1 μ1 vv e1 E1 S1 r1 hA => ?_
    refine tX_of E1 S1 (hA.out E1) fun o s2 H2 μ2 ov e2 E2 S2 r2 hB => ?_
    refine tX_of E2 S2 (hB.out E2) fun i s3 H3 μ3 iv e3 E3 S3 r3 hC => ?_
    unfold setDk at hC
    split at hC
    · rename_i k p hk hp
      obtain ⟨n, ds⟩ := p
      split at hC
      · rename_i hz
        obtain ⟨rfl, e4⟩ := dctAt_some hp
        have := keyD_ok r3 hk
        subst this
        obtain ⟨a, us, rfl, ha, t, q1⟩ := S3.dct e4 (r2.ext e3)
        have hl : us.length = ds.length := (Paired.length q1).symm
        refine ⟨a, _, rfl, DPut.k t (by rw [hl]; exact hz), ?_⟩
        have ex := ext_set S3 e4 ha (.dK (putK us k vv))
        exact hC σ _ μ3 ex (E3.ext ex) (S3.put e4 ha (o' := .dct (putD ds k v)) ⟨putK us k vv, upd_same, (kr_put ((r1.ext e2).ext e3) q1).ext ex⟩)
      · exact hC.elim
    · exact hC.elim
/-- x op= e -/
def DoesP (K : PySem.W.Frag) (r : TIp) (f : Op2) : Prop := Does K r f
def sAug (i : Nat) (f : Op2) (fe : XE) : XS := fun ρ st => (xV i ρ st).out ρ fun x s => (fe ρ s).out ρ fun y s => (R.of (f x y s)).out ρ fun z s => .nx (ρ.set i (some z)) s
theorem s_aug (i : Nat) {x : Str} {op : Operator} {ti : TIp} {fo : Op2} {pos' : Pos} (ho : PIp X op ti) (hd : Does X.K ti fo) (hN : X.N.Nodup) (he : PE X e (tX X.K W fe)) (hi : X.N[i]? = some x := by rfl) (hx : Loc X.env.scope x := by first | exact .inl rfl | exact .inr rfl) (hf : X.fn x = true ∨ X.env.scope.names.lookup x = some .local := by first | exact .inl rfl | exact .inr rfl) :
    PS X (.AugAssign (.Name x pos') op e pos) (tXS X.K W (sAug i fo fe)) :=
  ps_imp (ps_aug hN hi hx he ho hf) fun D' σ H ⟨ρ, s, μ, E, S, h⟩ => by
    unfold sAug xV at h
    cases hx : ρ[i]? with
    | none => rw [hx] at h; exact h.elim
    | some o =>
      rw [hx] at h
      cases o with
      | none => exact h.elim
      | some d =>
        obtain ⟨v, h1, h2⟩ := E.val i d hx
        refine ⟨v, h1, ?_⟩
        have h : outOk X.K W D' H μ ((fe ρ s).out ρ fun y s => (R.of (fo d y s)).out ρ fun z s => .nx (ρ.set i (some z)) s) := h
        refine tX_of E S (h.out E) fun y s1 H1 μ1 yv e1 E1 S1 r1 h => ?_
        obtain ⟨z, s2, h3, k⟩ := (h.out E1).of
        refine hd d y s1 z s2 v yv H1 μ1 _ (h2.ext e1) r1 S1 h3 fun zv H' μ' e' S' r' => ?_
        exact k H' μ' e' S' _ H' μ' (Ext.refl _ _) ((E1.ext e').set r' i) S'
/-- o[i] op= e, o a list -/
def oIxL : Op2 := fun x y st => match y with
  | .int i => match x with
    | .loc n => (items st (.loc n)).bind fun ds => (atI ds i).map fun d => (d, st)
    | _ => none
  | _ => none
theorem does_ixL {K : PySem.W.Frag} : Does K (rIxL K) oIxL := fun x y st d st' xv yv H μ Q rx ry S h q => by
  unfold oIxL at h
  split at h
  · rename_i i
    cases ry
    split at h
    · rename_i n
      obtain ⟨ds, h1, h⟩ := Option.bind_eq_some_iff.mp h
      obtain ⟨e, h2, h⟩ := Option.map_eq_some_iff.mp h
      cases h
      obtain ⟨a, vs, rfl, hq, q1⟩ := S.seqL (K := K) h1 rx
      obtain ⟨v, h3, h4⟩ := atI_rls q1 h2
      exact ⟨a, vs, i, v, rfl, rfl, hq, h3, q v H μ (Ext.refl _ _) S h4⟩
    · cases h
  · cases h
theorem get_list : PGet X (rIxL X.K) := by
  intro pins s σ H x y v u Q I rx ry h
  obtain ⟨p, xs, i, z, rfl, rfl, hq, he, q⟩ := h
  cases rx
  obtain ⟨t, rfl⟩ := ry
  obtain ⟨its, r, pl, hz⟩ := I.list hq
  obtain ⟨j, h1, h2, h3, h4, h5⟩ := atI_get he
  obtain ⟨w, ew, rw'⟩ := r.get h2
  have hl := r.length
  have hn := line63
  have fin : EP X pins σ Q w s := ⟨z, H, I, rw', q⟩
  by_cases h0 : 0 ≤ i
  · have hj : i.toNat = j := by
      rw [seqIndex_of h0 h5] at h1
      exact Option.some.inj h1
    exact wpAny_getItem_list pl.isList h0 (by omega) (by rw [hj]; simpa using ew) fin
  · have hj : (i + (its.toArray.size : Int)).toNat = j := by
      rw [seqIndex_neg (by omega) h4] at h1
      rw [List.size_toArray, ← hl]
      exact Option.some.inj h1
    exact wpAny_getItem_list_neg pl.isList (by omega) (by rw [List.size_toArray] <;> omega) (by omega) (by rw [hj]; simpa using ew) fin
def sAugL (fop : Op2) (fo fi fe : XE) : XS := fun ρ st => (fo ρ st).out ρ fun o s => (fi ρ s).out ρ fun i s => (R.of (oIxL o i s)).out ρ fun x s => (fe ρ s).out ρ fun y s => (R.of (fop x y s)).out ρ fun z s => setL o i z ρ s
theorem s_augL {o i : Expr} {fo fi : XE} {op : Operator} {tip : TIp} {fop : Op2} {tpos : Pos} (hp : PIp X op tip) (hd : Does X.K tip fop) (ho : PE X o (tX X.K W fo)) (hi : PE X i (tX X.K W fi)) (he : PE X e (tX X.K W fe))
    (ha : ∀ ov iv new, augStore i ov iv new = (do holding [new, ov, iv] (setItem ov iv new); release [new, ov, iv] []; pure .next) := by intros; rfl) : PS X (.AugAssign (.Subscript o i tpos) op e pos) (tXS X.K W (sAugL fop fo fi fe)) :=
  ps_imp (ps_augS ho hi get_list he hp set_list ha) fun D' σ H ⟨ρ, s, μ, E, S, h⟩ => by
    refine tX_of E S (h.out E) fun o s2 H2 μ2 ov e2 E2 S2 r2 hA => ?_
    refine tX_of E2 S2 (hA.out E2) fun i s3 H3 μ3 iv e3 E3 S3 r3 hB => ?_
    obtain ⟨x, s4, h4, k4⟩ := (hB.out E3).of
    refine does_ixL o i s3 x s4 ov iv H3 μ3 _ (r2.ext e3) r3 S3 h4 fun xv H4 μ4 e4 S4 r4 => ?_
    have hC := k4 H4 μ4 e4 S4
    have E4 := E3.ext e4
    refine tX_of E4 S4 (hC.out E4) fun y s5 H5 μ5 yv e5 E5 S5 r5 hD => ?_
    obtain ⟨z, s6, h6, k6⟩ := (hD.out E5).of
    refine hd x y s5 z s6 xv yv H5 μ5 _ (r4.ext e5) r5 S5 h6 fun zv H6 μ6 e6 S6 r6 => ?_
    have hE := k6 H6 μ6 e6 S6
    have r2' := (((r2.ext e3).ext e4).ext e5).ext e6
    have r3' := ((r3.ext e4).ext e5).ext e6
    unfold setL at hE
    split at hE
    · rename_i k p hp
      obtain ⟨n, ds⟩ := p
      split at hE
      · rename_i j hj
        obtain ⟨rfl, e9⟩ := lstAt_some hp
        cases r3'
        obtain ⟨a, us, rfl, ha, t, q1⟩ := S6.lst e9 r2'
        refine ⟨a, us, k, j, rfl, rfl, t, by rw [← q1.length]; exact hj, ?_⟩
        have ex := ext_set S6 e9 ha (.lst (us.set j zv))
        exact hE σ _ μ6 ex ((E5.ext e6).ext ex) (S6.put e9 ha (o' := .lst (ds.set j z)) ⟨us.set j zv, upd_same, (Rls.set r6 j q1).ext ex⟩)
      · exact hE.elim
    · exact hE.elim
theorem ip_I0 {K : PySem.W.Frag} {g : Int → Int → Int} : Does K (ipI g) (oI CAny fun i j => .int (g i j)) := fun x y st d st' xv yv H μ Q rx ry S h q => by
  obtain ⟨i, j, rfl, rfl, hc, rfl, rfl⟩ := oI_some h
  cases rx
  cases ry
  exact ⟨i, j, rfl, rfl, q _ H μ (Ext.refl _ _) S (.int _)⟩
end

/-! ### instances -/
def insAt (C : Addr) (st : Stt) : D → Option (Nat × List (Str × D))
  | .loc n => match st[n]? with
    | some (.ins C' fs) => if C' = C then some (n, fs) else none
    | _ => none
  | _ => none
theorem insAt_some {C : Addr} {st : Stt} {d : D} {n : Nat} {fs : List (Str × D)} (h : insAt C st d = some (n, fs)) : d = .loc n ∧ st[n]? = some (.ins C fs) := by
  cases d with
  | loc m =>
    have h : (match st[m]? with
      | some (.ins C' fs) => if C' = C then some (m, fs) else none
      | _ => none) = some (n, fs) := h
    cases e : st[m]? with
    | none => rw [e] at h; cases h
    | some o =>
      rw [e] at h
      cases o with
      | dct es => cases h
      | lst ds => cases h
      | ins C' es =>
        have h : (if C' = C then some (m, es) else none) = some (n, fs) := h
        by_cases hc : C' = C
        · rw [if_pos hc] at h
          cases h
          subst hc
          exact ⟨rfl, e⟩
        · rw [if_neg hc] at h
          cases h
  | non => cases h
  | bl _ => cases h
  | int _ => cases h
  | str _ => cases h
  | tup _ => cases h
  | cl _ => cases h
theorem FR.look {K : PySem.W.Frag} {H : Hp} {μ : List Addr} {f : Str} {d : D} : ∀ {fs : List (Str × D)} {vs : List (Str × V)}, FR K H μ fs vs → fs.lookup f = some d → ∃ v, vs.lookup f = some v ∧ Rl K H μ d v
  | _, _, .nil, h => by simp at h
  | (g, x) :: fs, (g', v) :: vs, .cons r t, h => by
    obtain ⟨e, rr⟩ := r
    have e : g = g' := e
    subst e
    by_cases hg : f = g
    · subst hg
      simp only [List.lookup, beq_self_eq_true] at h ⊢
      cases h
      exact ⟨_, rfl, rr⟩
    · have b : (f == g) = false := by simpa using hg
      simp only [List.lookup, b] at h ⊢
      exact FR.look t h
theorem FR.lookN {K : PySem.W.Frag} {H : Hp} {μ : List Addr} {f : Str} : ∀ {fs : List (Str × D)} {vs : List (Str × V)}, FR K H μ fs vs → fs.lookup f = none → vs.lookup f = none
  | _, _, .nil, h => by simp
  | (g, x) :: fs, (g', v) :: vs, .cons r t, h => by
    obtain ⟨e, rr⟩ := r
    have e : g = g' := e
    subst e
    by_cases hg : f = g
    · subst hg
      simp only [List.lookup, beq_self_eq_true] at h
      cases h
    · have b : (f == g) = false := by simpa using hg
      simp only [List.lookup, b] at h ⊢
      exact FR.lookN t h
def putFD (f : Str) (v : D) : List (Str × D) → List (Str × D)
  | [] => [(f, v)]
  | (g, x) :: r => if g = f then (g, v) :: r else (g, x) :: putFD f v r
theorem FR.put {K : PySem.W.Frag} {H : Hp} {μ : List Addr} {f : Str} {d : D} {v : V} (q : Rl K H μ d v) : ∀ {fs : List (Str × D)} {vs : List (Str × V)}, FR K H μ fs vs → FR K H μ (putFD f d fs) (putF f v vs)
  | _, _, .nil => .cons ⟨rfl, q⟩ .nil
  | (g, x) :: fs, (g', u) :: vs, .cons r t => by
    obtain ⟨e, rr⟩ := r
    have e : g = g' := e
    subst e
    unfold putFD putF
    by_cases hg : g = f
    · rw [if_pos hg, if_pos hg]
      exact .cons ⟨rfl, q⟩ t
    · rw [if_neg hg, if_neg hg]
      exact .cons ⟨rfl, rr⟩ (FR.put q t)
def oFld (C : Addr) (f : Str) : Op1 := fun d st => (insAt C st d).bind fun p => (p.2.lookup f).map fun x => (x, st)
section
variable {X : Cx} {e value : Expr} {fe fv : XE} {pos pos' tpos : Pos} {W : WX} {C : Addr} {f : Str}
theorem e_fld (c : Cls X.K C) (n : NoAttr X.K C f) (he : PE X e (tX X.K W fe)) (hb : attributeBase e f X.env (eval e X.env) = eval e X.env := by rfl) : PE X (.Attribute e f pos) (tX X.K W (x1 (oFld C f) fe)) :=
  pe_imp (pe_fld he hb) fun σ H Q ⟨ρ, st, μ, E, S, h⟩ =>
    tX_of E S h.bind fun x s1 H1 μ1 xv e1 E1 S1 r1 h1 => by
      obtain ⟨d, s2, h2, k⟩ := h1.of
      obtain ⟨⟨m, fs⟩, h3, h2⟩ := Option.bind_eq_some_iff.mp h2
      obtain ⟨y, h4, h2⟩ := Option.map_eq_some_iff.mp h2
      cases h2
      obtain ⟨rfl, h5⟩ := insAt_some h3
      obtain ⟨a, dx, vs, rfl, ha, t, q⟩ := S1.ins h5 r1
      obtain ⟨v, h6, r⟩ := q.look h4
      exact ⟨a, C, dx, vs, v, rfl, t, c, n, h6, k H1 μ1 (Ext.refl _ _) S1 v r⟩
def setF (C : Addr) (f : Str) (o v : D) (ρ : En) (s : Stt) : Out := match insAt C s o with
  | some p => if p.2.length < 1000 then .nx ρ (s.set p.1 (.ins C (putFD f v p.2))) else .no
  | none => .no
def sFldX (C : Addr) (f : Str) (fo fv : XE) : XS := fun ρ st => (fv ρ st).out ρ fun v s => (fo ρ s).out ρ fun o s => setF C f o v ρ s
theorem setF_ok {K : PySem.W.Frag} {D' : Ends} {ρ : En} {σ : L2.St} {o v : D} {s : Stt} {H : Hp} {μ : List Addr} {ov vv : V} (E : ER K H μ ρ σ) (S : SR K H μ s) (ro : Rl K H μ o ov) (rv : Rl K H μ v vv) (h : outOk K W D' H μ (setF C f o v ρ s)) :
    ∃ a dx fs, ov = .ref a ∧ H a = some (.ins C dx fs) ∧ fs.length < 1000 ∧ D'.nx σ (upd H a (.ins C dx (putF f vv fs))) := by
  unfold setF at h
  split at h
  · rename_i p hp
    obtain ⟨n, ds⟩ := p
    split at h
    · rename_i hz
      obtain ⟨rfl, h5⟩ := insAt_some hp
      obtain ⟨a, dx, vs, rfl, ha, t, q⟩ := S.ins h5 ro
      have hl : vs.length = ds.length := (Paired.length q).symm
      refine ⟨a, dx, vs, rfl, t, by rw [hl]; exact hz, ?_⟩
      have ex := ext_set S h5 ha (.ins C dx (putF f vv vs))
      exact h σ _ μ ex (E.ext ex) (S.put h5 ha (o' := .ins C (putFD f v ds)) ⟨dx, putF f vv vs, upd_same, (FR.put rv q).ext ex⟩)
    · exact h.elim
  · exact h.elim
theorem s_fld {o : Expr} {fo : XE} (c : Cls X.K C) (n : NoAttr X.K C f) (ho : PE X o (tX X.K W fo)) (hv : PE X value (tX X.K W fv)) (hs : swapsWith value (some (.Attribute o f pos')) pos.line X.env = pure false := by rfl) : PS X (.Assign [.Attribute o f pos'] value pos) (tXS X.K W (sFldX C f fo fv)) :=
  ps_imp (ps_fld ho hv hs) fun D' σ H ⟨ρ, s, μ, E, S, h⟩ => by
    refine tX_of E S (h.out E) fun v s1 H1 μ1 vv e1 E1 S1 r1 hA => ?_
    refine tX_of E1 S1 (hA.out E1) fun o s2 H2 μ2 ov e2 E2 S2 r2 hB => ?_
    obtain ⟨a, dx, fs, e3, t, l, q⟩ := setF_ok E2 S2 r2 (r1.ext e2) hB
    exact ⟨a, C, dx, fs, e3, t, c, n, l, q⟩
end
end Rg

set_option Elab.async false
set_option linter.all false
set_option maxRecDepth 100000
namespace Rg
open PySem PySem.Spec PyProof.Rows L2

/-! ### while -/
def whileF (c : XT) (f : XS) : Nat → En → Stt → Out
  | 0, _, _ => .no
  | m + 1, ρ, st => (c ρ st).out ρ fun b s => if b = true then (match f ρ s with
      | .nx ρ' st' => whileF c f m ρ' st'
      | .ct ρ' st' => whileF c f m ρ' st'
      | .bk ρ' st' => .nx ρ' st'
      | r => r) else .nx ρ s
def WN : Nat := 100000000
def sWhile (c : XT) (f : XS) : XS := fun ρ st => whileF c f WN ρ st
section
variable {X : Cx} {c tg iter e : Expr} {body : List Stmt} {t : XT} {f : XS} {pos : Pos} {W : WX}
theorem s_while (hp : PassesOwn (model X.prog X.w) X.A X.env X.xe) (hc : PT X c (tXT X.K W t)) (hb : PSs X body (tXS X.K W f)) : PS X (.While c body [] pos) (tXS X.K W (sWhile t f)) :=
  ps_imp (ps_while hp hc hb) fun D' σ H ⟨ρ, s, μ, E, S, h⟩ => by
    refine ⟨fun m σ2 H2 => ∃ ρ2 s2 μ2, ER X.K H2 μ2 ρ2 σ2 ∧ SR X.K H2 μ2 s2 ∧ outOk X.K W D' H2 μ2 (whileF t f m ρ2 s2), ⟨WN, ρ, s, μ, E, S, h⟩, fun m σ2 H2 ⟨ρ2, s2, μ2, E2, S2, h2⟩ => ?_⟩
    cases m with
    | zero => exact h2.elim
    | succ m =>
      have h3 : outOk X.K W D' H2 μ2 ((t ρ2 s2).out ρ2 fun b s => if b = true then (match f ρ2 s with
        | .nx ρ' st' => whileF t f m ρ' st'
        | .ct ρ' st' => whileF t f m ρ' st'
        | .bk ρ' st' => .nx ρ' st'
        | r => r) else .nx ρ2 s) := h2
      refine tXT_of E2 S2 (h3.out E2) fun k s3 H3 μ3 e3 E3 S3 h4 => ?_
      cases k with
      | false =>
        exact h4 σ2 H3 μ3 (Ext.refl _ _) E3 S3
      | true =>
        refine ⟨fun σ' H' => ∃ ρ2 s2 μ2, ER X.K H' μ2 ρ2 σ' ∧ SR X.K H' μ2 s2 ∧ outOk X.K W D' H' μ2 (whileF t f m ρ2 s2), fun σ' H' w => ⟨m, Nat.lt_succ_self m, w⟩, ?_⟩
        have h4 : outOk X.K W D' H3 μ3 (match f ρ2 s3 with
          | .nx ρ' st' => whileF t f m ρ' st'
          | .ct ρ' st' => whileF t f m ρ' st'
          | .bk ρ' st' => .nx ρ' st'
          | r => r) := h4
        refine ⟨ρ2, s3, μ3, E3, S3, ?_⟩
        cases e5 : f ρ2 s3 with
        | no => rw [e5] at h4; exact h4.elim
        | nx ρ' s' => rw [e5] at h4; exact fun σ6 H6 μ6 e6 E6 S6 => ⟨ρ', s', μ6, E6, S6, outOk.at e6 h4⟩
        | ct ρ' s' => rw [e5] at h4; exact fun σ6 H6 μ6 e6 E6 S6 => ⟨ρ', s', μ6, E6, S6, outOk.at e6 h4⟩
        | bk ρ' s' => rw [e5] at h4; exact fun σ6 H6 μ6 e6 E6 S6 => h4 σ6 H6 μ6 e6 E6 S6
        | rt d s' => rw [e5] at h4; exact h4
        | xx ρ' x s' => rw [e5] at h4; exact h4

/-! ### for -/
open Classical in
noncomputable def forF (ok : Stt → Prop) (g : XG) (f : XS) : List D → En → Stt → Out
  | [], ρ, st => if ok st then .nx ρ st else .no
  | d :: ds, ρ, st => if ok st then (match g d ρ with
    | none => .no
    | some ρ1 => match f ρ1 st with
      | .nx ρ' st' => forF ok g f ds ρ' st'
      | .ct ρ' st' => forF ok g f ds ρ' st'
      | .bk ρ' st' => .nx ρ' st'
      | r => r) else .no
noncomputable def sFor (w : XI) (g : XG) (f : XS) : XS := fun ρ st => (w ρ st).out ρ fun k s => forF k.ok g f k.its ρ s
theorem s_for {w : XI} {g : XG} {vs : List Nat} (hp : PassesOwn (model X.prog X.w) X.A X.env X.xe) (hc : X.calm = true) (hi : PI X tg iter (tXI X.K W w)) (hg : PG X tg (tG X.K vs g)) (hb : PSs X body (tXS X.K W f))
    (hs : ∀ x, foldedSetIterable iter X.env x = pure x := by intro _; rfl) : PS X (.For tg iter body [] pos) (tXS X.K W (sFor w g f)) :=
  ps_imp (ps_for hp hc hi hg hb hs) fun D' σ H ⟨ρ, s, μ, E, S, h⟩ => by
    have h := (show outOk X.K W D' H μ ((w ρ s).out ρ fun k s => forF k.ok g f k.its ρ s) from h).out E
    refine ⟨ρ, s, μ, E, S, h.mono fun wk s1 H1 μ1 e1 S1 h1 J ik => ?_⟩
    refine ⟨fun i m σ2 H2 => m = wk.its.length - i ∧ i ≤ wk.its.length ∧ ∃ ρ2 s2 μ2, ER X.K H2 μ2 ρ2 σ2 ∧ SR X.K H2 μ2 s2 ∧ Ext X.K H1 μ1 H2 μ2 ∧ outOk X.K W D' H2 μ2 (forF wk.ok g f (wk.its.drop i) ρ2 s2),
      ⟨_, rfl, Nat.zero_le _, ρ, s1, μ1, E.ext e1, S1, Ext.refl _ _, h1⟩, fun i m σ2 H2 hW => ?_⟩
    obtain ⟨rfl, hi, ρ2, s2, μ2, E2, S2, ex, h2⟩ := hW
    by_cases hlt : i < wk.its.length
    · have hd : wk.its[i]? = some wk.its[i] := List.getElem?_eq_getElem hlt
      rw [List.drop_eq_getElem_cons hlt] at h2
      unfold forF at h2
      split at h2
      · rename_i hok
        cases hgd : g wk.its[i] ρ2 with
        | none => rw [hgd] at h2; exact h2.elim
        | some ρ3 =>
        rw [hgd] at h2
        refine .inr ⟨ik.go H2 μ2 s2 i _ ex S2 hok hd, fun σ' H' => ∃ ρ2 s2 μ2, ER X.K H' μ2 ρ2 σ' ∧ SR X.K H' μ2 s2 ∧ Ext X.K H1 μ1 H' μ2 ∧ outOk X.K W D' H' μ2 (forF wk.ok g f (wk.its.drop (i + 1)) ρ2 s2), fun σ' H' w => ⟨wk.its.length - (i + 1), by omega, rfl, by omega, w⟩, fun x H3 hy => ?_⟩
        obtain ⟨e3, S3, r3, _⟩ := ik.yld H2 μ2 s2 i _ x H3 ex S2 hok hd hy
        refine ⟨ρ2, s2, μ2, _, E2.ext e3, S3, r3, ρ3, hgd, fun σ4 E4 _ => ?_⟩
        have h4 : outOk X.K W D' H3 μ2 (match f ρ3 s2 with
          | .nx ρ' st' => forF wk.ok g f (wk.its.drop (i + 1)) ρ' st'
          | .ct ρ' st' => forF wk.ok g f (wk.its.drop (i + 1)) ρ' st'
          | .bk ρ' st' => .nx ρ' st'
          | r => r) := outOk.at e3 h2
        refine ⟨ρ3, s2, μ2, E4, S3, ?_⟩
        cases e5 : f ρ3 s2 with
        | no => rw [e5] at h4; exact h4.elim
        | nx ρ' s' => rw [e5] at h4; exact fun σ6 H6 μ6 e6 E6 S6 => ⟨ρ', s', μ6, E6, S6, (ex.trans e3).trans e6, outOk.at e6 h4⟩
        | ct ρ' s' => rw [e5] at h4; exact fun σ6 H6 μ6 e6 E6 S6 => ⟨ρ', s', μ6, E6, S6, (ex.trans e3).trans e6, outOk.at e6 h4⟩
        | bk ρ' s' => rw [e5] at h4; exact h4
        | rt d s' => rw [e5] at h4; exact h4
        | xx ρ' x s' => rw [e5] at h4; exact h4
      · exact h2.elim
    · have e : i = wk.its.length := by omega
      subst e
      rw [List.drop_length] at h2
      unfold forF at h2
      split at h2
      · rename_i hok
        exact .inl ⟨ik.stop H2 μ2 s2 _ ex S2 hok (List.getElem?_eq_none (Nat.le_refl _)), h2 σ2 H2 μ2 (Ext.refl _ _) E2 S2⟩
      · exact h2.elim

/-! ### comprehensions -/
/-- nothing is let out -/
def W0 : WX := fun _ _ _ _ => False
open Classical in
noncomputable def compF (L : Nat) (ok : Stt → Prop) (g : XG) (t : XT) (f : XE) (ρ : En) : List D → Stt → R Unit
  | [], st => if ok st then .ok () st else .no
  | d :: ds, st => if ok st then (match g d ρ with
    | none => .no
    | some ρ1 => match t ρ1 st with
      | .ok true s => (match f ρ1 s with
        | .ok y s2 => (match lstAt s2 (.loc L) with
          | some p => if p.2.length < sizeLine then compF L ok g t f ρ ds (s2.set L (.lst (p.2 ++ [y]))) else .no
          | none => .no)
        | _ => .no)
      | .ok false s => compF L ok g t f ρ ds s
      | _ => .no) else .no
noncomputable def xLc (w : XI) (g : XG) (t : XT) (f : XE) (vs : List Nat) : XE := fun ρ st => (w ρ st).bind fun k s => (compF s.length k.ok g t f (wipeD ρ vs) k.its (s ++ [.lst []])).bind fun _ s' => .ok (.loc s.length) s'
def xYes : XT := fun _ st => .ok true st
theorem compF_ne {L : Nat} {ok : Stt → Prop} {g : XG} {t : XT} {f : XE} {ρ : En} : ∀ {ds : List D} {st : Stt} {e : Exn} {s : Stt}, compF L ok g t f ρ ds st ≠ .ex e s
  | [], st, e, s => by unfold compF; split <;> exact fun h => by cases h
  | d :: ds, st, e, s => by
    unfold compF
    split
    · split
      · exact fun h => by cases h
      · split
        · split
          · split
            · split
              · exact compF_ne
              · exact fun h => by cases h
            · exact fun h => by cases h
          · exact fun h => by cases h
        · exact compF_ne
        · exact fun h => by cases h
    · exact fun h => by cases h
theorem tLc_x {K : PySem.W.Frag} {w : XI} {g : XG} {gs vs : List Nat} {t : XT} {fe : XE} (hsub : ∀ i ∈ gs, i ∈ vs) {σ : L2.St} {H : Hp} {Q : VK} (h : tX K W (xLc w g t fe vs) σ H Q) : tLc (tXI K W w) (tG K gs g) (tXT K W0 t) (tX K W0 fe) vs σ H Q := by
  obtain ⟨ρ, s, μ, E, S, h⟩ := h
  refine ⟨ρ, s, μ, E, S, h.bind.mono fun wk s1 H1 μ1 e1 S1 h1 J ik Dp hD => ?_⟩
  have S1' : SR K (upd H1 Dp (.lst [])) (μ1 ++ [Dp]) (s1 ++ [.lst []]) := S1.newL hD .nil
  have e1' : Ext K H1 μ1 (upd H1 Dp (.lst [])) (μ1 ++ [Dp]) := ext_new hD _
  have hL : (μ1 ++ [Dp])[s1.length]? = some Dp := by rw [← S1.len]; simp
  cases hcf : compF s1.length wk.ok g t fe (wipeD ρ vs) wk.its (s1 ++ [.lst []]) with
  | no => rw [hcf] at h1; exact h1.elim
  | ex x s9 => exact absurd hcf compF_ne
  | ok u s9 =>
  rw [hcf] at h1
  refine ⟨fun i m H2 => m = wk.its.length - i ∧ i ≤ wk.its.length ∧ ∃ s2 μ2, SR K H2 μ2 s2 ∧ Ext K (upd H1 Dp (.lst [])) (μ1 ++ [Dp]) H2 μ2 ∧ compF s1.length wk.ok g t fe (wipeD ρ vs) (wk.its.drop i) s2 = .ok () s9,
    ⟨_, rfl, Nat.zero_le _, _, _, S1', Ext.refl _ _, hcf⟩, fun i m H2 hW => ?_⟩
  obtain ⟨rfl, hi, s2, μ2, S2, ex, h3⟩ := hW
  have ex1 : Ext K H1 μ1 H2 μ2 := e1'.trans ex
  by_cases hlt : i < wk.its.length
  · have hd : wk.its[i]? = some wk.its[i] := List.getElem?_eq_getElem hlt
    rw [List.drop_eq_getElem_cons hlt] at h3
    unfold compF at h3
    split at h3
    · rename_i hok
      split at h3
      · cases h3
      · rename_i ρ3 hg3
        refine .inr ⟨ik.go H2 μ2 s2 i _ ex1 S2 hok hd, fun H' => ∃ s2 μ2, SR K H' μ2 s2 ∧ Ext K (upd H1 Dp (.lst [])) (μ1 ++ [Dp]) H' μ2 ∧ compF s1.length wk.ok g t fe (wipeD ρ vs) (wk.its.drop (i + 1)) s2 = .ok () s9, fun H' w => ⟨wk.its.length - (i + 1), by omega, rfl, by omega, w⟩, fun x H3 hy => ?_⟩
        obtain ⟨e3, S3, r3, _⟩ := ik.yld H2 μ2 s2 i _ x H3 ex1 S2 hok hd hy
        refine ⟨wipeD ρ vs, s2, μ2, _, ((E.ext e1).ext (ex1.trans e3)).wipe vs, S3, r3, ρ3, hg3, fun σ4 E4 w4 => ⟨?_, ?_⟩⟩
        · rw [w4 vs hsub, wipe_wipe vs vs fun _ h => h]
        · refine ⟨ρ3, s2, μ2, E4, S3, ?_⟩
          split at h3
          · rename_i s4 ht
            rw [ht]
            intro H5 μ5 e5 S5
            split at h3
            · rename_i y s6 hf
              split at h3
              · rename_i p h7
                obtain ⟨n, acc⟩ := p
                split at h3
                · rename_i hz
                  obtain ⟨en, e7⟩ := lstAt_some h7
                  cases en
                  refine ⟨ρ3, s4, μ5, E4.ext e5, S5, ?_⟩
                  rw [hf]
                  intro H6 μ6 e6 S6 yv r6
                  have ex6 := ((ex.trans e3).trans e5).trans e6
                  have ha : μ6[s1.length]? = some Dp := ex6.get hL
                  obtain ⟨a, us, ea, hb, t6, q6⟩ := S6.lst e7 (.loc ha)
                  cases ea
                  have ex7 := ext_set S6 e7 ha (.lst (us ++ [yv]))
                  exact ⟨us, t6, by rw [← q6.length]; exact hz, _, μ6, S6.put e7 ha (o' := .lst (acc ++ [y])) ⟨us ++ [yv], upd_same, (q6.append (.cons r6 .nil)).ext ex7⟩, ex6.trans ex7, h3⟩
                · cases h3
              · cases h3
            · cases h3
          · rename_i s4 ht
            rw [ht]
            exact fun H5 μ5 e5 S5 => ⟨s4, μ5, S5, (ex.trans e3).trans e5, h3⟩
          · cases h3
    · cases h3
  · have e : i = wk.its.length := by omega
    subst e
    rw [List.drop_length] at h3
    unfold compF at h3
    split at h3
    · rename_i hok
      cases h3
      refine .inl ⟨ik.stop H2 μ2 _ _ ex1 S2 hok (List.getElem?_eq_none (Nat.le_refl _)), ?_⟩
      exact h1 H2 μ2 (e1'.trans ex) S2 _ (.loc (ex.get hL))
    · cases h3
theorem ts_nil : PTs X [] (tXT X.K W xYes) := ⟨fun pins s σ H Q I ⟨ρ, st, μ, E, S, h⟩ => pts_nil.run pins s σ H Q I (h.ok S)⟩
theorem ts_one {t : XT} (h : PT X c (tXT X.K W t)) : PTs X [c] (tXT X.K W t) := pts_one h
theorem e_lc {elt : Expr} {ifs : List Expr} {scope : Scope} {own : List (Str × Nat)} {w : XI} {g : XG} {gs : List Nat} {t : XT} {fe : XE} (hc : X.calm = true) (hN : X.N.Nodup) (ok : BlkOk X.N X.env.scope scope own) (hi : PI X tg iter (tXI X.K W w))
    (hg : ∀ (s : Shared) (H : Hp) (C : Addr) (cl : List (Str × Addr)) (fp : List Addr), PG (X.blk s H scope (compEnvC scope cl C X.env) fp) tg (tG X.K gs g)) (ht : ∀ (s : Shared) (H : Hp) (C : Addr) (cl : List (Str × Addr)) (fp : List Addr), PTs (X.blk s H scope (compEnvC scope cl C X.env) fp) ifs (tXT X.K W0 t))
    (he : ∀ (s : Shared) (H : Hp) (C : Addr) (cl : List (Str × Addr)) (fp : List Addr), PE (X.blk s H scope (compEnvC scope cl C X.env) fp) elt (tX X.K W0 fe)) (hsub : ∀ i ∈ gs, i ∈ own.map (·.2) := by decide) (hs : ∀ x, foldedSetIterable iter X.env x = pure x := by intro _; rfl) :
    PE X (.ListComp elt [⟨tg, iter, ifs, 0⟩] scope pos) (tX X.K W (xLc w g t fe (own.map (·.2)))) :=
  pe_imp (pe_lc hc hN hi ok hg ht he hs) fun _ _ _ h => tLc_x hsub h
theorem s_setLc (i : Nat) {y : Str} {py spos : Pos} {elt : Expr} {ifs : List Expr} {scope : Scope} {own : List (Str × Nat)} {w : XI} {g : XG} {gs : List Nat} {t : XT} {fe : XE} (hc : X.calm = true) (hN : X.N.Nodup) (ok : BlkOk X.N X.env.scope scope own) (hi : PI X tg iter (tXI X.K W w))
    (hg : ∀ (s : Shared) (H : Hp) (C : Addr) (cl : List (Str × Addr)) (fp : List Addr), PG (X.blk s H scope (compEnvC scope cl C X.env) fp) tg (tG X.K gs g)) (ht : ∀ (s : Shared) (H : Hp) (C : Addr) (cl : List (Str × Addr)) (fp : List Addr), PTs (X.blk s H scope (compEnvC scope cl C X.env) fp) ifs (tXT X.K W0 t))
    (he : ∀ (s : Shared) (H : Hp) (C : Addr) (cl : List (Str × Addr)) (fp : List Addr), PE (X.blk s H scope (compEnvC scope cl C X.env) fp) elt (tX X.K W0 fe))
    (hsw : swapsWith (.ListComp elt [⟨tg, iter, ifs, 0⟩] scope pos) (some (.Name y py)) spos.line X.env = pure true) (hy : X.N[i]? = some y := by rfl) (hyl : X.env.scope.names.lookup y = some .local := by rfl) (hsub : ∀ i ∈ gs, i ∈ own.map (·.2) := by decide) (hs : ∀ x, foldedSetIterable iter X.env x = pure x := by intro _; rfl) :
    PS X (.Assign [.Name y py] (.ListComp elt [⟨tg, iter, ifs, 0⟩] scope pos) spos) (tXS X.K W (sSet i (xLc w g t fe (own.map (·.2))))) :=
  ps_imp (L2.ps_setLc hc hN hy hyl hsw hi ok hg ht he hs) fun D' σ H ⟨ρ, s, μ, E, S, h⟩ => by
    refine tLc_x hsub (tX_of E S (h.out E) fun d s1 H1 μ1 v e1 E1 S1 r q => ?_)
    exact q _ H1 μ1 (Ext.refl _ _) (E1.set r i) S1
end

/-! ### defs -/
abbrev Fn := List D → Stt → R D
def spX (K : PySem.W.Frag) (n : Nat) (f : Fn) : Sp := fun vs H Q E => vs.length = n ∧ ∃ ds st μ, SR K H μ st ∧ Rls K H μ ds vs ∧ RO K (fun e H' μ' => ∀ d, XR K H' μ' e d → E (.ref e.cls) d H') H μ (QD K Q) (f ds st)
def Out.ret : Out → R D
  | .rt d st => .ok d st
  | .nx _ st => .ok .non st
  | .xx _ e st => .ex e st
  | _ => .no
def runB (n : Nat) (f : XS) : Fn := fun ds st => (f (ds.map some ++ List.replicate (n - ds.length) none) st).ret
theorem start_er {K : PySem.W.Frag} {H : Hp} {μ : List Addr} {N : List Str} : ∀ {ds : List D} {vs : List V}, Rls K H μ ds vs → ER K H μ (ds.map some ++ List.replicate (N.length - ds.length) none) (L2.start N vs) := fun {ds vs} r => by
  refine ⟨by simp [L2.start, r.length], fun i d h => ?_⟩
  by_cases hi : i < ds.length
  · rw [List.getElem?_append_left (by simpa using hi), List.getElem?_map] at h
    obtain ⟨d', h1, h2⟩ := Option.map_eq_some_iff.mp h
    cases h2
    obtain ⟨v, h3, h4⟩ := r.get h1
    refine ⟨v, ?_, h4⟩
    unfold L2.start
    have hv : i < vs.length := by rw [← r.length]; exact hi
    rw [List.getElem?_append_left (by simpa using hv), List.getElem?_map, h3]
    rfl
  · rw [List.getElem?_append_right (by simpa using hi), List.getElem?_replicate] at h
    split at h <;> cases h
section
variable {P : Program} {w : World} {K : PySem.W.Frag} {mg : Str → Option Value} {base : Heap}
/-- what the context of a def's body gives -/
structure Ctx (X : Cx) (W : WX) : Prop where
  calm : X.calm = true
  tk : L2.Takes X W
  own : PassesOwn (model X.prog X.w) X.A X.env X.xe
/-- a def of the text: its body's derivation -/
theorem ok_def {x qual : Str} {st : Stmt} {f : Addr} {fd : FuncData} {N ps : List Str} {k : Nat} {fb : XS} (F : Fun K x qual st f fd) (S : FnScope N ps (defScope st))
    (hb : ∀ (cdv : Value) (A : Around) (outer : List Env) (s : Shared) (H : Hp) (E : XK), Room k (A.deeper (envOfC qual (defScope st) s.heap.objs.size f cdv)) → Ctx (cxOf (L2.CX P w) P w K mg base N qual (defScope st) f cdv A outer s H E) (fun c d _ H => E c d H) → PSs (cxOf (L2.CX P w) P w K mg base N qual (defScope st) f cdv A outer s H E) (defBody st) (tXS K (fun c d _ H => E c d H) fb)) :
    FnOk P w K mg base (L2.CX P w) (k + 1) f fd ps (spX K ps.length (runB N.length fb)) := by
  refine F.okX S (fun vs H Q E h => h.1) (fun cdv A outer s H vs Q E hr h => ?_)
  obtain ⟨hl, ds, st, μ, SS, r, h⟩ := h
  refine ⟨_, hb cdv A outer s H E hr ⟨rfl, takes_of rfl rfl rfl rfl, passes_of rfl⟩, ?_⟩
  unfold runB at h
  refine ⟨_, st, μ, start_er r, SS, ?_⟩
  cases e : fb (ds.map some ++ List.replicate (N.length - ds.length) none) st with
  | no => rw [e] at h; exact h.elim
  | rt d' s' => rw [e] at h; exact fun v H' μ' ex S' r' => h H' μ' ex S' v r'
  | nx ρ' s' => rw [e] at h; exact fun σ H' μ' ex _ S' => h H' μ' ex S' .non .non
  | bk _ _ => rw [e] at h; exact h.elim
  | ct _ _ => rw [e] at h; exact h.elim
  | xx ρ' x s' => rw [e] at h; exact fun σ H' μ' ex _ S' => h H' μ' ex S'
theorem FnOk.sem {CX : CXT} {k n : Nat} {f : Addr} {fd : FuncData} {ps : List Str} {g g' : Fn} (F : FnOk P w K mg base CX k f fd ps (spX K n g)) (h : ∀ ds st, g' ds st ≠ .no → g ds st = g' ds st) : FnOk P w K mg base CX k f fd ps (spX K n g') :=
  F.imp fun vs H Q E ⟨hl, ds, st, μ, S, r, q⟩ => ⟨hl, ds, st, μ, S, r, by rw [h ds st fun e => by rw [e] at q; exact q]; exact q⟩
end

/-! ### calls -/
def Len (g : XA) (n : Nat) : Prop := ∀ ρ st r s', g ρ st = .ok r s' → r.length = n
theorem len_nil : Len xNil 0 := fun _ _ _ _ h => by cases h; rfl
theorem len_cons {f : XE} {g : XA} {n : Nat} (h : Len g n) : Len (xCons f g) (n + 1) := fun ρ st r s' e => by
  unfold xCons at e
  cases h1 : f ρ st with
  | no => rw [h1] at e; cases e
  | ex _ _ => rw [h1] at e; cases e
  | ok d s1 =>
    rw [h1] at e
    have e : ((g ρ s1).bind fun ds s => R.ok (d :: ds) s) = .ok r s' := e
    cases h2 : g ρ s1 with
    | no => rw [h2] at e; cases e
    | ex _ _ => rw [h2] at e; cases e
    | ok ds s2 =>
      rw [h2] at e
      cases e
      rw [List.length_cons, h _ _ _ _ h2]
def xFn (g : Fn) (ga : XA) : XE := fun ρ st => (ga ρ st).bind g
section
variable {X : Cx} {k n : Nat} {f C : Addr} {fd : FuncData} {ps : List Str} {g : Fn} {x m : Str} {p pos apos : Pos} {e o : Expr} {es : List Expr} {ga : XA} {fo : XE} {W : WX}
theorem tXA_eq {K : PySem.W.Frag} {f : XA} {σ : L2.St} {H : Hp} {μ : List Addr} {ρ : En} {st : Stt} {P : List D → Stt → Hp → List Addr → Prop} {Q : List V → Hp → Prop} (E : ER K H μ ρ σ) (S : SR K H μ st) (h : RO K (wx K W σ) H μ P (f ρ st))
    (k : ∀ d st' H' μ' v, f ρ st = .ok d st' → Ext K H μ H' μ' → ER K H' μ' ρ σ → SR K H' μ' st' → Rls K H' μ' d v → P d st' H' μ' → Q v H') : tXA K W f σ H Q := by
  refine ⟨ρ, st, μ, E, S, ?_⟩
  cases e : f ρ st with
  | no => rw [e] at h; exact h
  | ex _ _ => rw [e] at h; exact h
  | ok d s => rw [e] at h; exact fun H' μ' ex S' v r => k d s H' μ' v e ex (E.ext ex) S' r (h H' μ' ex S')
/-- f(e, ..) -/
theorem e_call (F : FnOk X.prog X.w X.K X.mg X.base (L2.CX X.prog X.w) k f fd ps (spX X.K (es.length + 1) g)) (tk : L2.Takes X W) (hr : Room k X.A) (hm : X.mg x = some (.ref f)) (hk : PySem.W.keepIn X.K (.ref f) = true) (hb : Binds X.K fd ps []) (ha : PA X (e :: es) (tXA X.K W ga)) (hg : Gl X x := by rfl) (hdb : (x == ("__debug__" : Str)) = false := by decide)
    (he : starEach (e :: es) X.env = (false, eval e X.env) :: starEach es X.env := by rfl) (hpl : (backTo pos (starEach es X.env)).any (·.1) = false := by rfl) (hlen : Len ga (es.length + 1) := by repeat (first | exact len_nil | apply len_cons)) : PE X (.Call (.Name x p) (e :: es) [] pos) (tX X.K W (xFn g ga)) :=
  pe_imp (pe_callS F hr hg hm hk hb (fun σ => passAt tk σ) ha hdb he hpl) fun σ H Q ⟨ρ, st, μ, E, S, h⟩ =>
    tXA_eq E S h.bind fun ds s1 H1 μ1 vs eq e1 E1 S1 r1 h1 => ⟨by rw [← r1.length]; exact hlen _ _ _ _ eq, ds, s1, μ1, S1, r1, h1⟩
/-- f() -/
def tCallS0 (sp : Sp) (E : L2.St → XK) : TE := fun σ H Q => sp [] H Q (E σ)
theorem pe_callS0 {CX : CXT} {sp : Sp} {E : L2.St → XK} (F : FnOk X.prog X.w X.K X.mg X.base CX k f fd ps sp) (hr : Room k X.A) (hg : Gl X x) (hm : X.mg x = some (.ref f)) (hk : PySem.W.keepIn X.K (.ref f) = true) (hb : Binds X.K fd ps []) (hx : ∀ σ, PassesAt CX X σ (E σ))
    (hdb : (x == ("__debug__" : Str)) = false := by decide) : PE X (.Call (.Name x p) [] [] pos) (tCallS0 sp E) := by
  refine ⟨fun pins s σ H Q I h => ?_⟩
  refine wpAny_Call_Name_kw (ld_glob I hg hm ?_ hdb)
  exact PySem.W.callWith_K0 I.kIn hk (run_fnS (us := []) (vs := []) F hr hb (hx σ) I .nil h)
theorem e_call0 (F : FnOk X.prog X.w X.K X.mg X.base (L2.CX X.prog X.w) k f fd ps (spX X.K 0 g)) (tk : L2.Takes X W) (hr : Room k X.A) (hm : X.mg x = some (.ref f)) (hk : PySem.W.keepIn X.K (.ref f) = true) (hb : Binds X.K fd ps []) (hg : Gl X x := by rfl) (hdb : (x == ("__debug__" : Str)) = false := by decide) : PE X (.Call (.Name x p) [] [] pos) (tX X.K W (xFn g xNil)) :=
  pe_imp (pe_callS0 F hr hg hm hk hb (fun σ => passAt tk σ) hdb) fun σ H Q ⟨ρ, st, μ, E, S, h⟩ => ⟨rfl, [], st, μ, S, .nil, h⟩
/-- o.m(e, ..) -/
def hasM (C : Addr) (m : Str) (d : D) (st : Stt) : R Unit := match insAt C st d with
  | some p => if p.2.lookup m = none then .ok () st else .no
  | none => .no
def xMeth (C : Addr) (m : Str) (g : Fn) (fo : XE) (ga : XA) : XE := fun ρ st => (fo ρ st).bind fun d s => (hasM C m d s).bind fun _ s => (ga ρ s).bind fun ds s => g (d :: ds) s
theorem RO.hasM {K : PySem.W.Frag} {Wd : Exn → Hp → List Addr → Prop} {H : Hp} {μ : List Addr} {Q : Unit → Stt → Hp → List Addr → Prop} {d : D} {st : Stt} {v : V} (S : SR K H μ st) (r : Rl K H μ d v) (h : RO K Wd H μ Q (hasM C m d st)) : ∃ a dx vs, v = .ref a ∧ H a = some (.ins C dx vs) ∧ vs.lookup m = none ∧ Q () st H μ := by
  unfold Rg.hasM at h
  split at h
  · rename_i p hp
    obtain ⟨n, fs⟩ := p
    split at h
    · rename_i hl
      obtain ⟨rfl, h5⟩ := insAt_some hp
      obtain ⟨a, dx, vs, rfl, ha, t, q⟩ := S.ins h5 r
      exact ⟨a, dx, vs, rfl, t, q.lookN hl, h.ok S⟩
    · exact h.elim
  · exact h.elim
def tMethS (C : Addr) (m : Str) (sp : Sp) (E : L2.St → XK) (ta : TE) (t : TA) : TE := fun σ H Q => ta σ H fun x H1 => ∃ a dx fs, x = .ref a ∧ H1 a = some (.ins C dx fs) ∧ fs.lookup m = none ∧ t σ H1 fun vs H2 => sp (x :: vs) H2 Q (E σ)
theorem pe_methSs {CX : CXT} {sp : Sp} {E : L2.St → XK} {ta : TE} {t : TA} {pl : Sem Bool} (he : PE X o ta) (c : Cls X.K C) (hm : Meth X.K C m f) (F : FnOk X.prog X.w X.K X.mg X.base CX k f fd ps sp) (hr : Room k X.A) (hb : Binds X.K fd ps []) (hx : ∀ σ, PassesAt CX X σ (E σ)) (ha : PA X (e :: es) t)
    (hst : starEach (e :: es) X.env = (false, eval e X.env) :: starEach es X.env := by rfl) (hpl : (backTo pos (starEach es X.env)).any (·.1) = false := by rfl)
    (ht : eval (.Call (.Attribute o m apos) (e :: es) [] pos) X.env = (do
      let ov ← eval o X.env
      standAt apos.atName
      let (f, first) ← holding [ov] (getMethod ov m pl)
      callWith pos f first (backTo pos (starEach (e :: es) X.env)) (backToKw pos (keywordEach [] X.env))) := by rfl) :
    PE X (.Call (.Attribute o m apos) (e :: es) [] pos) (tMethS C m sp E ta t) := by
  refine ⟨fun pins s σ H Q I h => ?_⟩
  refine PySem.W.methodCall_KW (pl := pl) (thn (he.run pins s σ H _ I h) fun u s1 ⟨x, H1, I1, rx, a, dx, fs, ex, ea, l, q⟩ => ?_) ht
  subst ex
  obtain rfl : u = Value.ref a := rx
  refine getmeth_ok I1 ea c hm l ?_
  refine PySem.W.callWith_K (first := [.ref a]) (h₀ := X.base) I.ok.mod.kin hm.kp (thn (ha.run pos pins s1 σ H1 _ I1 q) fun us s2 ⟨vs, H2, I2, r, q2⟩ => ⟨I2.kIn, ?_⟩) hst hpl
  exact run_fnS (us := .ref a :: us) (vs := .ref a :: vs) F hr hb (hx σ) I2 (.cons rfl r) q2
theorem pe_methSs0 {CX : CXT} {sp : Sp} {E : L2.St → XK} {ta : TE} {pl : Sem Bool} (he : PE X o ta) (c : Cls X.K C) (hm : Meth X.K C m f) (F : FnOk X.prog X.w X.K X.mg X.base CX k f fd ps sp) (hr : Room k X.A) (hb : Binds X.K fd ps []) (hx : ∀ σ, PassesAt CX X σ (E σ))
    (ht : eval (.Call (.Attribute o m apos) [] [] pos) X.env = (do
      let ov ← eval o X.env
      standAt apos.atName
      let (f, first) ← holding [ov] (getMethod ov m pl)
      callWith pos f first (backTo pos (starEach [] X.env)) (backToKw pos (keywordEach [] X.env))) := by rfl) :
    PE X (.Call (.Attribute o m apos) [] [] pos) (tMethS C m sp E ta tNil) := by
  refine ⟨fun pins s σ H Q I h => ?_⟩
  refine PySem.W.methodCall_KW (pl := pl) (thn (he.run pins s σ H _ I h) fun u s1 ⟨x, H1, I1, rx, a, dx, fs, ex, ea, l, q⟩ => ?_) ht
  subst ex
  obtain rfl : u = Value.ref a := rx
  refine getmeth_ok I1 ea c hm l ?_
  exact PySem.W.callWith_K0 (first := [.ref a]) I1.kIn hm.kp (run_fnS (us := [.ref a]) (vs := [.ref a]) F hr hb (hx σ) I1 (.cons rfl .nil) q)
theorem e_meth (c : Cls X.K C) (hm : Meth X.K C m f) (F : FnOk X.prog X.w X.K X.mg X.base (L2.CX X.prog X.w) k f fd ps (spX X.K (es.length + 2) g)) (tk : L2.Takes X W) (hr : Room k X.A) (hb : Binds X.K fd ps []) (ho : PE X o (tX X.K W fo)) (ha : PA X (e :: es) (tXA X.K W ga)) {pl : Sem Bool}
    (hst : starEach (e :: es) X.env = (false, eval e X.env) :: starEach es X.env := by rfl) (hpl : (backTo pos (starEach es X.env)).any (·.1) = false := by rfl)
    (ht : eval (.Call (.Attribute o m apos) (e :: es) [] pos) X.env = (do
      let ov ← eval o X.env
      standAt apos.atName
      let (f, first) ← holding [ov] (getMethod ov m pl)
      callWith pos f first (backTo pos (starEach (e :: es) X.env)) (backToKw pos (keywordEach [] X.env))) := by rfl) (hlen : Len ga (es.length + 1) := by repeat (first | exact len_nil | apply len_cons)) :
    PE X (.Call (.Attribute o m apos) (e :: es) [] pos) (tX X.K W (xMeth C m g fo ga)) :=
  pe_imp (pe_methSs (pl := pl) ho c hm F hr hb (fun σ => passAt tk σ) ha hst hpl ht) fun σ H Q ⟨ρ, st, μ, E, S, h⟩ =>
    tX_of E S h.bind fun x s1 H1 μ1 xv e1 E1 S1 r1 h1 => by
      obtain ⟨a, dx, vs, ev, t, l, q⟩ := h1.bind.hasM S1 r1
      refine ⟨a, dx, vs, ev, t, l, ?_⟩
      refine tXA_eq E1 S1 q.bind fun ds s2 H2 μ2 us eq e2 E2 S2 r2 h2 => ?_
      exact ⟨by rw [List.length_cons, ← r2.length, hlen _ _ _ _ eq], x :: ds, s2, μ2, S2, .cons (r1.ext e2) r2, h2⟩
theorem e_meth0 (c : Cls X.K C) (hm : Meth X.K C m f) (F : FnOk X.prog X.w X.K X.mg X.base (L2.CX X.prog X.w) k f fd ps (spX X.K 1 g)) (tk : L2.Takes X W) (hr : Room k X.A) (hb : Binds X.K fd ps []) (ho : PE X o (tX X.K W fo)) {pl : Sem Bool}
    (ht : eval (.Call (.Attribute o m apos) [] [] pos) X.env = (do
      let ov ← eval o X.env
      standAt apos.atName
      let (f, first) ← holding [ov] (getMethod ov m pl)
      callWith pos f first (backTo pos (starEach [] X.env)) (backToKw pos (keywordEach [] X.env))) := by rfl) :
    PE X (.Call (.Attribute o m apos) [] [] pos) (tX X.K W (xMeth C m g fo xNil)) :=
  pe_imp (pe_methSs0 (pl := pl) ho c hm F hr hb (fun σ => passAt tk σ) ht) fun σ H Q ⟨ρ, st, μ, E, S, h⟩ =>
    tX_of E S h.bind fun x s1 H1 μ1 xv e1 E1 S1 r1 h1 => by
      obtain ⟨a, dx, vs, ev, t, l, q⟩ := h1.bind.hasM S1 r1
      exact ⟨a, dx, vs, ev, t, l, rfl, [x], s1, μ1, S1, .cons r1 .nil, q⟩
/-- C(e, ..) -/
def mkIns (C : Addr) (g : Fn) (ds : List D) (st : Stt) : R D := (g (.loc st.length :: ds) (st ++ [.ins C []])).bind fun d s => match d with
  | .non => .ok (.loc st.length) s
  | _ => .no
def xMake (C : Addr) (g : Fn) (ga : XA) : XE := fun ρ st => (ga ρ st).bind (mkIns C g)
def tMakeS (C : Addr) (sp : Sp) (E : L2.St → XK) (t : TA) : TE := fun σ H Q => t σ H fun vs H1 => ∀ x dx, H1 x = none → H1 dx = none → dx ≠ x → sp (.ref x :: vs) (upd (upd H1 dx (.own x)) x (.ins C dx [])) (fun v H2 => v = .non ∧ Q (.ref x) H2) (E σ)
theorem run_makeS {CX : CXT} {sp : Sp} {E : L2.St → XK} {pins : List (Addr × Obj)} {σ : L2.St} {H : Hp} {s : Shared} {Q : VK} {us : List Value} {vs : List V} (M : Mk X.K C f) (F : FnOk X.prog X.w X.K X.mg X.base CX k f fd ps sp) (hr : Room (k + 1) X.A) (hb : Binds X.K fd ps [])
    (hx : PassesAt CX X σ (E σ)) (I : Inv X pins σ H s) (r : Vals vs us)
    (h : ∀ x dx, H x = none → H dx = none → dx ≠ x → sp (.ref x :: vs) (upd (upd H dx (.own x)) x (.ins C dx [])) (fun v H2 => v = .non ∧ Q (.ref x) H2) (E σ)) :
    wpAny (model X.prog X.w) X.A (call (.ref C) us) (EP X pins σ Q) X.xe s := by
  have hq := h (s.heap.objs.size + 1) s.heap.objs.size (I.hok.fresh (Nat.le_succ _)) (I.hok.fresh (Nat.le_refl _)) (Nat.ne_of_lt (Nat.lt_succ_self _))
  have I2 := Inv.made (C := C) I
  have r2 : Vals (V.ref (s.heap.objs.size + 1) :: vs) (Value.ref (s.heap.objs.size + 1) :: us) := .cons rfl r
  have hl : (Value.ref (s.heap.objs.size + 1) :: us).length = ps.length := by
    have e := r2.length
    rw [F.len _ _ _ _ hq] at e
    exact e.symm
  have b := hb _ (Value.ref (s.heap.objs.size + 1) :: us) I2.kIn (by rw [List.append_nil]; exact hl)
  rw [List.append_nil] at b
  refine wpAny_call (make_map (f := f) I.kIn M.makes M.init (beq_iff_eq.mp M.fn) (codeAny_mono (F.run _ X.stack _ _ ⟨Value.ref (s.heap.objs.size + 1) :: us, []⟩ (Value.ref (s.heap.objs.size + 1) :: us) _ _ (E σ) (hr.make C us [])
    (I2.env0.make C us []) b r2 hq) fun r s' hq' => ?_))
  cases r with
  | error e => exact hx pins _ _ e s' I2 hq'
  | ok fl =>
    cases fl with
    | ret u =>
      obtain ⟨v, H', I3, rv, ev, q3⟩ := I2.after hq'
      subst ev
      exact ⟨rv, ⟨V.ref (s.heap.objs.size + 1), H', I3, rfl, q3⟩⟩
    | next => exact False.elim hq'
    | brk => exact False.elim hq'
    | cont => exact False.elim hq'
theorem pe_makeS {CX : CXT} {sp : Sp} {E : L2.St → XK} {t : TA} (M : Mk X.K C f) (F : FnOk X.prog X.w X.K X.mg X.base CX k f fd ps sp) (hr : Room (k + 1) X.A) (hg : Gl X x) (hm : X.mg x = some (.ref C)) (hb : Binds X.K fd ps []) (hx : ∀ σ, PassesAt CX X σ (E σ))
    (ha : PA X (e :: es) t) (hdb : (x == ("__debug__" : Str)) = false := by decide) (he : starEach (e :: es) X.env = (false, eval e X.env) :: starEach es X.env := by rfl) (hpl : (backTo pos (starEach es X.env)).any (·.1) = false := by rfl) :
    PE X (.Call (.Name x p) (e :: es) [] pos) (tMakeS C sp E t) := by
  refine ⟨fun pins s σ H Q I h => ?_⟩
  refine wpAny_Call_Name_kw (ld_glob I hg hm ?_ hdb)
  refine PySem.W.callWith_K (h₀ := X.base) I.ok.mod.kin M.kp (thn (ha.run pos pins s σ H _ I h) fun us s1 ⟨vs, H1, I1, r, q⟩ => ⟨I1.kIn, ?_⟩) he hpl
  exact run_makeS M F hr hb (hx σ) I1 r q
theorem pe_makeS0 {CX : CXT} {sp : Sp} {E : L2.St → XK} (M : Mk X.K C f) (F : FnOk X.prog X.w X.K X.mg X.base CX k f fd ps sp) (hr : Room (k + 1) X.A) (hg : Gl X x) (hm : X.mg x = some (.ref C)) (hb : Binds X.K fd ps []) (hx : ∀ σ, PassesAt CX X σ (E σ))
    (hdb : (x == ("__debug__" : Str)) = false := by decide) : PE X (.Call (.Name x p) [] [] pos) (tMakeS C sp E tNil) := by
  refine ⟨fun pins s σ H Q I h => ?_⟩
  refine wpAny_Call_Name_kw (ld_glob I hg hm ?_ hdb)
  exact PySem.W.callWith_K0 I.kIn M.kp (run_makeS (us := []) M F hr hb (hx σ) I .nil h)
theorem mk_ok {K : PySem.W.Frag} {n : Nat} {ds : List D} {st : Stt} {H : Hp} {μ : List Addr} {E : XK} {Q : VK} {vs : List V} (S : SR K H μ st) (r : Rls K H μ ds vs) (hn : vs.length = n) (h : RO K (fun e H' μ' => ∀ d, XR K H' μ' e d → E (.ref e.cls) d H') H μ (QD K Q) (mkIns C g ds st)) :
    ∀ x dx, H x = none → H dx = none → dx ≠ x → spX K (n + 1) g (.ref x :: vs) (upd (upd H dx (.own x)) x (.ins C dx [])) (fun v H2 => v = .non ∧ Q (.ref x) H2) E := fun x dx hx hdx hne => by
  have hx2 : upd H dx (.own x) x = none := by rw [upd_ne (Ne.symm hne)]; exact hx
  have S1 := S.side hdx (.own x)
  have e1 : Ext K H μ (upd H dx (.own x)) μ := ext_side hdx _
  have e2 : Ext K (upd H dx (.own x)) μ (upd (upd H dx (.own x)) x (.ins C dx [])) (μ ++ [x]) := ext_new hx2 _
  have S2 : SR K (upd (upd H dx (.own x)) x (.ins C dx [])) (μ ++ [x]) (st ++ [.ins C []]) := S1.new (o := .ins C []) hx2 ⟨dx, [], upd_same, .nil⟩
  have hl : (μ ++ [x])[st.length]? = some x := by rw [← S.len]; simp
  refine ⟨by rw [List.length_cons, hn], .loc st.length :: ds, _, _, S2, .cons (.loc hl) (r.ext (e1.trans e2)), ?_⟩
  refine (h.bind.at (e1.trans e2)).mono fun d s H' μ' e S' q v rv => ?_
  cases d with
  | non =>
    cases rv
    exact ⟨rfl, q.ok S' _ (.loc (e.get hl))⟩
  | bl _ => exact q.elim
  | int _ => exact q.elim
  | str _ => exact q.elim
  | tup _ => exact q.elim
  | loc _ => exact q.elim
  | cl _ => exact q.elim
theorem e_make (M : Mk X.K C f) (F : FnOk X.prog X.w X.K X.mg X.base (L2.CX X.prog X.w) k f fd ps (spX X.K (es.length + 2) g)) (tk : L2.Takes X W) (hr : Room (k + 1) X.A) (hm : X.mg x = some (.ref C)) (hb : Binds X.K fd ps []) (ha : PA X (e :: es) (tXA X.K W ga)) (hg : Gl X x := by rfl) (hdb : (x == ("__debug__" : Str)) = false := by decide) (he : starEach (e :: es) X.env = (false, eval e X.env) :: starEach es X.env := by rfl) (hpl : (backTo pos (starEach es X.env)).any (·.1) = false := by rfl) (hlen : Len ga (es.length + 1) := by repeat (first | exact len_nil | apply len_cons)) :
    PE X (.Call (.Name x p) (e :: es) [] pos) (tX X.K W (xMake C g ga)) :=
  pe_imp (pe_makeS M F hr hg hm hb (fun σ => passAt tk σ) ha hdb he hpl) fun σ H Q ⟨ρ, st, μ, E, S, h⟩ =>
    tXA_eq E S h.bind fun ds s1 H1 μ1 vs eq e1 E1 S1 r1 h1 => mk_ok S1 r1 (by rw [← r1.length]; exact hlen _ _ _ _ eq) h1
theorem e_make0 (M : Mk X.K C f) (F : FnOk X.prog X.w X.K X.mg X.base (L2.CX X.prog X.w) k f fd ps (spX X.K 1 g)) (tk : L2.Takes X W) (hr : Room (k + 1) X.A) (hm : X.mg x = some (.ref C)) (hb : Binds X.K fd ps []) (hg : Gl X x := by rfl) (hdb : (x == ("__debug__" : Str)) = false := by decide) :
    PE X (.Call (.Name x p) [] [] pos) (tX X.K W (xMake C g xNil)) :=
  pe_imp (pe_makeS0 M F hr hg hm hb (fun σ => passAt tk σ) hdb) fun σ H Q ⟨ρ, st, μ, E, S, h⟩ => mk_ok S .nil rfl h
end
end Rg

set_option Elab.async false
set_option linter.all false
set_option maxRecDepth 100000
namespace Rg
open PySem PySem.Spec PyProof.Rows L2

/-! ### tuples of the module -/
mutual
theorem WT.ok {K : PySem.W.Frag} {H : Hp} {μ : List Addr} : ∀ {d : D} {u : Value}, WT K d u → ∃ v, RelV v u ∧ Rl K H μ d v
  | _, _, .non => ⟨.non, rfl, .non⟩
  | _, _, .bl b => ⟨.bl b, rfl, .bl b⟩
  | _, _, .int i t => ⟨.int i, ⟨t, rfl⟩, .int i⟩
  | _, _, .str x t => ⟨.str x, ⟨t, rfl⟩, .str x⟩
  | _, _, .tup (a := a) (its := its) h1 h2 h3 h4 h5 => by
    obtain ⟨vs, r1, r2⟩ := WT.oks h5
    exact ⟨.ref a, rfl, .tup (.inr ⟨_, its, _, h1, h2, h3, h4, r1⟩) r2⟩
theorem WT.oks {K : PySem.W.Frag} {H : Hp} {μ : List Addr} : ∀ {ds : List D} {us : List Value}, Paired (WT K) ds us → ∃ vs, Vals vs us ∧ Rls K H μ ds vs
  | _, _, .nil => ⟨[], .nil, .nil⟩
  | _, _, .cons h t => by
    obtain ⟨v, r1, r2⟩ := WT.ok (H := H) (μ := μ) h
    obtain ⟨vs, q1, q2⟩ := WT.oks (H := H) (μ := μ) t
    exact ⟨v :: vs, .cons r1 q1, .cons r2 q2⟩
end
section
variable {X : Cx} {a b c e : Expr} {es : List Expr} {fa fb fc : XE} {pos : Pos} {W : WX}
theorem e_gw {x : Str} {d : D} {u : Value} (hm : X.mg x = some u) (t : WT X.K d u) (hg : Gl X x := by rfl) (hd : (x == ("__debug__" : Str)) = false := by decide) : PE X (.Name x pos) (tX X.K W (xC d)) := by
  obtain ⟨v, r, _⟩ := WT.ok (H := fun _ => none) (μ := []) t
  exact pe_imp (pe_glob hg hm r hd) fun σ H Q ⟨ρ, st, μ, E, S, h⟩ => by
    obtain ⟨v', r', q⟩ := WT.ok (H := H) (μ := μ) t
    rw [r.inj r']
    exact h.ok S v' q

/-! ### and, or as values -/
theorem e_and {rest : List Expr} (ha : PE X a (tX X.K W fa)) (hb : PE X (.BoolOp .And (b :: rest) pos) (tX X.K W fb)) : PE X (.BoolOp .And (a :: b :: rest) pos) (tX X.K W (xAndV fa fb)) :=
  pe_imp (pe_andT ha hb) fun σ H Q ⟨ρ, st, μ, E, S, h⟩ =>
    tX_of E S h.bind fun x s1 H1 μ1 xv e1 E1 S1 r1 h1 => by
      obtain ⟨k, t, _, q⟩ := h1.bind.isT S1 r1
      refine ⟨k, t, ?_⟩
      cases k with
      | true => exact ⟨ρ, s1, μ1, E1, S1, q⟩
      | false => exact q.ok S1 xv r1
theorem e_or {rest : List Expr} (ha : PE X a (tX X.K W fa)) (hb : PE X (.BoolOp .Or (b :: rest) pos) (tX X.K W fb)) : PE X (.BoolOp .Or (a :: b :: rest) pos) (tX X.K W (xOrV fa fb)) :=
  pe_imp (pe_orT ha hb) fun σ H Q ⟨ρ, st, μ, E, S, h⟩ =>
    tX_of E S h.bind fun x s1 H1 μ1 xv e1 E1 S1 r1 h1 => by
      obtain ⟨k, t, _, q⟩ := h1.bind.isT S1 r1
      refine ⟨k, t, ?_⟩
      cases k with
      | true => exact q.ok S1 xv r1
      | false => exact ⟨ρ, s1, μ1, E1, S1, q⟩
end
variable {K : PySem.W.Frag}
/-! ### one operand -/
def oNeg : Op1 := fun d st => match d with
  | .int i => some (.int (-i), st)
  | _ => none
theorem does_neg : Does1 K (rU fun i => .int (-i)) oNeg := fun x st d st' xv H μ Q rx S h q => by
  unfold oNeg at h
  split at h
  · cases h
    cases rx
    exact ⟨_, rfl, q _ H μ (Ext.refl _ _) S (.int _)⟩
  · cases h
def oInv : Op1 := fun d st => match d with
  | .int i => some (.int (Builtin.bitNot i), st)
  | _ => none
theorem does_inv : Does1 K (rU fun i => .int (Builtin.bitNot i)) oInv := fun x st d st' xv H μ Q rx S h q => by
  unfold oInv at h
  split at h
  · cases h
    cases rx
    exact ⟨_, rfl, q _ H μ (Ext.refl _ _) S (.int _)⟩
  · cases h
/-! ### bits -/
abbrev oAnd : Op2 := oI CAny fun i j => .int (Builtin.bitAnd i j)
abbrev oOr : Op2 := oI CAny fun i j => .int (Builtin.bitOr i j)
abbrev oXor : Op2 := oI CAny fun i j => .int (Builtin.bitXor i j)
abbrev oShl : Op2 := oI CPow fun i j => .int (i * 2 ^ j.toNat)
theorem does_and : Does K (rI0 fun i j => .int (Builtin.bitAnd i j)) oAnd := does_I0
theorem does_orB : Does K (rI0 fun i j => .int (Builtin.bitOr i j)) oOr := does_I0
theorem does_xor : Does K (rI0 fun i j => .int (Builtin.bitXor i j)) oXor := does_I0
theorem does_shl : Does K (rI CPow fun i j => .int (i * 2 ^ j.toNat)) oShl := does_I
/-! ### is None, is a bool -/
def isNon : D → Bool
  | .non => true
  | _ => false
theorem isNon_ok {H : Hp} {μ : List Addr} {d : D} {v : V} (r : Rl K H μ d v) : decide (v = .non) = isNon d := by
  cases r <;> simp [isNon]
def oIsN : Op2 := fun x y st => match y with
  | .non => some (.bl (isNon x), st)
  | _ => none
def oNotN : Op2 := fun x y st => match y with
  | .non => some (.bl (!isNon x), st)
  | _ => none
theorem does_isN : Does K rIsN oIsN := fun x y st d st' xv yv H μ Q rx ry S h q => by
  unfold oIsN at h
  split at h
  · cases h
    cases ry
    refine ⟨rfl, ?_⟩
    rw [isNon_ok rx]
    exact q _ H μ (Ext.refl _ _) S (.bl _)
  · cases h
theorem does_notN : Does K rNotN oNotN := fun x y st d st' xv yv H μ Q rx ry S h q => by
  unfold oNotN at h
  split at h
  · cases h
    cases ry
    refine ⟨rfl, ?_⟩
    rw [isNon_ok rx]
    exact q _ H μ (Ext.refl _ _) S (.bl _)
  · cases h
/-! ### in -/
def fv : D → Option V
  | .non => some .non
  | .bl b => some (.bl b)
  | .int i => some (.int i)
  | .str x => some (.str x)
  | _ => none
theorem fv_ok {H : Hp} {μ : List Addr} {d : D} {v w : V} (r : Rl K H μ d v) (h : fv d = some w) : v = w ∧ flatV v = true := by
  cases r <;> first | (cases h; exact ⟨rfl, rfl⟩) | cases h
theorem fvs_ok {H : Hp} {μ : List Addr} : ∀ {ds : List D} {vs ws : List V}, Rls K H μ ds vs → ds.mapM fv = some ws → vs = ws ∧ vs.all flatV = true
  | [], vs, ws, r, h => by
    rw [List.mapM_nil] at h
    cases h
    rw [r.nil_inv]
    exact ⟨rfl, rfl⟩
  | d :: ds, vs, ws, r, h => by
    rw [List.mapM_cons] at h
    obtain ⟨p, h1, h⟩ := Option.bind_eq_some_iff.mp h
    obtain ⟨qs, h2, h⟩ := Option.bind_eq_some_iff.mp h
    cases h
    obtain ⟨v, us, rfl, ra, rb⟩ := r.cons_inv
    obtain ⟨rfl, f1⟩ := fv_ok ra h1
    obtain ⟨rfl, f2⟩ := fvs_ok rb h2
    exact ⟨rfl, by rw [List.all_cons, f1, f2]; rfl⟩
def inTxt (i j : Str) : Bool := match i.cps.toList with
  | [c] => decide (c ∈ j.cps.toList)
  | _ => !(Builtin.Str.occurrences j i 0 j.length 1).isEmpty
/-- x in y: a text, a list or tuple of flat items -/
def inOf (st : Stt) (x y : D) : Option Bool := match y with
  | .str j => match x with
    | .str i => some (inTxt i j)
    | _ => none
  | y => (items st y).bind fun ds => (fv x).bind fun w => (ds.mapM fv).map fun ws => inV w ws
def oIn : Op2 := fun x y st => (inOf st x y).map fun b => (.bl b, st)
def oNotIn : Op2 := fun x y st => (inOf st x y).map fun b => (.bl !b, st)
def rInAny (K : PySem.W.Frag) (neg : Bool) : R2 := fun x y H Q => (∃ (c : Nat) (z : Str), x = .str ⟨#[c]⟩ ∧ y = .str z ∧ Q (.bl (if neg then !decide (c ∈ z.cps.toList) else decide (c ∈ z.cps.toList))) H) ∨
  ((∃ i j, x = .str i ∧ y = .str j ∧ Q (.bl (if neg then !(!(Builtin.Str.occurrences j i 0 j.length 1).isEmpty) else !(Builtin.Str.occurrences j i 0 j.length 1).isEmpty)) H) ∨ rIn K neg x y H Q)
theorem op_inAny {X : Cx} : OpR X (compareOp .In) (rInAny X.K false) := op_in_sign.or (op_in_str.or op_in_seq)
theorem op_notInAny {X : Cx} : OpR X (compareOp .NotIn) (rInAny X.K true) := op_notIn_sign.or (op_notIn_str.or op_notIn_seq)
theorem inOf_ok {neg : Bool} {x y : D} {st : Stt} {b : Bool} {xv yv : V} {H : Hp} {μ : List Addr} {Q : VK} (rx : Rl K H μ x xv) (ry : Rl K H μ y yv) (S : SR K H μ st) (h : inOf st x y = some b) (q : Q (.bl (if neg then !b else b)) H) : rInAny K neg xv yv H Q := by
  have seq : ∀ {y : D} {yv : V}, Rl K H μ y yv → ((items st y).bind fun ds => (fv x).bind fun w => (ds.mapM fv).map fun ws => inV w ws) = some b → rIn K neg xv yv H Q := fun ry h => by
    obtain ⟨ds, h1, h⟩ := Option.bind_eq_some_iff.mp h
    obtain ⟨w, h2, h⟩ := Option.bind_eq_some_iff.mp h
    obtain ⟨ws, h3, h⟩ := Option.map_eq_some_iff.mp h
    subst h
    obtain ⟨a, us, rfl, hq, q1⟩ := items_seq (K := K) S h1 ry
    obtain ⟨rfl, f1⟩ := fv_ok rx h2
    obtain ⟨rfl, f2⟩ := fvs_ok q1 h3
    exact ⟨a, us, rfl, hq, f1, f2, q⟩
  cases y with
  | str j =>
    cases x with
    | str i =>
      cases rx
      cases ry
      cases h
      unfold inTxt at q
      cases hc : i.cps.toList with
      | nil => rw [hc] at q; exact .inr (.inl ⟨i, j, rfl, rfl, by cases neg <;> exact q⟩)
      | cons c r =>
        cases r with
        | nil =>
          rw [hc] at q
          refine .inl ⟨c, j, ?_, rfl, by cases neg <;> exact q⟩
          obtain ⟨cs⟩ := i
          have : cs = #[c] := by
            obtain ⟨l⟩ := cs
            have hc : l = [c] := hc
            rw [hc]
          rw [this]
        | cons c2 r2 => rw [hc] at q; exact .inr (.inl ⟨i, j, rfl, rfl, by cases neg <;> exact q⟩)
    | non => cases h
    | bl _ => cases h
    | int _ => cases h
    | tup _ => cases h
    | cl _ => cases h
    | loc _ => cases h
  | non => cases h
  | bl _ => cases h
  | int _ => cases h
  | tup _ => exact .inr (.inr (seq ry h))
  | cl _ => exact .inr (.inr (seq ry h))
  | loc _ => exact .inr (.inr (seq ry h))
theorem does_in : Does K (rInAny K false) oIn := fun x y st d st' xv yv H μ Q rx ry S h q => by
  obtain ⟨b, h1, h2⟩ := Option.map_eq_some_iff.mp h
  cases h2
  exact inOf_ok rx ry S h1 (q _ H μ (Ext.refl _ _) S (.bl _))
theorem does_notIn : Does K (rInAny K true) oNotIn := fun x y st d st' xv yv H μ Q rx ry S h q => by
  obtain ⟨b, h1, h2⟩ := Option.map_eq_some_iff.mp h
  cases h2
  exact inOf_ok rx ry S h1 (q _ H μ (Ext.refl _ _) S (.bl _))
/-! ### dicts -/
theorem KR.find {H : Hp} {μ : List Addr} {k : Key} : ∀ {kd : List (Key × D)} {kv : List (Key × V)}, KR K H μ kd kv →
    (∀ d, (kd.find? fun p => decide (p.1 = k)).map (·.2) = some d → ∃ v, valV kv k = some v ∧ Rl K H μ d v) ∧ ((kd.find? fun p => decide (p.1 = k)) = none → valV kv k = none)
  | _, _, .nil => ⟨fun d h => by simp at h, fun _ => rfl⟩
  | (a, x) :: kd, (b, y) :: kv, .cons r t => by
    obtain ⟨e, r⟩ := r
    have e : a = b := e
    subst e
    obtain ⟨i1, i2⟩ := KR.find t
    unfold valV
    by_cases h : a = k
    · have hd : decide (a = k) = true := decide_eq_true h
      simp only [List.find?, hd]
      exact ⟨fun d e => ⟨y, rfl, by simp at e; rw [← e]; exact r⟩, fun z => by simp at z⟩
    · have hd : decide (a = k) = false := decide_eq_false h
      simp only [List.find?, hd]
      exact ⟨i1, i2⟩
def getD' (kvs : List (Key × D)) (k : Key) : Option D := (kvs.find? fun p => decide (p.1 = k)).map (·.2)
/-- d[k] -/
def oGet : Op2 := fun x y st => (dctAt st x).bind fun p => (keyD y).bind fun k => (getD' p.2 k).map fun d => (d, st)
def oHas : Op2 := fun y x st => (dctAt st x).bind fun p => (keyD y).map fun k => (.bl (getD' p.2 k).isSome, st)
def oHasnt : Op2 := fun y x st => (dctAt st x).bind fun p => (keyD y).map fun k => (.bl (!(getD' p.2 k).isSome), st)
section
variable {X : Cx} {a b c e o i : Expr} {es : List Expr} {fa fb fc fo fi : XE} {pos : Pos} {W : WX}
theorem e_get (hu : X.A.units + 1 < cLine) (ho : PE X o (tX X.K W fo)) (hi : PE X i (tX X.K W fi)) (hs : NoSl i := by exact fun _ _ => rfl) : PE X (.Subscript o i pos) (tX X.K W (x2 oGet fo fi)) :=
  pe_imp (pe_dget hu ho hi hs) fun σ H Q ⟨ρ, st, μ, E, S, h⟩ => by
    refine tX_of E S h.bind fun x s1 H1 μ1 xv e1 E1 S1 r1 h1 => ?_
    refine tX_of E1 S1 h1.bind fun y s2 H2 μ2 yv e2 E2 S2 r2 h2 => ?_
    obtain ⟨d, s3, h3, k⟩ := h2.of
    obtain ⟨⟨n, kvs⟩, h4, h3⟩ := Option.bind_eq_some_iff.mp h3
    obtain ⟨key, h5, h3⟩ := Option.bind_eq_some_iff.mp h3
    obtain ⟨dd, h6, h3⟩ := Option.map_eq_some_iff.mp h3
    cases h3
    obtain ⟨rfl, e4⟩ := dctAt_some h4
    have := keyD_ok r2 h5
    subst this
    obtain ⟨a, us, rfl, ha, t, q1⟩ := S2.dct e4 (r1.ext e2)
    obtain ⟨v, hv, r⟩ := (q1.find (k := key)).1 _ h6
    exact ⟨a, v, rfl, by rw [← hv]; exact DGet.k t, k H2 μ2 (Ext.refl _ _) S2 v r⟩
theorem has_ok {K : PySem.W.Frag} {H : Hp} {μ : List Addr} {st : Stt} {x y : D} {xv yv : V} {n : Nat} {kvs : List (Key × D)} {key : Key} (S : SR K H μ st) (rx : Rl K H μ x xv) (ry : Rl K H μ y yv) (h4 : dctAt st x = some (n, kvs)) (h5 : keyD y = some key) :
    ∃ a o, xv = .ref a ∧ DGet H a yv o ∧ o.isSome = (getD' kvs key).isSome := by
  obtain ⟨rfl, e4⟩ := dctAt_some h4
  have := keyD_ok ry h5
  subst this
  obtain ⟨a, us, rfl, ha, t, q1⟩ := S.dct e4 rx
  refine ⟨a, _, rfl, DGet.k t, ?_⟩
  unfold getD'
  cases hf : kvs.find? fun p => decide (p.1 = key) with
  | none => rw [(q1.find (k := key)).2 hf]; rfl
  | some p =>
    obtain ⟨v, hv, _⟩ := (q1.find (k := key)).1 p.2 (by rw [hf]; rfl)
    rw [hv]
    rfl
theorem c_has (hu : X.A.units + 1 < cLine) (hi : PE X i (tX X.K W fi)) (ho : PE X o (tX X.K W fo)) : PC X .In i o (tX X.K W (x2 oHas fi fo)) :=
  ⟨fun pins s σ H Q I ⟨ρ, st, μ, E, S, h⟩ => (pc_din hu hi ho).run pins s σ H Q I (by
    refine tX_of E S h.bind fun y s1 H1 μ1 yv e1 E1 S1 r1 h1 => ?_
    refine tX_of E1 S1 h1.bind fun x s2 H2 μ2 xv e2 E2 S2 r2 h2 => ?_
    obtain ⟨d, s3, h3, k⟩ := h2.of
    obtain ⟨⟨n, kvs⟩, h4, h3⟩ := Option.bind_eq_some_iff.mp h3
    obtain ⟨key, h5, h3⟩ := Option.map_eq_some_iff.mp h3
    cases h3
    obtain ⟨a, o, ea, g, eo⟩ := has_ok S2 r2 (r1.ext e2) h4 h5
    exact ⟨a, o, ea, g, by rw [eo]; exact k H2 μ2 (Ext.refl _ _) S2 _ (.bl _)⟩)⟩
theorem c_hasnt (hu : X.A.units + 1 < cLine) (hi : PE X i (tX X.K W fi)) (ho : PE X o (tX X.K W fo)) : PC X .NotIn i o (tX X.K W (x2 oHasnt fi fo)) :=
  ⟨fun pins s σ H Q I ⟨ρ, st, μ, E, S, h⟩ => (pc_dnotin hu hi ho).run pins s σ H Q I (by
    refine tX_of E S h.bind fun y s1 H1 μ1 yv e1 E1 S1 r1 h1 => ?_
    refine tX_of E1 S1 h1.bind fun x s2 H2 μ2 xv e2 E2 S2 r2 h2 => ?_
    obtain ⟨d, s3, h3, k⟩ := h2.of
    obtain ⟨⟨n, kvs⟩, h4, h3⟩ := Option.bind_eq_some_iff.mp h3
    obtain ⟨key, h5, h3⟩ := Option.map_eq_some_iff.mp h3
    cases h3
    obtain ⟨a, o, ea, g, eo⟩ := has_ok S2 r2 (r1.ext e2) h4 h5
    exact ⟨a, o, ea, g, by rw [eo]; exact k H2 μ2 (Ext.refl _ _) S2 _ (.bl _)⟩)⟩
theorem e_pc {op : CmpOp} {f : XE} (h : PC X op a b (tX X.K W f)) (hm : behindInMarks op b = false := by rfl) : PE X (.Compare a [op] [b] pos) (tX X.K W f) := pe_cmp h hm
theorem t_pc {op : CmpOp} {f : XE} (h : PC X op a b (tX X.K W f)) (hm : behindInMarks op b = false := by rfl) : PT X (.Compare a [op] [b] pos) (tXT X.K W (xB f)) :=
  pt_imp (pt_cmp h hm) fun σ H Q h => tX_bl h
/-- {k: v, ..} of constants -/
def mergeD (more : List (Key × D)) : List (Key × D) := more.foldl (fun acc kv => putD acc kv.1 kv.2) []
theorem kr_merge {K : PySem.W.Frag} {H : Hp} {μ : List Addr} : ∀ {more : List (Key × D)} {mv : List (Key × V)} {kd : List (Key × D)} {kv : List (Key × V)}, KR K H μ more mv → KR K H μ kd kv → KR K H μ (more.foldl (fun acc kv => putD acc kv.1 kv.2) kd) (mergeK kv mv)
  | _, _, _, _, .nil, r => r
  | (a, x) :: more, (b, y) :: mv, kd, kv, .cons h t, r => by
    obtain ⟨e, h⟩ := h
    have e : a = b := e
    subst e
    show KR K H μ (more.foldl _ (putD kd a x)) (mergeK (putK kv a y) mv)
    exact kr_merge t (kr_put h r)
def xDispC (kvs : List (Key × D)) : XE := fun _ st => .ok (.loc st.length) (st ++ [.dct (mergeD kvs)])
/-- keys and values that are written down -/
inductive CP (X : Cx) : List (TE × TE) → List (Key × D) → Prop
  | nil : CP X [] []
  | consS {x : Str} {d : D} {v : V} {r : List (TE × TE)} {kvs : List (Key × D)} : (∀ H μ, Rl X.K H μ d v) → CP X r kvs → CP X ((tC (.str x), tC v) :: r) ((.inr x, d) :: kvs)
  | consI {x : Int} {d : D} {v : V} {r : List (TE × TE)} {kvs : List (Key × D)} : (∀ H μ, Rl X.K H μ d v) → CP X r kvs → CP X ((tC (.int x), tC v) :: r) ((.inl x, d) :: kvs)
theorem CP.len {trs : List (TE × TE)} {kvs : List (Key × D)} (h : CP X trs kvs) : kvs.length = trs.length := by
  induction h with
  | nil => rfl
  | consS _ _ ih => simp [ih]
  | consI _ _ ih => simp [ih]
theorem CP.run {trs : List (TE × TE)} {kvs : List (Key × D)} (h : CP X trs kvs) : ∀ {σ : L2.St} {H : Hp} {Q : List (V × V) → Hp → Prop}, (∀ kv, (∀ μ, KR X.K H μ kvs kv) → Q (kv.map fun p => (kV p.1, p.2)) H) → tPairs trs σ H Q := by
  induction h with
  | nil => exact fun h => h [] fun _ => .nil
  | @consS x d v r kvs r1 _ ih => exact fun {σ H Q} h => ih fun kv hk => h ((.inr x, v) :: kv) fun μ => .cons ⟨rfl, r1 H μ⟩ (hk μ)
  | @consI x d v r kvs r1 _ ih => exact fun {σ H Q} h => ih fun kv hk => h ((.inl x, v) :: kv) fun μ => .cons ⟨rfl, r1 H μ⟩ (hk μ)
theorem e_dispC {keys : List (Option Expr)} {values : List Expr} {trs : List (TE × TE)} {kvs : List (Key × D)} (h : PPs X pos keys values trs) (hc : CP X trs kvs) (hall : keys.all (·.isSome) = true := by rfl) (hl : keys.length = values.length := by rfl) (h0 : keys ≠ [] := by simp) (h15 : keys.length ≤ 15 := by decide) (h16 : trs.length ≤ 15 := by decide) : PE X (.Dict keys values pos) (tX X.K W (xDispC kvs)) :=
  pe_imp (pe_disp h hall hl h0 h15) fun σ H Q ⟨ρ, st, μ, E, S, h⟩ => by
    intro p hp
    refine hc.run fun kv hk => ⟨upd_same, kv, rfl, ?_, ?_⟩
    · rw [← Paired.length (hk []), hc.len]
      exact h16
    · rw [upd_upd]
      have e : Ext X.K H μ (upd H p (.dK (mergeK [] kv))) (μ ++ [p]) := ext_new hp _
      refine h _ (μ ++ [p]) e (S.new (o := .dct (mergeD kvs)) hp ⟨_, upd_same, ?_⟩) _ (loc_new S)
      have := kr_merge (hk μ) (.nil : KR X.K (upd H p (.dK [])) μ [] [])
      exact ((KR.ext · this) : Ext X.K (upd H p (.dK [])) μ (upd H p (.dK (mergeK [] kv))) (μ ++ [p]) → _) ⟨fun a vs h => by have z := sqT_upd (u := .dK (mergeK [] kv)) (p := p) (fun w e => by rw [upd_same] at e; cases e; exact ⟨fun _ z => HO.noConfusion z, fun _ _ z => by cases z⟩) h; rw [upd_upd] at z; exact z, fun a vs h => by have z := cl_upd (u := .dK (mergeK [] kv)) (p := p) (fun w e => by rw [upd_same] at e; cases e; exact ⟨fun _ z => HO.noConfusion z, fun _ _ z => by cases z⟩) h; rw [upd_upd] at z; exact z, [p], rfl⟩
end
end Rg

set_option Elab.async false
set_option linter.all false
set_option maxRecDepth 100000
namespace Rg
open PySem PySem.Spec PyProof.Rows L2
variable {K : PySem.W.Frag}
/-! ### slices of texts too -/
def oSlA (x : D) (lo hi : Option Int) (st : Stt) : Option (D × Stt) := match x with
  | .str z => if z.length ≤ sizeLine then some (.str (cutS z lo hi), st) else none
  | x => oSl x lo hi st
section
variable {X : Cx} {a : Expr} {fa : XE} {pos : Pos} {W : WX}
theorem e_slA {lo hi : Option Expr} {fl fu : XO} {p2 : Pos} (ha : PE X a (tX X.K W fa)) (hl : PO X lo (tXO X.K W fl)) (hu : PO X hi (tXO X.K W fu)) : PE X (.Subscript a (.Slice lo hi none p2) pos) (tX X.K W (xSl oSlA fa fl fu)) :=
  pe_imp (pe_slice ((sl_list.or sl_tupA).or sl_str) ha hl hu) fun σ H Q ⟨ρ, st, μ, E, S, h⟩ => by
    refine tX_of E S h.bind fun x s1 H1 μ1 xv e1 E1 S1 r1 h1 => ?_
    refine tXO_of E1 S1 h1.bind fun l s2 H2 μ2 e2 E2 S2 h2 => ?_
    refine tXO_of E2 S2 h2.bind fun u s3 H3 μ3 e3 E3 S3 h3 => ?_
    obtain ⟨d, s4, h4, k⟩ := h3.of
    have r3 := (r1.ext e2).ext e3
    have seq : oSl x l u s3 = some (d, s4) → (rSlL X.K xv l u H3 Q ∨ rSlA X.K xv l u H3 Q) := fun h4 => by
      unfold oSl at h4
      split at h4
      · rename_i ds
        cases h4
        obtain ⟨a, vs, rfl, hq, q1⟩ := seqT (K := X.K) r3
        refine .inr ⟨a, vs, rfl, hq, fun hw => ?_, fun _ n hn => ?_⟩
        · rw [← q1.length] at hw
          refine k H3 μ3 (Ext.refl _ _) S3 _ ?_
          rw [cut_whole hw]
          exact .tup hq q1
        · exact k _ μ3 (ext_tup hn _) (S3.tup hn _) _ (.tup (.inl (.inl upd_same)) ((cut_rls q1 _ _).ext (ext_tup hn _)))
      · rename_i n
        obtain ⟨ds, hd, h4⟩ := Option.map_eq_some_iff.mp h4
        cases h4
        obtain ⟨a, vs, rfl, hq, q1⟩ := S3.seqL (K := X.K) hd r3
        exact .inl ⟨a, vs, rfl, hq, fun n hn => k _ _ (ext_new hn _) (S3.newL hn (cut_rls q1 _ _)) _ (loc_new S3)⟩
      · cases h4
        obtain ⟨a, vs, rfl, hq, q1⟩ := seqC (K := X.K) r3
        exact .inl ⟨a, vs, rfl, hq, fun n hn => k _ _ (ext_new hn _) (S3.newL hn (cut_rls q1 _ _)) _ (loc_new S3)⟩
      · cases h4
    cases x with
    | str z =>
      have h4 : (if z.length ≤ sizeLine then some (D.str (cutS z l u), s3) else none) = some (d, s4) := h4
      by_cases hz : z.length ≤ sizeLine
      · rw [if_pos hz] at h4
        cases h4
        cases r3
        exact .inr ⟨z, rfl, hz, k H3 μ3 (Ext.refl _ _) S3 _ (.str _)⟩
      · rw [if_neg hz] at h4
        cases h4
    | non => exact .inl (seq h4)
    | bl _ => exact .inl (seq h4)
    | int _ => exact .inl (seq h4)
    | tup _ => exact .inl (seq h4)
    | loc _ => exact .inl (seq h4)
    | cl _ => exact .inl (seq h4)
end
/-! ### products -/
def repS (x : Str) (n : Int) : Str := if n < 1 then Str.empty else if (n == 1 || x.length == 0) = true then x else ⟨(List.replicate n.toNat x.cps).foldl (· ++ ·) #[]⟩
def rRepS : R2 := fun x y H Q => ∃ i j, x = .str i ∧ y = .int j ∧ i.length ≤ 1000 ∧ -1000 ≤ j ∧ j ≤ 1000 ∧ Q (.str (repS i j)) H
theorem op_repS {X : Cx} : OpR X (binaryOp .Mult) rRepS := by
  intro pins s σ H x y v u Q I rx ry h
  obtain ⟨i, j, rfl, rfl, h1, h2, h3, q⟩ := h
  obtain ⟨t, rfl⟩ := rx
  obtain ⟨t', rfl⟩ := ry
  have hm : i.length * j.toNat ≤ 1000 * 1000 := Nat.mul_le_mul h1 (by omega)
  have hsl : (1000 * 1000 : Nat) ≤ sizeLine := by decide
  refine PySem.P.mul_str (by
      have e1 : decide (j < -(2 ^ 63 : Int)) = false := decide_eq_false (by omega)
      have e2 : decide (j ≥ 2 ^ 63) = false := decide_eq_false (by omega)
      rw [e1, e2]; rfl) (fun h4 _ => ?_) (fun h4 _ => ?_) ?_
  · have : (2 ^ 63 - 1) / j ≥ (2 ^ 63 - 1) / 1000 := by
      have hj : 0 < j := by omega
      rw [ge_iff_le, Int.le_ediv_iff_mul_le hj]
      have : (2 ^ 63 - 1) / 1000 * j ≤ (2 ^ 63 - 1) / 1000 * 1000 := Int.mul_le_mul_of_nonneg_left h3 (by decide)
      omega
    have : ((2 ^ 63 - 1 : Int)) / 1000 = 9223372036854775 := by decide
    omega
  · unfold Builtin.Str.tooLong
    first
      | exact decide_eq_false (by omega)
      | (simp; omega)
  · unfold repS at q
    split
    · rw [if_pos (by assumption)] at q
      exact ⟨by decide, .str _, H, I.tok _, ⟨_, rfl⟩, q⟩
    · rw [if_neg (by assumption)] at q
      split
      · rw [if_pos (by assumption)] at q
        exact ⟨.str _, H, I, ⟨_, rfl⟩, q⟩
      · rw [if_neg (by assumption)] at q
        refine ⟨?_, .str _, H, I.tok _, ⟨_, rfl⟩, q⟩
        have key : ∀ (n : Nat) (acc : Array Nat), (List.foldl (fun x1 x2 => x1 ++ x2) acc (List.replicate n i.cps)).size = acc.size + n * i.cps.size := by
          intro n
          induction n with
          | zero => intro acc; simp
          | succ n ih =>
            intro acc
            rw [List.replicate_succ, List.foldl_cons, ih, Array.size_append, Nat.succ_mul]
            omega
        show (List.foldl (fun x1 x2 => x1 ++ x2) #[] (List.replicate j.toNat i.cps)).size ≤ sizeLine
        rw [key, Nat.mul_comm]
        have hm : i.cps.size * j.toNat ≤ 1000 * 1000 := hm
        simp only [List.size_toArray, List.length_nil, Nat.zero_add]
        omega
def oMulA : Op2 := fun x y st => match x, y with
  | .int i, .int j => if CMul i j then some (.int (i * j), st) else none
  | .str i, .int j => if i.length ≤ 1000 ∧ -1000 ≤ j ∧ j ≤ 1000 then some (.str (repS i j), st) else none
  | _, _ => none
def rMulA : R2 := fun x y H Q => rI CMul (fun i j => .int (i * j)) x y H Q ∨ rRepS x y H Q
theorem op_mulA {X : Cx} : OpR X (binaryOp .Mult) rMulA := op_mul.or op_repS
theorem does_mulA : Does K rMulA oMulA := fun x y st d st' xv yv H μ Q rx ry S h q => by
  unfold oMulA at h
  split at h
  · split at h
    · rename_i hc
      cases h
      cases rx
      cases ry
      exact .inl ⟨_, _, rfl, rfl, hc, q _ H μ (Ext.refl _ _) S (.int _)⟩
    · cases h
  · split at h
    · rename_i hc
      cases h
      cases rx
      cases ry
      exact .inr ⟨_, _, rfl, rfl, hc.1, hc.2.1, hc.2.2, q _ H μ (Ext.refl _ _) S (.str _)⟩
    · cases h
  · cases h
/-! ### ord -/
def fOrd : BF := fun xs st => match xs with
  | [.str x] => if x.length = 1 then some (.int (x.cps.getD 0 0 : Nat), st) else none
  | _ => none
theorem does_ord : DoesN K (fun xs H Q => ∃ x, xs = [.str x] ∧ x.length = 1 ∧ Q (.int (x.cps.getD 0 0 : Nat)) H) fOrd := fun xs st d st' vs H μ Q r S h q => by
  unfold fOrd at h
  split at h
  · split at h
    · rename_i hx
      cases h
      obtain ⟨v, rfl, rv⟩ := rls1 r
      cases rv
      exact ⟨_, rfl, hx, q _ H μ (Ext.refl _ _) S (.int _)⟩
    · cases h
  · cases h
theorem FnOk.none {P : Program} {w : World} {mg : Str → Option Value} {base : Heap} {CX : CXT} {k n : Nat} {f : Addr} {fd : FuncData} {ps : List Str} : FnOk P w K mg base CX k f fd ps (spX K n fun _ _ => .no) :=
  ⟨fun vs H Q E h => by obtain ⟨_, _, _, _, _, _, h⟩ := h; exact h.elim, fun A outer s H args us vs Q E _ _ _ _ h => by obtain ⟨_, _, _, _, _, _, h⟩ := h; exact h.elim⟩
end Rg

set_option Elab.async false
set_option linter.all false
set_option maxRecDepth 100000
namespace Rg
open PySem PySem.Spec PyProof.Rows L2
/-- what is promised of the law's def -/
def spLaw (K : PySem.W.Frag) : Sp := fun vs H Q _ => ∃ (a : Addr) (ns : List Int), vs = [.ref a] ∧ CL K H a (ns.map V.int) ∧ ns.length ≤ 63 ∧ ∀ H', Q (.bl true) H'
theorem cl_only {K : PySem.W.Frag} {H : Hp} {a : Addr} {xs : List V} (o : Only H) (h : SqL K H a xs) : CL K H a xs := by
  rcases h with h | h
  · rcases h with h | ⟨u, h⟩
    · rcases o a with e | ⟨u, ys, e⟩
      · rw [e] at h; cases h
      · rw [e] at h; cases h
    · exact .inl ⟨u, h⟩
  · exact .inr h
theorem sp_law {K : PySem.W.Frag} {H : Hp} {a : Addr} {ns : List Int} (hl : ns.length ≤ 63) (o : Only H) (h : SqL K H a (ns.map V.int)) : spLaw K [.ref a] H (fun v _ => v = .bl true) fun _ _ _ => False :=
  ⟨a, ns, rfl, cl_only o h, hl, fun _ => rfl⟩
theorem law_ok {P : Program} {w : World} {K : PySem.W.Frag} {mg : Str → Option Value} {base : Heap} {CX : CXT} {k : Nat} {f : Addr} {fd : FuncData} {ps : List Str} {g : Fn} (F : FnOk P w K mg base CX k f fd ps (spX K 1 g))
    (h : ∀ ns : List Int, ns.length ≤ 63 → ∃ st, g [.cl (ns.map D.int)] [] = .ok (.bl true) st) : FnOk P w K mg base CX k f fd ps (spLaw K) :=
  F.imp fun vs H Q E ⟨a, ns, e, c, hl, q⟩ => by
    subst e
    obtain ⟨st, hg⟩ := h ns hl
    refine ⟨rfl, [.cl (ns.map D.int)], [], [], ⟨rfl, List.nodup_nil, fun n o z => by simp at z⟩, .cons (.cl c (Rls.ints ns)) .nil, ?_⟩
    rw [hg]
    intro H' μ' _ _ v r
    cases r
    exact q H'
theorem cx_no {P : Program} {w : World} {H : Hp} {s : Shared} {e : Value} {s' : Shared} (h : L2.CX P w [] H s (fun _ _ _ => False) e s') : False := by
  obtain ⟨_, _, _, _, _, _, _, _, _, _, _, _, z⟩ := h
  exact z
end Rg

set_option Elab.async false
set_option linter.all false
set_option maxRecDepth 100000
namespace Rg
open PySem PySem.Spec PyProof.Rows L2
/-! ### loops by invariants -/
theorem forF_inv {ok : Stt → Prop} {g : XG} {f : XS} {its : List D} (I : Nat → En → Stt → Prop) (hok : ∀ i ρ st, i ≤ its.length → I i ρ st → ok st)
    (step : ∀ i d ρ st, its[i]? = some d → I i ρ st → ∃ ρ1, g d ρ = some ρ1 ∧ ∃ ρ' st', (f ρ1 st = .nx ρ' st' ∨ f ρ1 st = .ct ρ' st') ∧ I (i + 1) ρ' st') {ρ : En} {st : Stt} (h0 : I 0 ρ st) :
    ∃ ρ' st', forF ok g f its ρ st = .nx ρ' st' ∧ I its.length ρ' st' := by
  have key : ∀ (n : Nat) (i : Nat) (ρ : En) (st : Stt), its.length - i = n → i ≤ its.length → I i ρ st → ∃ ρ' st', forF ok g f (its.drop i) ρ st = .nx ρ' st' ∧ I its.length ρ' st' := by
    intro n
    induction n with
    | zero =>
      intro i ρ st hn hi h
      have : i = its.length := by omega
      subst this
      rw [List.drop_length]
      unfold forF
      rw [if_pos (hok _ _ _ (Nat.le_refl _) h)]
      exact ⟨ρ, st, rfl, h⟩
    | succ n ih =>
      intro i ρ st hn hi h
      have hlt : i < its.length := by omega
      rw [List.drop_eq_getElem_cons hlt]
      unfold forF
      rw [if_pos (hok _ _ _ hi h)]
      obtain ⟨ρ1, h1, ρ', st', h2, h3⟩ := step i its[i] ρ st (List.getElem?_eq_getElem hlt) h
      rw [h1]
      obtain ⟨ρ2, st2, h4, h5⟩ := ih (i + 1) ρ' st' (by omega) hlt h3
      refine ⟨ρ2, st2, ?_, h5⟩
      rcases h2 with h2 | h2 <;> (simp only [h2]; exact h4)
  have := key its.length 0 ρ st (by omega) (Nat.zero_le _) h0
  rwa [List.drop_zero] at this
theorem compF_inv {L : Nat} {ok : Stt → Prop} {g : XG} {t : XT} {f : XE} {ρ : En} {its : List D} (I : Nat → Stt → List D → Prop) (hok : ∀ i st acc, i ≤ its.length → I i st acc → ok st)
    (step : ∀ i d st acc, its[i]? = some d → I i st acc → ∃ ρ1, g d ρ = some ρ1 ∧ ∃ b s1, t ρ1 st = .ok b s1 ∧ (b = false → I (i + 1) s1 acc) ∧
      (b = true → ∃ y s2, f ρ1 s1 = .ok y s2 ∧ lstAt s2 (.loc L) = some (L, acc) ∧ acc.length < sizeLine ∧ I (i + 1) (s2.set L (.lst (acc ++ [y]))) (acc ++ [y]))) {st : Stt} (h0 : I 0 st []) :
    ∃ st' acc, compF L ok g t f ρ its st = .ok () st' ∧ I its.length st' acc := by
  have key : ∀ (n : Nat) (i : Nat) (st : Stt) (acc : List D), its.length - i = n → i ≤ its.length → I i st acc → ∃ st' acc', compF L ok g t f ρ (its.drop i) st = .ok () st' ∧ I its.length st' acc' := by
    intro n
    induction n with
    | zero =>
      intro i st acc hn hi h
      have : i = its.length := by omega
      subst this
      rw [List.drop_length]
      unfold compF
      rw [if_pos (hok _ _ _ (Nat.le_refl _) h)]
      exact ⟨st, acc, rfl, h⟩
    | succ n ih =>
      intro i st acc hn hi h
      have hlt : i < its.length := by omega
      rw [List.drop_eq_getElem_cons hlt]
      unfold compF
      rw [if_pos (hok _ _ _ hi h)]
      obtain ⟨ρ1, h1, b, s1, h2, hf, ht⟩ := step i its[i] st acc (List.getElem?_eq_getElem hlt) h
      simp only [h1, h2]
      cases b with
      | false => exact ih (i + 1) s1 acc (by omega) hlt (hf rfl)
      | true =>
        obtain ⟨y, s2, h3, h4, h5, h6⟩ := ht rfl
        simp only [h3, h4, if_pos h5]
        exact ih (i + 1) _ _ (by omega) hlt h6
  have := key its.length 0 st [] (by omega) (Nat.zero_le _) h0
  rwa [List.drop_zero] at this
end Rg

set_option Elab.async false
set_option linter.all false
set_option maxRecDepth 100000
namespace Rg
open PySem PySem.Spec PyProof.Rows L2
/-! ### running, by simp -/
@[simp] theorem x2_run (f : Op2) (fa fb : XE) (ρ : En) (st : Stt) : x2 f fa fb ρ st = (fa ρ st).bind fun x s1 => (fb ρ s1).bind fun y s2 => R.of (f x y s2) := (rfl)
@[simp] theorem x1_run (f : Op1) (fa : XE) (ρ : En) (st : Stt) : x1 f fa ρ st = (fa ρ st).bind fun x s1 => R.of (f x s1) := (rfl)
@[simp] theorem xB_run (f : XE) (ρ : En) (st : Stt) : xB f ρ st = (f ρ st).bind isB := (rfl)
@[simp] theorem xTr_run (f : XE) (ρ : En) (st : Stt) : xTr f ρ st = (f ρ st).bind isT := (rfl)
@[simp] theorem xNot_run (f : XT) (ρ : En) (st : Stt) : xNot f ρ st = (f ρ st).bind fun b s => .ok (!b) s := (rfl)
@[simp] theorem xNotV_run (f : XE) (ρ : En) (st : Stt) : xNotV f ρ st = (f ρ st).bind fun d s => (isT d s).bind fun b s => .ok (.bl !b) s := (rfl)
@[simp] theorem xAnd_run (f g : XT) (ρ : En) (st : Stt) : xAnd f g ρ st = (f ρ st).bind fun b s => if b = true then g ρ s else .ok false s := (rfl)
@[simp] theorem xOr_run (f g : XT) (ρ : En) (st : Stt) : xOr f g ρ st = (f ρ st).bind fun b s => if b = true then .ok true s else g ρ s := (rfl)
@[simp] theorem xAndV_run (f g : XE) (ρ : En) (st : Stt) : xAndV f g ρ st = (f ρ st).bind fun d s => (isT d s).bind fun b s => if b = true then g ρ s else .ok d s := (rfl)
@[simp] theorem xOrV_run (f g : XE) (ρ : En) (st : Stt) : xOrV f g ρ st = (f ρ st).bind fun d s => (isT d s).bind fun b s => if b = true then .ok d s else g ρ s := (rfl)
@[simp] theorem xIte_run (t : XT) (f g : XE) (ρ : En) (st : Stt) : xIte t f g ρ st = (t ρ st).bind fun b s => if b = true then f ρ s else g ρ s := (rfl)
@[simp] theorem xCh_run (f f' : Op2) (fa fb fc : XE) (ρ : En) (st : Stt) : xCh f f' fa fb fc ρ st = (fa ρ st).bind fun x s1 => (fb ρ s1).bind fun y s2 => (R.of (f x y s2)).bind fun z s3 => (isB z s3).bind fun k s4 => if k = true then (fc ρ s4).bind fun w s5 => R.of (f' y w s5) else .ok (.bl false) s4 := (rfl)
@[simp] theorem xNil_run (ρ : En) (st : Stt) : xNil ρ st = .ok [] st := (rfl)
@[simp] theorem xCons_run (f : XE) (g : XA) (ρ : En) (st : Stt) : xCons f g ρ st = (f ρ st).bind fun d s => (g ρ s).bind fun ds s => .ok (d :: ds) s := (rfl)
@[simp] theorem xTup_run (g : XA) (ρ : En) (st : Stt) : xTup g ρ st = (g ρ st).bind mkTup := (rfl)
@[simp] theorem xLst_run (g : XA) (ρ : En) (st : Stt) : xLst g ρ st = (g ρ st).bind mkLst := (rfl)
@[simp] theorem xDict0_run (ρ : En) (st : Stt) : xDict0 ρ st = .ok (.loc st.length) (st ++ [.dct []]) := (rfl)
@[simp] theorem xDispC_run (kvs : List (Key × D)) (ρ : En) (st : Stt) : xDispC kvs ρ st = .ok (.loc st.length) (st ++ [.dct (mergeD kvs)]) := (rfl)
@[simp] theorem xCall_run (f : BF) (g : XA) (ρ : En) (st : Stt) : xCall f g ρ st = (g ρ st).bind fun ds s => R.of (f ds s) := (rfl)
@[simp] theorem xFn_run (g : Fn) (ga : XA) (ρ : En) (st : Stt) : xFn g ga ρ st = (ga ρ st).bind g := (rfl)
@[simp] theorem xMt_run (t : Stt → D → Bool) (f : MtF) (fo : XE) (g : XA) (ρ : En) (st : Stt) : xMt t f fo g ρ st = (fo ρ st).bind fun d s => (isRc t d s).bind fun _ s => (g ρ s).bind fun ds s => R.of (f d ds s) := (rfl)
@[simp] theorem xMeth_run (C : Addr) (m : Str) (g : Fn) (fo : XE) (ga : XA) (ρ : En) (st : Stt) : xMeth C m g fo ga ρ st = (fo ρ st).bind fun d s => (hasM C m d s).bind fun _ s => (ga ρ s).bind fun ds s => g (d :: ds) s := (rfl)
@[simp] theorem xMake_run (C : Addr) (g : Fn) (ga : XA) (ρ : En) (st : Stt) : xMake C g ga ρ st = (ga ρ st).bind (mkIns C g) := (rfl)
@[simp] theorem xSl_run (g : D → Option Int → Option Int → Stt → Option (D × Stt)) (fa : XE) (lo hi : XO) (ρ : En) (st : Stt) : xSl g fa lo hi ρ st = (fa ρ st).bind fun p s => (lo ρ s).bind fun l s => (hi ρ s).bind fun u s => R.of (g p l u s) := (rfl)
@[simp] theorem xON_run (ρ : En) (st : Stt) : xON ρ st = .ok none st := (rfl)
@[simp] theorem xOS_run (f : XE) (ρ : En) (st : Stt) : xOS f ρ st = (f ρ st).bind fun d s => (isI d s).bind fun i s => .ok (some i) s := (rfl)
@[simp] theorem xYes_run (ρ : En) (st : Stt) : xYes ρ st = .ok true st := (rfl)
@[simp] theorem xIt_run (f : XE) (ρ : En) (st : Stt) : xIt f ρ st = (f ρ st).bind wkOf := (rfl)
@[simp] theorem xRange_run (g : XA) (ρ : En) (st : Stt) : xRange g ρ st = (g ρ st).bind wkRange := (rfl)
@[simp] theorem xRange2_run (g : XA) (ρ : En) (st : Stt) : xRange2 g ρ st = (g ρ st).bind wkRange2 := (rfl)
@[simp] theorem xLc_run (w : XI) (g : XG) (t : XT) (f : XE) (vs : List Nat) (ρ : En) (st : Stt) : xLc w g t f vs ρ st = (w ρ st).bind fun k s => (compF s.length k.ok g t f (wipeD ρ vs) k.its (s ++ [.lst []])).bind fun _ s' => .ok (.loc s.length) s' := (rfl)
@[simp] theorem gN_run (i : Nat) (d : D) (ρ : En) : gN i d ρ = some (ρ.set i (some d)) := (rfl)
/-! statements -/
@[simp] theorem sNil_run (ρ : En) (st : Stt) : sNil ρ st = .nx ρ st := (rfl)
@[simp] theorem sCons_run (f g : XS) (ρ : En) (st : Stt) : sCons f g ρ st = (f ρ st).seq g := (rfl)
@[simp] theorem sSet_run (i : Nat) (f : XE) (ρ : En) (st : Stt) : sSet i f ρ st = (f ρ st).out ρ fun d s => .nx (ρ.set i (some d)) s := (rfl)
@[simp] theorem sAsg_run (f : XE) (g : XG) (ρ : En) (st : Stt) : sAsg f g ρ st = (f ρ st).out ρ (gOut g ρ) := (rfl)
@[simp] theorem sExpr_run (f : XE) (ρ : En) (st : Stt) : sExpr f ρ st = (f ρ st).out ρ fun _ s => .nx ρ s := (rfl)
@[simp] theorem sRet_run (f : XE) (ρ : En) (st : Stt) : sRet f ρ st = (f ρ st).out ρ fun d s => .rt d s := (rfl)
@[simp] theorem sIf_run (t : XT) (f g : XS) (ρ : En) (st : Stt) : sIf t f g ρ st = (t ρ st).out ρ fun b s => if b = true then f ρ s else g ρ s := (rfl)
@[simp] theorem sSubL_run (fo fi fv : XE) (ρ : En) (st : Stt) : sSubL fo fi fv ρ st = (fv ρ st).out ρ fun v s => (fo ρ s).out ρ fun o s => (fi ρ s).out ρ fun i s => setL o i v ρ s := (rfl)
@[simp] theorem sPut_run (fo fi fv : XE) (ρ : En) (st : Stt) : sPut fo fi fv ρ st = (fv ρ st).out ρ fun v s => (fo ρ s).out ρ fun o s => (fi ρ s).out ρ fun i s => setDk o i v ρ s := (rfl)
@[simp] theorem sAug_run (i : Nat) (f : Op2) (fe : XE) (ρ : En) (st : Stt) : sAug i f fe ρ st = (xV i ρ st).out ρ fun x s => (fe ρ s).out ρ fun y s => (R.of (f x y s)).out ρ fun z s => .nx (ρ.set i (some z)) s := (rfl)
@[simp] theorem sAugL_run (fop : Op2) (fo fi fe : XE) (ρ : En) (st : Stt) : sAugL fop fo fi fe ρ st = (fo ρ st).out ρ fun o s => (fi ρ s).out ρ fun i s => (R.of (oIxL o i s)).out ρ fun x s => (fe ρ s).out ρ fun y s => (R.of (fop x y s)).out ρ fun z s => setL o i z ρ s := (rfl)
@[simp] theorem sFldX_run (C : Addr) (f : Str) (fo fv : XE) (ρ : En) (st : Stt) : sFldX C f fo fv ρ st = (fv ρ st).out ρ fun v s => (fo ρ s).out ρ fun o s => setF C f o v ρ s := (rfl)
@[simp] theorem sFor_run (w : XI) (g : XG) (f : XS) (ρ : En) (st : Stt) : sFor w g f ρ st = (w ρ st).out ρ fun k s => forF k.ok g f k.its ρ s := (rfl)
@[simp] theorem ret_rt (d : D) (st : Stt) : (Out.rt d st).ret = .ok d st := (rfl)
@[simp] theorem ret_nx (ρ : En) (st : Stt) : (Out.nx ρ st).ret = .ok .non st := (rfl)
@[simp] theorem ret_xx (ρ : En) (e : Exn) (st : Stt) : (Out.xx ρ e st).ret = .ex e st := (rfl)
@[simp] theorem ret_ite (c : Prop) [Decidable c] (a b : Out) : (if c then a else b).ret = if c then a.ret else b.ret := by split <;> rfl
@[simp] theorem seq_ite (c : Prop) [Decidable c] (a b : Out) (g : XS) : (if c then a else b).seq g = if c then a.seq g else b.seq g := by split <;> rfl
@[simp] theorem out_ite {α : Type} (c : Prop) [Decidable c] (a b : R α) (ρ : En) (k : α → Stt → Out) : (if c then a else b).out ρ k = if c then a.out ρ k else b.out ρ k := by split <;> rfl
@[simp] theorem bind_ite {α β : Type} (c : Prop) [Decidable c] (a b : R α) (f : α → Stt → R β) : (if c then a else b).bind f = if c then a.bind f else b.bind f := by split <;> rfl
theorem xV_some {i : Nat} {ρ : En} {d : D} (st : Stt) (h : ρ[i]? = some (some d)) : xV i ρ st = .ok d st := by unfold xV; rw [h]
@[simp] theorem xV_0 (d : D) (ρ : En) (st : Stt) : xV 0 (some d :: ρ) st = .ok d st := (rfl)
@[simp] theorem xV_s (i : Nat) (o : Option D) (ρ : En) (st : Stt) : xV (i + 1) (o :: ρ) st = xV i ρ st := by unfold xV; simp
@[simp] theorem xV_1 (o : Option D) (d : D) (ρ : En) (st : Stt) : xV 1 (o :: some d :: ρ) st = .ok d st := (rfl)
@[simp] theorem xV_2 (a b : Option D) (d : D) (ρ : En) (st : Stt) : xV 2 (a :: b :: some d :: ρ) st = .ok d st := (rfl)
@[simp] theorem xV_3 (a b c : Option D) (d : D) (ρ : En) (st : Stt) : xV 3 (a :: b :: c :: some d :: ρ) st = .ok d st := (rfl)
@[simp] theorem xV_4 (a b c e : Option D) (d : D) (ρ : En) (st : Stt) : xV 4 (a :: b :: c :: e :: some d :: ρ) st = .ok d st := (rfl)
@[simp] theorem xV_5 (a b c e f : Option D) (d : D) (ρ : En) (st : Stt) : xV 5 (a :: b :: c :: e :: f :: some d :: ρ) st = .ok d st := (rfl)
@[simp] theorem xV_6 (a b c e f g : Option D) (d : D) (ρ : En) (st : Stt) : xV 6 (a :: b :: c :: e :: f :: g :: some d :: ρ) st = .ok d st := (rfl)
@[simp] theorem xV_7 (a b c e f g h : Option D) (d : D) (ρ : En) (st : Stt) : xV 7 (a :: b :: c :: e :: f :: g :: h :: some d :: ρ) st = .ok d st := (rfl)
@[simp] theorem xV_8 (a b c e f g h k : Option D) (d : D) (ρ : En) (st : Stt) : xV 8 (a :: b :: c :: e :: f :: g :: h :: k :: some d :: ρ) st = .ok d st := (rfl)
/-! operations -/
@[simp] theorem oAdd_i (i j : Int) (st : Stt) : oAdd (.int i) (.int j) st = some (.int (i + j), st) := (rfl)
@[simp] theorem oSub_i (i j : Int) (st : Stt) : oSub (.int i) (.int j) st = some (.int (i - j), st) := (rfl)
@[simp] theorem oLt_i (i j : Int) (st : Stt) : oLt (.int i) (.int j) st = some (.bl (decide (i < j)), st) := (rfl)
@[simp] theorem oLe_i (i j : Int) (st : Stt) : oLe (.int i) (.int j) st = some (.bl (decide (i ≤ j)), st) := (rfl)
@[simp] theorem oGt_i (i j : Int) (st : Stt) : oGt (.int i) (.int j) st = some (.bl (decide (j < i)), st) := (rfl)
@[simp] theorem oGe_i (i j : Int) (st : Stt) : oGe (.int i) (.int j) st = some (.bl (decide (j ≤ i)), st) := (rfl)
theorem oMod_i {i j : Int} (h : 0 < j) (st : Stt) : oMod (.int i) (.int j) st = some (.int (i % j), st) := if_pos h
theorem oDiv_i {i j : Int} (h : 0 < j) (h2 : j < 1073741824) (st : Stt) : oDiv (.int i) (.int j) st = some (.int (i / j), st) := if_pos ⟨h, h2⟩
theorem oMulA_r {i j : Int} (h : -(2 ^ 64) < j ∧ j < 2 ^ 64) (st : Stt) : oMulA (.int i) (.int j) st = some (.int (i * j), st) := if_pos (.inr h)
theorem oMulA_l {i j : Int} (h : -(2 ^ 64) < i ∧ i < 2 ^ 64) (st : Stt) : oMulA (.int i) (.int j) st = some (.int (i * j), st) := if_pos (.inl h)
@[simp] theorem oEq_i (i j : Int) (st : Stt) : oEq (.int i) (.int j) st = some (.bl (decide (i = j)), st) := by
  show (some (D.bl (i == j), st)) = _
  rw [Bool.beq_eq_decide_eq]
@[simp] theorem oNe_i (i j : Int) (st : Stt) : oNe (.int i) (.int j) st = some (.bl (!decide (i = j)), st) := by
  show (some (D.bl (!(i == j)), st)) = _
  rw [Bool.beq_eq_decide_eq]
theorem toD_str {x : Str} (h : PyData.strOk x = true) (n : Nat) (st : Stt) : toD st (n + 1) (.str x) = some (.str x) := if_pos h
theorem oEq_s {x y : Str} (hx : PyData.strOk x = true) (hy : PyData.strOk y = true) (st : Stt) : oEq (.str x) (.str y) st = some (.bl (decide (x = y)), st) := by
  unfold oEq deq
  rw [toD_str hx, toD_str hy]
  show (some (D.bl (x == y), st)) = _
  rw [Bool.beq_eq_decide_eq]
theorem oNe_s {x y : Str} (hx : PyData.strOk x = true) (hy : PyData.strOk y = true) (st : Stt) : oNe (.str x) (.str y) st = some (.bl (!decide (x = y)), st) := by
  unfold oNe deq
  rw [toD_str hx, toD_str hy]
  show (some (D.bl (!(x == y)), st)) = _
  rw [Bool.beq_eq_decide_eq]
@[simp] theorem fInt_i (i : Int) (st : Stt) : fInt [.int i] st = some (.int i, st) := (rfl)
@[simp] theorem fInt_b (k : Bool) (st : Stt) : fInt [.bl k] st = some (.int (if k then 1 else 0), st) := (rfl)
@[simp] theorem fAbs_i (i : Int) (st : Stt) : fAbs [.int i] st = some (.int (if i < 0 then -i else i), st) := (rfl)
@[simp] theorem items_tup (st : Stt) (ds : List D) : items st (.tup ds) = some ds := (rfl)
@[simp] theorem items_cl (st : Stt) (ds : List D) : items st (.cl ds) = some ds := (rfl)
theorem items_loc {st : Stt} {n : Nat} {ds : List D} (h : st[n]? = some (.lst ds)) : items st (.loc n) = some ds := by show (match st[n]? with | some (.lst ds) => some ds | _ => none) = _; rw [h]
theorem lstAt_loc {st : Stt} {n : Nat} {ds : List D} (h : st[n]? = some (.lst ds)) : lstAt st (.loc n) = some (n, ds) := by show (match st[n]? with | some (.lst ds) => some (n, ds) | _ => none) = _; rw [h]
theorem dctAt_loc {st : Stt} {n : Nat} {ds : List (Key × D)} (h : st[n]? = some (.dct ds)) : dctAt st (.loc n) = some (n, ds) := by show (match st[n]? with | some (.dct ds) => some (n, ds) | _ => none) = _; rw [h]
theorem insAt_loc {st : Stt} {n : Nat} {C : Addr} {fs : List (Str × D)} (h : st[n]? = some (.ins C fs)) : insAt C st (.loc n) = some (n, fs) := by
  show (match st[n]? with | some (.ins C' fs) => if C' = C then some (n, fs) else none | _ => none) = _
  rw [h]
  exact if_pos rfl
theorem fLen_of {st : Stt} {d : D} {ds : List D} (h : items st d = some ds) : fLen [d] st = some (.int ds.length, st) := by
  cases d with
  | str x => cases h
  | non => cases h
  | bl _ => cases h
  | int _ => cases h
  | tup _ => cases h; rfl
  | cl _ => cases h; rfl
  | loc _ => show (items st _).map _ = _; rw [h]; rfl
theorem fLen_s {x : Str} (h : x.length ≤ sizeLine) (st : Stt) : fLen [.str x] st = some (.int x.length, st) := if_pos h
theorem atI_of {α : Type} {xs : List α} {i : Int} {x : α} (h0 : 0 ≤ i) (h : xs[i.toNat]? = some x) : atI xs i = some x := by
  have hl : i.toNat < xs.length := (List.getElem?_eq_some_iff.mp h).1
  unfold atI ixN
  rw [if_pos h0, if_pos (by omega)]
  exact h
theorem atI_lit {α : Type} {xs : List α} {n : Nat} {x : α} (h : xs[n]? = some x) : atI xs (n : Int) = some x := atI_of (Int.natCast_nonneg n) (by simpa using h)
theorem oIx_of {st : Stt} {d x : D} {ds : List D} {i : Int} (h : items st d = some ds) (hx : atI ds i = some x) : oIx d (.int i) st = some (x, st) := by
  cases d with
  | str x => cases h
  | non => cases h
  | bl _ => cases h
  | int _ => cases h
  | tup _ => cases h; show (some _).bind _ = _; simp [hx]
  | cl _ => cases h; show (some _).bind _ = _; simp [hx]
  | loc _ => show (items st _).bind _ = _; rw [h]; simp [hx]
theorem setL_of {st : Stt} {o : D} {n : Nat} {ds : List D} {k : Int} {j : Nat} (h : lstAt st o = some (n, ds)) (hj : ixN ds.length k = some j) (v : D) (ρ : En) : setL o (.int k) v ρ st = .nx ρ (st.set n (.lst (ds.set j v))) := by
  unfold setL
  rw [h]
  simp only [hj]
theorem mkLst_of {ds : List D} (h : ds.length ≤ sizeLine) (st : Stt) : mkLst ds st = .ok (.loc st.length) (st ++ [.lst ds]) := if_pos h
theorem mkTup_of {ds : List D} (h : ds.length ≤ sizeLine) (st : Stt) : mkTup ds st = .ok (.tup ds) st := if_pos h
/-! texts by their codes -/
def okL (l : List Nat) : Bool := l.all (· < 0x110000)
theorem strOk_l (l : List Nat) : PyData.strOk ⟨l.toArray⟩ = okL l := by
  unfold PyData.strOk okL
  simp
@[simp] theorem oEq_l (x y : List Nat) (st : Stt) : oEq (.str ⟨x.toArray⟩) (.str ⟨y.toArray⟩) st = if okL x = true ∧ okL y = true then some (.bl (decide (x = y)), st) else none := by
  by_cases h : okL x = true
  · by_cases h2 : okL y = true
    · rw [if_pos ⟨h, h2⟩, oEq_s (by rw [strOk_l]; exact h) (by rw [strOk_l]; exact h2)]
      simp
    · rw [if_neg fun z => h2 z.2]
      unfold oEq deq
      have : toD st 60 (.str ⟨y.toArray⟩) = none := if_neg (by rw [strOk_l]; exact h2)
      rw [this]
      simp
  · rw [if_neg fun z => h z.1]
    unfold oEq deq
    have : toD st 60 (.str ⟨x.toArray⟩) = none := if_neg (by rw [strOk_l]; exact h)
    rw [this]
    rfl
@[simp] theorem oNe_l (x y : List Nat) (st : Stt) : oNe (.str ⟨x.toArray⟩) (.str ⟨y.toArray⟩) st = if okL x = true ∧ okL y = true then some (.bl (!decide (x = y)), st) else none := by
  have := oEq_l x y st
  unfold oEq at this
  unfold oNe
  cases h : deq st (.str ⟨x.toArray⟩) (.str ⟨y.toArray⟩) with
  | none => rw [h] at this; split at this <;> simp_all
  | some b =>
    rw [h] at this
    split at this
    · rename_i hc
      rw [if_pos hc]
      simp at this
      simp [this]
    · cases this
@[simp] theorem okL_nil : okL [] = true := (rfl)
@[simp] theorem okL_cons (a : Nat) (l : List Nat) : okL (a :: l) = (decide (a < 1114112) && okL l) := by simp [okL]
end Rg

set_option Elab.async false
set_option linter.all false
set_option maxRecDepth 100000
namespace Rg
open PySem PySem.Spec PyProof.Rows L2
variable {K : PySem.W.Frag}
/-! ### xs[::-1] -/
def litems (st : Stt) : D → Option (List D)
  | .tup _ => none
  | d => items st d
theorem litems_seq {H : Hp} {μ : List Addr} {st : Stt} {d : D} {ds : List D} {v : V} (S : SR K H μ st) (h : litems st d = some ds) (r : Rl K H μ d v) : ∃ a vs, v = .ref a ∧ SqL K H a vs ∧ Rls K H μ ds vs := by
  cases d with
  | tup _ => cases h
  | cl es => cases h; exact seqC r
  | loc n => exact S.seqL h r
  | non => cases h
  | bl _ => cases h
  | int _ => cases h
  | str _ => cases h
theorem litems_of {st : Stt} {d : D} {ds : List D} (h : litems st d = some ds) : items st d = some ds := by
  cases d <;> first | cases h; done | exact h
@[simp] theorem litems_cl (st : Stt) (ds : List D) : litems st (.cl ds) = some ds := (rfl)
theorem litems_loc {st : Stt} {n : Nat} {ds : List D} (h : st[n]? = some (.lst ds)) : litems st (.loc n) = some ds := by
  show (match st[n]? with | some (.lst ds) => some ds | _ => none) = _
  rw [h]
def oRev : Op1 := fun d st => (litems st d).map fun ds => (.loc st.length, st ++ [.lst ds.reverse])
section
variable {X : Cx} {a b c e : Expr} {es : List Expr} {fa fb fc : XE} {pos : Pos} {W : WX}
theorem e_revL {k : Nat} {p1 p2 p3 : Pos} (he : PE X e (tX X.K W fa)) : PE X (.Subscript e (.Slice none none (some (.UnaryOp .USub (.Constant (.int 1) k p1) p2)) p3) pos) (tX X.K W (x1 oRev fa)) :=
  pe_imp (pe_revL he) fun σ H Q ⟨ρ, st, μ, E, S, h⟩ => by
    refine tX_of E S h.bind fun x s1 H1 μ1 xv e1 E1 S1 r1 h1 => ?_
    obtain ⟨d, s3, h3, k⟩ := h1.of
    obtain ⟨ds, h4, h3⟩ := Option.map_eq_some_iff.mp h3
    cases h3
    obtain ⟨l, vs, rfl, hq, q⟩ := litems_seq S1 h4 r1
    exact ⟨l, vs, rfl, hq, fun p hp => k _ _ (ext_new hp _) (S1.newL hp q.reverse) _ (loc_new S1)⟩
/-! ### tuple(range(..)) -/
def rgD (i j : Int) : List D := (List.range (j - i).toNat).map fun k => .int (i + (k : Nat))
theorem rgD_ok {H : Hp} {μ : List Addr} (i j : Int) : Rls K H μ (rgD i j) (rgV i j) := by
  unfold rgD rgV
  generalize List.range (j - i).toNat = l
  induction l with
  | nil => exact .nil
  | cons k l ih => exact .cons (.int _) ih
def rgOld (i j : Int) : Prop := -(2 ^ 62) ≤ i ∧ i < 2 ^ 62 ∧ -(2 ^ 62) ≤ j ∧ j < 2 ^ 62 ∧ (j - i).toNat ≤ 2 ^ 24
/-- (by natural numbers: the kernel then compares no great ints) -/
def rgB : Int → Int → Bool
  | .ofNat m, .ofNat n => Nat.ble m 1000000 && Nat.ble n 1000000
  | _, _ => false
def rgOk (i j : Int) : Prop := rgB i j = true
instance (i j : Int) : Decidable (rgOk i j) := inferInstanceAs (Decidable (_ = true))
theorem rgOk_of {i j : Int} (h0 : 0 ≤ i) (h1 : i ≤ 1000000) (h2 : 0 ≤ j) (h3 : j ≤ 1000000) : rgOk i j := by
  obtain ⟨m, rfl⟩ := Int.eq_ofNat_of_zero_le h0
  obtain ⟨n, rfl⟩ := Int.eq_ofNat_of_zero_le h2
  show (Nat.ble m 1000000 && Nat.ble n 1000000) = true
  rw [Bool.and_eq_true, Nat.ble_eq, Nat.ble_eq]
  omega
theorem rgOk.old {i j : Int} (h : rgOk i j) : rgOld i j := by
  cases i with
  | negSucc m => cases j <;> cases h
  | ofNat m =>
    cases j with
    | negSucc n => cases h
    | ofNat n =>
      have h : (Nat.ble m 1000000 && Nat.ble n 1000000) = true := h
      rw [Bool.and_eq_true, Nat.ble_eq, Nat.ble_eq] at h
      show -(2 ^ 62) ≤ (m : Int) ∧ (m : Int) < 2 ^ 62 ∧ -(2 ^ 62) ≤ (n : Int) ∧ (n : Int) < 2 ^ 62 ∧ ((n : Int) - m).toNat ≤ 2 ^ 24
      refine ⟨?_, ?_, ?_, ?_, ?_⟩ <;> omega
def mkRgT (x y : D) (st : Stt) : R D := match x, y with
  | .int i, .int j => if rgOk i j then .ok (.tup (rgD i j)) st else .no
  | _, _ => .no
def mkRgL (x y : D) (st : Stt) : R D := match x, y with
  | .int i, .int j => if rgOk i j then .ok (.loc st.length) (st ++ [.lst (rgD i j)]) else .no
  | _, _ => .no
def xTupRg (fa fb : XE) : XE := fun ρ st => (fa ρ st).bind fun x s => (fb ρ s).bind fun y s => mkRgT x y s
def xLstRg (fa fb : XE) : XE := fun ρ st => (fa ρ st).bind fun x s => (fb ρ s).bind fun y s => mkRgL x y s
theorem rg_int {g : Int → Int → Stt → R D} {Wd : Exn → Hp → List Addr → Prop} {H : Hp} {μ : List Addr} {st : Stt} {Q : D → Stt → Hp → List Addr → Prop} {x y : D} {f : D → D → Stt → R D}
    (hf : ∀ x y st, f x y st = match x, y with | .int i, .int j => if rgOk i j then g i j st else .no | _, _ => .no) {xv yv : V} (rx : Rl K H μ x xv) (ry : Rl K H μ y yv) (h : RO K Wd H μ Q (f x y st)) :
    ∃ i j, xv = .int i ∧ yv = .int j ∧ rgOld i j ∧ RO K Wd H μ Q (g i j st) := by
  rw [hf] at h
  split at h
  · rename_i i j
    split at h
    · rename_i hk
      cases rx
      cases ry
      exact ⟨i, j, rfl, rfl, hk.old, h⟩
    · exact h.elim
  · exact h.elim
section
variable {p p2 q : Pos}
theorem e_tupRg1 (hm : X.mg "tuple" = none) (hm2 : X.mg "range" = none) (hc : X.calm = true) (hb : PE X b (tX X.K W fb)) (hg : Gl X "tuple" := by rfl) (hg2 : Gl X "range" := by rfl)
    (nb : starEach [b] X.env = (false, eval b X.env) :: starEach [] X.env := by rfl) (nc : starEach [.Call (.Name "range" p2) [b] [] q] X.env = (false, eval (.Call (.Name "range" p2) [b] [] q) X.env) :: starEach [] X.env := by rfl) :
    PE X (.Call (.Name "tuple" p) [.Call (.Name "range" p2) [b] [] q] [] pos) (tX X.K W (xTupRg (xC (.int 0)) fb)) :=
  pe_imp (pe_tupRg hc hg hm (prg_1 hg2 hm2 hb nb) nc) fun σ H Q ⟨ρ, st, μ, E, S, h⟩ => by
    have h : RO X.K (wx X.K W σ) H μ (QD X.K Q) ((fb ρ st).bind fun y s => mkRgT (.int 0) y s) := h
    refine tX_of E S h.bind fun y s2 H2 μ2 yv e2 E2 S2 r2 h2 => ?_
    obtain ⟨i, j, ei, rfl, hk, h3⟩ := rg_int (g := fun i j st => .ok (.tup (rgD i j)) st) (fun x y st => by unfold mkRgT; rfl) (.int 0) r2 h2
    cases ei
    exact ⟨j, rfl, hk, fun l hl => h3 _ μ2 (ext_tup hl _) (S2.tup hl _) _ (.tup (.inl (.inl upd_same)) (rgD_ok _ _))⟩
theorem e_tupRg2 (hm : X.mg "tuple" = none) (hm2 : X.mg "range" = none) (hc : X.calm = true) (ha : PE X a (tX X.K W fa)) (hb : PE X b (tX X.K W fb)) (hg : Gl X "tuple" := by rfl) (hg2 : Gl X "range" := by rfl)
    (na : starEach [a, b] X.env = (false, eval a X.env) :: starEach [b] X.env := by rfl) (nb : starEach [b] X.env = (false, eval b X.env) :: starEach [] X.env := by rfl)
    (hp : (backTo q (starEach [b] X.env)).any (·.1) = false := by rfl) (nc : starEach [.Call (.Name "range" p2) [a, b] [] q] X.env = (false, eval (.Call (.Name "range" p2) [a, b] [] q) X.env) :: starEach [] X.env := by rfl) :
    PE X (.Call (.Name "tuple" p) [.Call (.Name "range" p2) [a, b] [] q] [] pos) (tX X.K W (xTupRg fa fb)) :=
  pe_imp (pe_tupRg hc hg hm (prg_2 hg2 hm2 ha hb na nb hp) nc) fun σ H Q ⟨ρ, st, μ, E, S, h⟩ => by
    refine tX_of E S h.bind fun x s1 H1 μ1 xv e1 E1 S1 r1 h1 => ?_
    refine tX_of E1 S1 h1.bind fun y s2 H2 μ2 yv e2 E2 S2 r2 h2 => ?_
    obtain ⟨i, j, rfl, rfl, hk, h3⟩ := rg_int (g := fun i j st => .ok (.tup (rgD i j)) st) (fun x y st => by unfold mkRgT; rfl) (r1.ext e2) r2 h2
    exact ⟨i, j, rfl, rfl, hk, fun l hl => h3 _ μ2 (ext_tup hl _) (S2.tup hl _) _ (.tup (.inl (.inl upd_same)) (rgD_ok _ _))⟩
theorem e_lstRg1 (hm : X.mg "list" = none) (hm2 : X.mg "range" = none) (hc : X.calm = true) (hb : PE X b (tX X.K W fb)) (hg : Gl X "list" := by rfl) (hg2 : Gl X "range" := by rfl)
    (nb : starEach [b] X.env = (false, eval b X.env) :: starEach [] X.env := by rfl) (nc : starEach [.Call (.Name "range" p2) [b] [] q] X.env = (false, eval (.Call (.Name "range" p2) [b] [] q) X.env) :: starEach [] X.env := by rfl) :
    PE X (.Call (.Name "list" p) [.Call (.Name "range" p2) [b] [] q] [] pos) (tX X.K W (xLstRg (xC (.int 0)) fb)) :=
  pe_imp (pe_listRg hc hg hm (prg_1 hg2 hm2 hb nb) nc) fun σ H Q ⟨ρ, st, μ, E, S, h⟩ => by
    have h : RO X.K (wx X.K W σ) H μ (QD X.K Q) ((fb ρ st).bind fun y s => mkRgL (.int 0) y s) := h
    refine tX_of E S h.bind fun y s2 H2 μ2 yv e2 E2 S2 r2 h2 => ?_
    obtain ⟨i, j, ei, rfl, hk, h3⟩ := rg_int (g := fun i j st => .ok (.loc st.length) (st ++ [.lst (rgD i j)])) (fun x y st => by unfold mkRgL; rfl) (.int 0) r2 h2
    cases ei
    exact ⟨j, rfl, hk, fun l hl => h3 _ _ (ext_new hl _) (S2.newL hl (rgD_ok _ _)) _ (loc_new S2)⟩
end
/-! ### dicts of the module, keys are texts -/
def wget (kvs : List (Str × D)) (z : Str) : Option D := (kvs.find? fun p => p.1 == z).map (·.2)
inductive WE (K : PySem.W.Frag) (w : World) : List (Str × D) → List DictEntry → Prop
  | nil : WE K w [] []
  | cons {x : Str} {t : Tok} {h : Int} {u : Value} {d : D} {kvs : List (Str × D)} {es : List DictEntry} : h = PyData.keyHash w.params x → WT K d u → WE K w kvs es → WE K w ((x, d) :: kvs) (⟨h, .str x t, u⟩ :: es)
structure WD (K : PySem.W.Frag) (w : World) (p : Addr) (kvs : List (Str × D)) : Prop where
  at_ : ∃ es n, K.lookup p = some ⟨.type "dict", none, .dict es n, #[]⟩ ∧ WE K w kvs es.toList
  low : (p == sysModules) = false
theorem WE.lit {w : World} : ∀ {kvs : List (Str × D)} {es : List DictEntry}, WE K w kvs es → PySem.W.KeysLit w.params es
  | _, _, .nil => trivial
  | _, _, .cons h _ r => ⟨⟨_, _, rfl, h⟩, r.lit⟩
theorem WE.find {w : World} (z : Str) : ∀ {kvs : List (Str × D)} {es : List DictEntry}, WE K w kvs es → match wget kvs z with
    | some d => ∃ u, (es.find? fun e => Value.isStrOf z e.key).map (·.val) = some u ∧ WT K d u
    | none => (es.find? fun e => Value.isStrOf z e.key).map (·.val) = none
  | _, _, .nil => rfl
  | (x, d) :: kvs, _, .cons (t := t) (h := hh) (u := u) (es := es) h q r => by
    have ih := WE.find z r
    unfold wget at ih ⊢
    have e : Value.isStrOf z (Value.str x t) = (x == z) := rfl
    rw [List.find?_cons, List.find?_cons]
    show match Option.map (·.2) (match x == z with | true => some (x, d) | false => kvs.find? fun p => p.1 == z) with
      | some d => ∃ u', Option.map (·.val) (match Value.isStrOf z (Value.str x t) with | true => some (⟨hh, .str x t, u⟩ : DictEntry) | false => es.find? fun e => Value.isStrOf z e.key) = some u' ∧ WT K d u'
      | none => Option.map (·.val) (match Value.isStrOf z (Value.str x t) with | true => some (⟨hh, .str x t, u⟩ : DictEntry) | false => es.find? fun e => Value.isStrOf z e.key) = none
    rw [e]
    cases x == z with
    | true => exact ⟨u, rfl, q⟩
    | false => exact ih
theorem wd_find {w : World} {p : Addr} {kvs : List (Str × D)} (D' : WD K w p kvs) (z : Str) : ∃ es n, K.lookup p = some ⟨.type "dict", none, .dict es n, #[]⟩ ∧ PySem.W.KeysLit w.params es.toList ∧ match wget kvs z with
    | some d => ∃ u, findBy Value.isStrOf es z = some u ∧ WT K d u
    | none => findBy Value.isStrOf es z = none := by
  obtain ⟨es, n, hl, we⟩ := D'.at_
  refine ⟨es, n, hl, we.lit, ?_⟩
  have := we.find z
  unfold findBy
  obtain ⟨l⟩ := es
  rw [List.find?_toArray]
  exact this
def oWGet (kvs : List (Str × D)) : Op1 := fun d st => match d with
  | .str z => (wget kvs z).map fun d => (d, st)
  | _ => none
def oWHas (kvs : List (Str × D)) : Op1 := fun d st => match d with
  | .str z => some (.bl (wget kvs z).isSome, st)
  | _ => none
def oWHasnt (kvs : List (Str × D)) : Op1 := fun d st => match d with
  | .str z => some (.bl (!(wget kvs z).isSome), st)
  | _ => none
end
section
variable {X : Cx} {a b c e : Expr} {es : List Expr} {fa fb fc : XE} {pos : Pos} {W : WX} {kvs : List (Str × D)} {p : Addr}
/-- the rule, by the pairs -/
def rWGet (K : PySem.W.Frag) (p : Addr) (kvs : List (Str × D)) : R2 := fun x y H Q => ∃ z d, x = .ref p ∧ y = .str z ∧ wget kvs z = some d ∧ ∀ v u, WT K d u → RelV v u → Q v H
theorem ix_wd (w : WD X.K X.w p kvs) : IxR X (rWGet X.K p kvs) := by
  intro value slice pins s σ H x y v u Q I rx ry h hs
  obtain ⟨z, d, rfl, rfl, hg, q⟩ := h
  obtain rfl : v = Value.ref p := rx
  obtain ⟨t, rfl⟩ := ry
  obtain ⟨es, n, hl, hk, hf⟩ := wd_find w z
  rw [hg] at hf
  obtain ⟨u0, hf, wt⟩ := hf
  obtain ⟨v0, rv, _⟩ := WT.ok (H := H) (μ := []) wt
  have hm := PySem.W.mapOf_K (prog := X.prog) (w := X.w) I.kIn hl hk
  exact tail_any hm.typeIs slot_dict_getitem.lookup (wpAny_getItem_of (strKind_is X.prog X.w z t) hm hf ⟨v0, H, I.tok _, rv, q v0 u0 wt rv⟩) hs
def rWIn (p : Addr) (kvs : List (Str × D)) (neg : Bool) : R2 := fun x y H Q => ∃ z, x = .str z ∧ y = .ref p ∧ Q (.bl (if neg then !(wget kvs z).isSome else (wget kvs z).isSome)) H
theorem wd_some {K : PySem.W.Frag} {o : Option D} {r : Option Value} (h : match o with
    | some d => ∃ u, r = some u ∧ WT K d u
    | none => r = none) : r.isSome = o.isSome := by
  cases o with
  | none => rw [h]; rfl
  | some d => obtain ⟨u, e, _⟩ := h; rw [e]; rfl
theorem op_inW (w : WD X.K X.w p kvs) : OpR X (compareOp .In) (rWIn p kvs false) := by
  intro pins s σ H x y v u Q I rx ry h
  obtain ⟨z, rfl, rfl, q⟩ := h
  obtain ⟨t, rfl⟩ := rx
  cases ry
  obtain ⟨es, n, hl, hk, hf⟩ := wd_find w z
  exact wpAny_in_of (PySem.strKind_is X.prog X.w z t) w.low (PySem.W.mapOf_K (prog := X.prog) I.kIn hl hk) ⟨.bl _, H, I.tok _, rfl, by rw [wd_some hf]; exact q⟩
theorem op_notInW (w : WD X.K X.w p kvs) : OpR X (compareOp .NotIn) (rWIn p kvs true) := by
  intro pins s σ H x y v u Q I rx ry h
  obtain ⟨z, rfl, rfl, q⟩ := h
  obtain ⟨t, rfl⟩ := rx
  cases ry
  obtain ⟨es, n, hl, hk, hf⟩ := wd_find w z
  exact wpAny_notIn_of (PySem.strKind_is X.prog X.w z t) w.low (PySem.W.mapOf_K (prog := X.prog) I.kIn hl hk) ⟨.bl _, H, I.tok _, rfl, by rw [wd_some hf]; exact q⟩
theorem pc_op {op : CmpOp} {r : R2} {ta tb : TE} (ho : OpR X (compareOp op) r) (ha : PE X a ta) (hb : PE X b tb) : PC X op a b (tOp r ta tb) :=
  ⟨fun _ _ _ _ _ I h => binT ha hb I h fun v u s2 x y H2 I2 rx ry q => ho _ s2 _ H2 x y v u _ I2 rx ry q⟩
theorem e_wget {x : Str} {p1 : Pos} {i : Expr} {fi : XE} (hm : X.mg x = some (.ref p)) (w : WD X.K X.w p kvs) (hi : PE X i (tX X.K W fi)) (hg : Gl X x := by rfl) (hd : (x == ("__debug__" : Str)) = false := by decide) (hs : PlainIx i := by exact fun _ _ => rfl) :
    PE X (.Subscript (.Name x p1) i pos) (tX X.K W (x1 (oWGet kvs) fi)) :=
  pe_imp (pe_ix (ix_wd w) (pe_glob (v := .ref p) hg hm rfl hd) hi hs) fun σ H Q ⟨ρ, st, μ, E, S, h⟩ => by
    show tX X.K W fi σ H _
    refine tX_of E S h.bind fun y s2 H2 μ2 yv e2 E2 S2 r2 h2 => ?_
    obtain ⟨d, s3, h3, k⟩ := h2.of
    unfold oWGet at h3
    split at h3
    · rename_i z
      obtain ⟨dd, h4, h5⟩ := Option.map_eq_some_iff.mp h3
      obtain ⟨ed, es⟩ := Prod.mk.inj h5
      subst ed es
      cases r2
      refine ⟨z, dd, rfl, rfl, h4, fun v u wt rv => ?_⟩
      obtain ⟨v', rv', q⟩ := WT.ok (H := H2) (μ := μ2) wt
      rw [rv.inj rv']
      exact k H2 μ2 (Ext.refl _ _) S2 v' q
    · cases h3
theorem c_win {x : Str} {p1 : Pos} {i : Expr} {fi : XE} (hm : X.mg x = some (.ref p)) (w : WD X.K X.w p kvs) (hi : PE X i (tX X.K W fi)) (hg : Gl X x := by rfl) (hd : (x == ("__debug__" : Str)) = false := by decide) :
    PC X .In i (.Name x p1) (tX X.K W (x1 (oWHas kvs) fi)) :=
  ⟨fun pins s σ H Q I ⟨ρ, st, μ, E, S, h⟩ => (pc_op (op_inW w) hi (pe_glob (v := .ref p) hg hm rfl hd)).run pins s σ H Q I (by
    refine tX_of E S h.bind fun y s2 H2 μ2 yv e2 E2 S2 r2 h2 => ?_
    obtain ⟨d, s3, h3, k⟩ := h2.of
    unfold oWHas at h3
    split at h3
    · rename_i z
      cases h3
      cases r2
      exact ⟨z, rfl, rfl, k H2 μ2 (Ext.refl _ _) S2 _ (.bl _)⟩
    · cases h3)⟩
theorem c_wnotin {x : Str} {p1 : Pos} {i : Expr} {fi : XE} (hm : X.mg x = some (.ref p)) (w : WD X.K X.w p kvs) (hi : PE X i (tX X.K W fi)) (hg : Gl X x := by rfl) (hd : (x == ("__debug__" : Str)) = false := by decide) :
    PC X .NotIn i (.Name x p1) (tX X.K W (x1 (oWHasnt kvs) fi)) :=
  ⟨fun pins s σ H Q I ⟨ρ, st, μ, E, S, h⟩ => (pc_op (op_notInW w) hi (pe_glob (v := .ref p) hg hm rfl hd)).run pins s σ H Q I (by
    refine tX_of E S h.bind fun y s2 H2 μ2 yv e2 E2 S2 r2 h2 => ?_
    obtain ⟨d, s3, h3, k⟩ := h2.of
    unfold oWHasnt at h3
    split at h3
    · rename_i z
      cases h3
      cases r2
      exact ⟨z, rfl, rfl, k H2 μ2 (Ext.refl _ _) S2 _ (.bl _)⟩
    · cases h3)⟩
end
end Rg

set_option Elab.async false
set_option linter.all false
set_option maxRecDepth 100000
namespace Rg
open PySem PySem.Spec PyProof.Rows L2
variable {K : PySem.W.Frag}
/-! ### the order of texts -/
def leS (x y : Str) : Bool := !ltCps y.cps.toList x.cps.toList
theorem leS_iff (x y : Str) : leS x y = true ↔ x.cps.toList ≤ y.cps.toList := by
  unfold leS
  rw [ltCps_eq, Bool.not_eq_true', decide_eq_false_iff_not, List.not_lt]
theorem leS_trans (a b c : Str) (h : leS a b = true) (k : leS b c = true) : leS a c = true := by
  rw [leS_iff] at *
  exact List.le_trans h k
theorem leS_total (a b : Str) : (leS a b || leS b a) = true := by
  rw [Bool.or_eq_true, leS_iff, leS_iff]
  exact List.le_total _ _
theorem leS_anti {a b : Str} (h : leS a b = true) (k : leS b a = true) : a = b := by
  rw [leS_iff] at *
  have e := List.le_antisymm h k
  obtain ⟨⟨l⟩⟩ := a
  obtain ⟨⟨m⟩⟩ := b
  have e : l = m := e
  rw [e]
theorem rising_pw : ∀ (l : List Str) (p : Str), risingS p l = true → (p :: l).Pairwise fun a b => leS a b = true
  | [], p, _ => by simp
  | x :: r, p, h => by
    have h : (!ltCps x.cps.toList p.cps.toList && risingS x r) = true := h
    rw [Bool.and_eq_true] at h
    have ih := rising_pw r x h.2
    refine List.pairwise_cons.mpr ⟨fun y hy => ?_, ih⟩
    rcases List.mem_cons.mp hy with rfl | hy
    · exact h.1
    · exact leS_trans _ _ _ h.1 ((List.pairwise_cons.mp ih).1 y hy)
theorem sorted_pw : ∀ l : List Str, sortedS l = true → l.Pairwise fun a b => leS a b = true
  | [], _ => .nil
  | x :: r, h => rising_pw r x h
def sortS (l : List Str) : List Str := l.mergeSort leS
theorem sortS_is {l ys : List Str} (p : ys.Perm l) (h : ys.Pairwise fun a b => leS a b = true) : ys = sortS l :=
  List.Perm.eq_of_pairwise (le := fun a b => leS a b = true) (fun a b _ _ => leS_anti) h (List.pairwise_mergeSort leS_trans leS_total l) (p.trans (List.mergeSort_perm l leS).symm)
def leI (x y : Int) : Bool := decide (x ≤ y)
def sortI (l : List Int) : List Int := l.mergeSort leI
theorem leI_trans (a b c : Int) (h : leI a b = true) (k : leI b c = true) : leI a c = true := by
  unfold leI at *
  rw [decide_eq_true_iff] at *
  omega
theorem leI_total (a b : Int) : (leI a b || leI b a) = true := by
  unfold leI
  rw [Bool.or_eq_true, decide_eq_true_iff, decide_eq_true_iff]
  omega
theorem sortI_is {l ys : List Int} (p : ys.Perm l) (h : ys.Pairwise (· ≤ ·)) : ys = sortI l :=
  List.Perm.eq_of_pairwise (le := fun a b : Int => leI a b = true) (fun a b _ _ h k => Int.le_antisymm (of_decide_eq_true h) (of_decide_eq_true k)) (h.imp fun {_ _} z => by unfold leI; exact decide_eq_true z)
    (List.pairwise_mergeSort leI_trans leI_total l) (p.trans (List.mergeSort_perm l leI).symm)
/-! ### sorted -/
def intsOf : List D → Option (List Int)
  | [] => some []
  | .int b :: r => (intsOf r).map (b :: ·)
  | _ => none
theorem intsOf_map : ∀ (ds : List D) (bs : List Int), intsOf ds = some bs → ds = bs.map D.int
  | [], bs, h => by cases h; rfl
  | .int b :: r, bs, h => by
    obtain ⟨cs, h1, h2⟩ := Option.map_eq_some_iff.mp h
    subst h2
    rw [intsOf_map r cs h1]
    rfl
  | .non :: r, bs, h => by cases h
  | .bl _ :: r, bs, h => by cases h
  | .str _ :: r, bs, h => by cases h
  | .tup _ :: r, bs, h => by cases h
  | .cl _ :: r, bs, h => by cases h
  | .loc _ :: r, bs, h => by cases h
@[simp] theorem intsOf_ints : ∀ l : List Int, intsOf (l.map D.int) = some l
  | [] => rfl
  | i :: l => by
    show (intsOf (l.map D.int)).map (i :: ·) = _
    rw [intsOf_ints l]
    rfl
@[simp] theorem txts_strs : ∀ l : List Str, txts (l.map D.str) = some l
  | [] => rfl
  | i :: l => by
    show (txts (l.map D.str)).map (i :: ·) = _
    rw [txts_strs l]
    rfl
theorem ints_rls {H : Hp} {μ : List Addr} : ∀ (bs : List Int) (vs : List V), Rls K H μ (bs.map D.int) vs → vs = bs.map V.int
  | [], vs, r => r.nil_inv
  | b :: bs, vs, r => by
    obtain ⟨v, us, rfl, r1, r2⟩ := Rls.cons_inv r
    cases r1
    rw [ints_rls bs us r2]
    rfl
theorem Rls.txs {H : Hp} {μ : List Addr} : ∀ ns : List Str, Rls K H μ (ns.map D.str) (ns.map V.str)
  | [] => .nil
  | n :: ns => .cons (.str n) (Rls.txs ns)
/-- the keys of a dict, as values -/
def kD : Key → D
  | .inl i => .int i
  | .inr x => .str x
theorem kD_ok {H : Hp} {μ : List Addr} (k : Key) : Rl K H μ (kD k) (kV k) := by
  cases k with
  | inl i => exact .int i
  | inr x => exact .str x
theorem KR.keys {H : Hp} {μ : List Addr} : ∀ {kd : List (Key × D)} {kv : List (Key × V)}, KR K H μ kd kv → kv.map (·.1) = kd.map (·.1)
  | _, _, .nil => rfl
  | _, _, .cons h t => by rw [List.map_cons, List.map_cons, KR.keys t, h.1]
theorem keys_rls {H : Hp} {μ : List Addr} {kd : List (Key × D)} {kv : List (Key × V)} (r : KR K H μ kd kv) : Rls K H μ (kd.map fun p => kD p.1) (kv.map fun p => kV p.1) := by
  induction r with
  | nil => exact .nil
  | @cons x y _ _ h t ih =>
    have e : x.1 = y.1 := h.1
    exact .cons (show Rl K H μ (kD x.1) (kV y.1) by rw [← e]; exact kD_ok _) ih
def skeys : List Key → Option (List Str)
  | [] => some []
  | .inr x :: r => (skeys r).map (x :: ·)
  | _ => none
theorem skeys_map : ∀ (ks : List Key) (bs : List Str), skeys ks = some bs → ks = bs.map Sum.inr
  | [], bs, h => by cases h; rfl
  | .inr b :: r, bs, h => by
    obtain ⟨cs, h1, h2⟩ := Option.map_eq_some_iff.mp h
    subst h2
    rw [skeys_map r cs h1]
    rfl
  | .inl _ :: r, bs, h => by cases h
def ikeys : List Key → Option (List Int)
  | [] => some []
  | .inl x :: r => (ikeys r).map (x :: ·)
  | _ => none
theorem ikeys_map : ∀ (ks : List Key) (bs : List Int), ikeys ks = some bs → ks = bs.map Sum.inl
  | [], bs, h => by cases h; rfl
  | .inl b :: r, bs, h => by
    obtain ⟨cs, h1, h2⟩ := Option.map_eq_some_iff.mp h
    subst h2
    rw [ikeys_map r cs h1]
    rfl
  | .inr _ :: r, bs, h => by cases h
def sortD (ds : List D) : Option (List D) := if ds.length < 64 then match txts ds with
  | some xs => some ((sortS xs).map D.str)
  | none => (intsOf ds).map fun ns => (sortI ns).map D.int
  else none
def sortK (ks : List Key) : Option (List D) := if ks.length < 64 then match skeys ks with
  | some xs => some ((sortS xs).map D.str)
  | none => (ikeys ks).map fun ns => (sortI ns).map D.int
  else none
def fSorted : BF := fun xs st => match xs with
  | [d] => match dctAt st d with
    | some p => (sortK (p.2.map (·.1))).map fun ds => (.loc st.length, st ++ [.lst ds])
    | none => (litems st d).bind fun ds => (sortD ds).map fun es => (.loc st.length, st ++ [.lst es])
  | _ => none
abbrev rSortA (K : PySem.W.Frag) : List V → Hp → VK → Prop := fun vs H Q => rSortedS K vs H Q ∨ (rSorted K vs H Q ∨
  ((∃ (a : Addr) (kvs : List (Key × V)) (ks : List Str), vs = [.ref a] ∧ Rd H a (.dK kvs) ∧ kvs.map (·.1) = ks.map Sum.inr ∧ ks.length < 64 ∧ ∀ ys p, ys.Perm ks → sortedS ys = true → H p = none → Q (.ref p) (upd H p (.lst (ys.map V.str)))) ∨
  (∃ (a : Addr) (kvs : List (Key × V)) (ks : List Int), vs = [.ref a] ∧ Rd H a (.dK kvs) ∧ kvs.map (·.1) = ks.map Sum.inl ∧ ks.length < 64 ∧ ∀ (ys : List Int) (p : Addr), ys.Perm ks → ys.Pairwise (· ≤ ·) → H p = none → Q (.ref p) (upd H p (.lst (ys.map V.int))))))
theorem call_sortA {X : Cx} (hc : X.calm = true) : CallR X (.builtin "sorted") (rSortA X.K) := cr_sortedS.or (cr_sorted.or ((call_sortedD hc).or (call_sortedDI hc)))
theorem does_sorted : DoesN K (rSortA K) fSorted := fun xs st d st' vs H μ Q r S h q => by
  unfold fSorted at h
  split at h
  · rename_i d0
    obtain ⟨v, rfl, rv⟩ := rls1 r
    split at h
    · rename_i pp hp
      obtain ⟨n, kvs⟩ := pp
      obtain ⟨rfl, e4⟩ := dctAt_some hp
      obtain ⟨ds, h1, h⟩ := Option.map_eq_some_iff.mp h
      cases h
      obtain ⟨a, us, rfl, ha, t, q1⟩ := S.dct e4 rv
      unfold sortK at h1
      split at h1
      · rename_i h64
        rw [List.length_map] at h64
        have h64 : kvs.length < 64 := h64
        have hkeys := KR.keys q1
        split at h1
        · rename_i bs hb
          cases h1
          have hb := skeys_map _ _ hb
          have hl : bs.length = kvs.length := by
            have := congrArg List.length hb
            rw [List.length_map, List.length_map] at this
            exact (show kvs.length = _ from this).symm
          refine .inr (.inr (.inl ⟨a, us, bs, rfl, .inl t, hkeys.trans hb, by omega, fun ys p hy hs hn => ?_⟩))
          rw [sortS_is hy (sorted_pw _ hs)]
          exact q _ _ _ (ext_new hn _) (S.newL hn (Rls.txs _)) (loc_new S)
        · obtain ⟨ns, h2, h1⟩ := Option.map_eq_some_iff.mp h1
          cases h1
          have hb := ikeys_map _ _ h2
          have hl : ns.length = kvs.length := by
            have := congrArg List.length hb
            rw [List.length_map, List.length_map] at this
            exact (show kvs.length = _ from this).symm
          refine .inr (.inr (.inr ⟨a, us, ns, rfl, .inl t, hkeys.trans hb, by omega, fun ys p hy hs hn => ?_⟩))
          rw [sortI_is hy hs]
          exact q _ _ _ (ext_new hn _) (S.newL hn (Rls.ints _)) (loc_new S)
      · cases h1
    · obtain ⟨ds, h1, h⟩ := Option.bind_eq_some_iff.mp h
      obtain ⟨es, h2, h⟩ := Option.map_eq_some_iff.mp h
      cases h
      obtain ⟨a, us, rfl, hq, q1⟩ := litems_seq (K := K) S h1 rv
      unfold sortD at h2
      split at h2
      · rename_i h64
        split at h2
        · rename_i bs hb
          cases h2
          have hb := txts_map _ _ hb
          subst hb
          rw [List.length_map] at h64
          have := txts_rls _ _ q1
          subst this
          refine .inl ⟨a, bs, rfl, hq, h64, fun ys p hy hs hn => ?_⟩
          rw [sortS_is hy (sorted_pw _ hs)]
          exact q _ _ _ (ext_new hn _) (S.newL hn (Rls.txs _)) (loc_new S)
        · obtain ⟨ns, h3, h2⟩ := Option.map_eq_some_iff.mp h2
          cases h2
          have hb := intsOf_map _ _ h3
          subst hb
          rw [List.length_map] at h64
          have := ints_rls _ _ q1
          subst this
          refine .inr (.inl ⟨a, ns, rfl, hq, h64, fun ys p hy hs hn => ?_⟩)
          rw [sortI_is hy hs]
          exact q _ _ _ (ext_new hn _) (S.newL hn (Rls.ints _)) (loc_new S)
      · cases h2
  · cases h
/-! ### list(dict), dict(pairs) -/
def fListE : BF := fun xs st => match xs with
  | [d] => match dctAt st d with
    | some p => some (.loc st.length, st ++ [.lst (p.2.map fun kv => kD kv.1)])
    | none => fList [d] st
  | xs => fList xs st
abbrev rListE (K : PySem.W.Frag) : List V → Hp → VK → Prop := fun xs H Q => rListD' K xs H Q ∨ rListD xs H Q
theorem call_listE {X : Cx} (hc : X.calm = true) : CallR X (.type "list") (rListE X.K) := (call_listD' hc).or (call_list_dK hc)
theorem does_listE : DoesN K (rListE K) fListE := fun xs st d st' vs H μ Q r S h q => by
  unfold fListE at h
  split at h
  · rename_i d0
    split at h
    · rename_i pp hp
      obtain ⟨n, kvs⟩ := pp
      cases h
      obtain ⟨v, rfl, rv⟩ := rls1 r
      obtain ⟨rfl, e4⟩ := dctAt_some hp
      obtain ⟨a, us, rfl, ha, t, q1⟩ := S.dct e4 rv
      exact .inr ⟨a, us, rfl, t, fun l hl => q _ _ _ (ext_new hl _) (S.newL hl (keys_rls q1)) (loc_new S)⟩
    · exact .inl (does_list _ _ _ _ _ _ _ _ r S h q)
  · exact .inl (does_list _ _ _ _ _ _ _ _ r S h q)
/-- the pairs of a list -/
def pairsD : List D → Option (List (Key × D))
  | [] => some []
  | .tup [k, d] :: r => (keyD k).bind fun k => (pairsD r).map ((k, d) :: ·)
  | _ => none
theorem pairsD_ok {H : Hp} {μ : List Addr} : ∀ (ds : List D) (kvs : List (Key × D)) (vs : List V), pairsD ds = some kvs → Rls K H μ ds vs → ∃ (ps : List Addr) (us : List (Key × V)), vs = ps.map V.ref ∧ Paired (fun p kv => SqT K H p [kV kv.1, kv.2]) ps us ∧ KR K H μ kvs us
  | [], kvs, vs, h, r => by
    cases h
    cases r
    exact ⟨[], [], rfl, .nil, .nil⟩
  | .tup [k, d] :: ds, kvs, vs, h, r => by
    obtain ⟨key, h1, h⟩ := Option.bind_eq_some_iff.mp h
    obtain ⟨more, h2, h⟩ := Option.map_eq_some_iff.mp h
    subst h
    obtain ⟨v, rest, rfl, r1, r2⟩ := Rls.cons_inv r
    obtain ⟨ps, us, rfl, p1, p2⟩ := pairsD_ok ds more rest h2 r2
    obtain ⟨a, ws, rfl, hq, q1⟩ := seqT r1
    obtain ⟨x, y, rfl, rx, ry⟩ := rls2 q1
    have := keyD_ok rx h1
    subst this
    exact ⟨a :: ps, (key, y) :: us, rfl, .cons hq p1, .cons ⟨rfl, ry⟩ p2⟩
  | .tup [] :: _, _, _, h, _ => by cases h
  | .tup [_] :: _, _, _, h, _ => by cases h
  | .tup (_ :: _ :: _ :: _) :: _, _, _, h, _ => by cases h
  | .non :: _, _, _, h, _ => by cases h
  | .bl _ :: _, _, _, h, _ => by cases h
  | .int _ :: _, _, _, h, _ => by cases h
  | .str _ :: _, _, _, h, _ => by cases h
  | .cl _ :: _, _, _, h, _ => by cases h
  | .loc _ :: _, _, _, h, _ => by cases h
def fDict : BF := fun xs st => match xs with
  | [d] => (litems st d).bind fun ds => (pairsD ds).map fun kvs => (.loc st.length, st ++ [.dct (mergeD kvs)])
  | _ => none
abbrev rDictP (K : PySem.W.Frag) : List V → Hp → VK → Prop := fun xs H Q => ∃ (a : Addr) (ps : List Addr) (kvs : List (Key × V)), xs = [.ref a] ∧ SqL K H a (ps.map V.ref) ∧ Paired (fun p kv => SqT K H p [kV kv.1, kv.2]) ps kvs ∧
    ∀ p, H p = none → Q (.ref p) (upd H p (.dK (mergeK [] kvs)))
theorem call_dictA {X : Cx} (hc : X.calm = true) : CallR X (.type "dict") (rDictP X.K) := call_dictP hc
theorem does_dictP : DoesN K (rDictP K) fDict := fun xs st d st' vs H μ Q r S h q => by
  unfold fDict at h
  split at h
  · rename_i d0
    obtain ⟨ds, h1, h⟩ := Option.bind_eq_some_iff.mp h
    obtain ⟨kvs, h2, h⟩ := Option.map_eq_some_iff.mp h
    cases h
    obtain ⟨v, rfl, rv⟩ := rls1 r
    obtain ⟨a, us, rfl, hq, q1⟩ := litems_seq (K := K) S h1 rv
    obtain ⟨ps, ks, rfl, p1, p2⟩ := pairsD_ok _ _ _ h2 q1
    refine ⟨a, ps, ks, rfl, hq, p1, fun l hl => q _ _ _ (ext_new hl _) (S.new (o := .dct (mergeD kvs)) hl ⟨_, upd_same, ?_⟩) (loc_new S)⟩
    exact KR.ext (ext_new hl _) (kr_merge p2 (.nil : KR K H μ [] []))
  · cases h
end Rg

set_option Elab.async false
set_option linter.all false
set_option maxRecDepth 100000
set_option maxHeartbeats 3200000
namespace Rg
open PySem PySem.Spec PyProof.Rows L2
open PySem.Froz (sObj TxOk addTx add_x is_str)
variable {P : Program} {w : World} {A : Around} {E : Value → Shared → Prop} {s : Shared}
/-- the set of the texts l at a; it can be walked -/
structure TS (P : Program) (w : World) (h : Heap) (a : Addr) (l : List Str) : Prop where
  ob : ∃ D, h.get? a = some (sObj "set" D) ∧ TxOk P w D l ∧ Ris D.2.2.place.toList ∧ (w.params.followText "set-order" = true ∨ D.2.2.led = true)
  nd : l.Nodup
theorem TS.at {h h' : Heap} {a : Addr} {l : List Str} (t : TS P w h a l) (k : ∀ o, h.get? a = some o → h'.get? a = some o) : TS P w h' a l := by
  obtain ⟨⟨D, h1, h2⟩, nd⟩ := t
  exact ⟨⟨D, k _ h1, h2⟩, nd⟩
def ins1 (l : List Str) (k : Str) : List Str := if k ∈ l then l else k :: l
theorem tail_ris {ep : Nat} {es : Array (Int × Value)} {t : SetTable} {b : Bool} (h : Ris t.place.toList) : Ris (Froz.tailTx ep es t b).2.2.place.toList := by
  unfold Froz.tailTx
  split
  · exact (relayAll_ris t es _)
  · exact h
theorem tail_led {ep : Nat} {es : Array (Int × Value)} {t : SetTable} {b : Bool} : (Froz.tailTx ep es t b).2.2.led = t.led := by
  unfold Froz.tailTx
  split
  · exact (relayAll_led t es _)
  · rfl
theorem addTx_ris (h : Int) (v : Value) (D : Froz.SD) (r : Ris D.2.2.place.toList) : Ris (addTx h v D).2.2.place.toList := by
  unfold addTx
  refine tail_ris ?_
  have := layNew_ris D.2.2 D.1 h v r
  split <;> exact this
theorem addTx_led (h : Int) (v : Value) (D : Froz.SD) : (addTx h v D).2.2.led = D.2.2.led := by
  unfold addTx
  rw [tail_led]
  have := layNew_led D.2.2 D.1 h v
  split <;> exact this
/-- one text into the set -/
theorem ts_add {a : Addr} {l : List Str} {k : Str} {u : Tok} {Q : Bool → Shared → Prop} (t : TS P w s.heap a l) (hb : l.length + 1 < scanBound)
    (q : ∀ h' b, (∀ c o, c ≠ a → s.heap.get? c = some o → h'.get? c = some o) → TS P w h' a (ins1 l k) → Q b { s with heap := h' }) : wpAny (model P w) A (setAddHashed a (.str k u) (hashStr w k)) Q E s := by
  obtain ⟨⟨D, ho, F, r, hl⟩, nd⟩ := t
  by_cases hk : k ∈ l
  · have q := q s.heap false (fun c o _ e => e) ⟨⟨D, ho, by unfold ins1; rw [if_pos hk]; exact F, r, hl⟩, by unfold ins1; rw [if_pos hk]; exact nd⟩
    obtain ⟨es, ep, t⟩ := D
    have hf : t.fits es.size = true := F.fit
    have hel : ElemsOf (strKind P w) es.toList := F.el
    have hb0 : es.size < scanBound := by have z : es.size = l.length := F.sz; omega
    have hkey := is_str (P := P) (w := w) k u
    unfold setAddHashed setAddHashedIn
    refine wpAny_holding (wpAny_bind (wpAny_setState_of ho rfl hf ?_))
    dsimp only
    rw [byScan_of (x := Value.str k u) rfl hb0 hel, if_pos rfl]
    unfold setAddByScan
    refine wpAny_bind (wpAny_bind (wpAny_rule (wpAny_bind (wpAny_setScan_of (knd := strKind P w) (k := k) hkey ho rfl hf hel ?_))))
    cases hi : List.findIdx? (fun e => (strKind P w).is k e.2) es.toList with
    | some j => exact wpAny_pure (wpAny_pure q)
    | none =>
      obtain ⟨e, he, ke⟩ := (F.mem k).mp hk
      have z := List.findIdx?_eq_none_iff.mp hi e he
      rw [ke] at z
      cases z
  · have q := fun h' hs t => q h' true hs t
    refine add_x ho F hk hb (q _ (fun c o hc e => (Heap.get?_update_other _ _ (Ne.symm hc)).trans e) ⟨⟨_, Froz.get_upd _ ho rfl, by unfold ins1; rw [if_neg hk]; exact Froz.add_ok u F, addTx_ris _ _ _ r, hl.imp id fun z => (addTx_led _ _ _).trans z⟩, ?_⟩)
    unfold ins1
    rw [if_neg hk]
    exact List.nodup_cons.mpr ⟨hk, nd⟩
/-- the texts of a list, each once -/
def dedT (xs : List Str) : List Str := xs.foldl ins1 []
theorem ins1_mem (l : List Str) (k x : Str) : x ∈ ins1 l k ↔ x ∈ l ∨ x = k := by
  unfold ins1
  by_cases h : k ∈ l
  · rw [if_pos h]
    exact ⟨.inl, fun z => z.elim id fun e => e ▸ h⟩
  · rw [if_neg h, List.mem_cons]
    exact Or.comm
theorem ded_mem : ∀ (xs l : List Str) (x : Str), x ∈ xs.foldl ins1 l ↔ x ∈ l ∨ x ∈ xs
  | [], l, x => by simp
  | k :: xs, l, x => by
    rw [List.foldl_cons, ded_mem xs, ins1_mem, List.mem_cons]
    exact or_assoc
theorem ded_nd : ∀ (xs l : List Str), l.Nodup → (xs.foldl ins1 l).Nodup
  | [], l, h => h
  | k :: xs, l, h => by
    rw [List.foldl_cons]
    refine ded_nd xs _ ?_
    unfold ins1
    split
    · exact h
    · rename_i hk
      exact List.nodup_cons.mpr ⟨hk, h⟩
theorem ded_len : ∀ (xs l : List Str), (xs.foldl ins1 l).length ≤ l.length + xs.length
  | [], l => Nat.le_refl _
  | k :: xs, l => by
    rw [List.foldl_cons]
    refine Nat.le_trans (ded_len xs _) ?_
    unfold ins1
    rw [List.length_cons]
    split
    · omega
    · rw [List.length_cons]; omega
theorem take_ded {xs : List Str} {i : Nat} {x : Str} (h : xs[i]? = some x) : dedT (xs.take (i + 1)) = ins1 (dedT (xs.take i)) x := by
  unfold dedT
  rw [List.take_add_one, h, List.foldl_append]
  rfl
/-- the loop of set(..) over a list of texts -/
theorem fill_txt {I : Addr} {fp wr : List Addr} {G : Array GenState → Array GenState → Prop} {Pv : Nat → Value → Prop} {St : Nat → Shared → Prop} {R : Result → Shared → Prop} {xs : List Str}
    (W : WalksS P w A.in1 I fp wr G xs.length Pv St) (S : Addr) (hSf : S ∉ fp) (hb : xs.length + 1 < scanBound) (hval : ∀ i v, Pv i v → ∃ x t, xs[i]? = some x ∧ v = .str x t) :
    ∀ (k i : Nat) (s : Shared), xs.length - i = k → i ≤ xs.length → St i s → TS P w s.heap S (dedT (xs.take i)) →
      (∀ s', Moved (S :: wr) G s s' → TS P w s'.heap S (dedT xs) → R (.ok (.ret .none)) s') → codeAny (model P w) A (.builtin "set.update.loop" ⟨[.ref S, .ref I], []⟩) R s := by
  have hSw : S ∉ wr := fun h => hSf (W.sub _ h)
  have up : ∀ {s s' : Shared}, Moved wr G s s' → Moved (S :: wr) G s s' := fun m => m.mono fun b hb => List.mem_cons_of_mem _ hb
  intro k
  induction k with
  | zero =>
    intro i s hk hi hst t hR
    have e : i = xs.length := Nat.le_antisymm hi (Nat.sub_eq_zero_iff_le.mp hk)
    subst e
    rw [List.take_length] at t
    refine codeAny_builtin F.entry_set_update_loop ?_
    rw [Around.under_plainId F.plain_set_update_loop _]
    refine wpAny_bind (m := pyNext (.ref I)) (W.done s _ _ hst fun s' hm => ?_)
    exact wpAny_pure (hR s' (up hm) (t.at fun o e => hm.heap S o hSw e))
  | succ k ih =>
    intro i s hk hi hst t hR
    have hlt : i < xs.length := by omega
    refine codeAny_builtin F.entry_set_update_loop ?_
    rw [Around.under_plainId F.plain_set_update_loop _]
    refine wpAny_bind (m := pyNext (.ref I)) (W.item i s _ _ hlt hst fun v s' hP hst' hm => ?_)
    obtain ⟨x, tk, hx, rfl⟩ := hval i v hP
    have t' := t.at fun o e => hm.heap S o hSw e
    have hl : (dedT (xs.take i)).length ≤ i := by
      refine Nat.le_trans (ded_len _ _) ?_
      rw [List.length_nil, Nat.zero_add, List.length_take]
      exact Nat.min_le_left ..
    refine wpAny_bind (m := holding [Value.str x tk] (setAdd S (.str x tk))) (wpAny_holding ?_)
    unfold setAdd
    refine wpAny_holding (wpAny_bind ((strKind P w).pyHash (k := x) (is_str x tk) ?_))
    refine ts_add (s := { s' with toks := s'.toks + 1 }) t' (by omega) fun h' b sb tn => ?_
    rw [← take_ded hx] at tn
    refine wpAny_pure ⟨plainId_quiet F.plain_set_update_loop _, ih (i + 1) _ (by omega) hlt (W.frame _ s' _ _ hst' (Nat.le_add_right _ _) fun c hc o e => ?_) tn fun s2 hm2 t2 => hR s2 ?_ t2⟩
    · exact sb c o (fun z => hSf (z ▸ hc)) e
    · refine Moved.trans W.gtrans ((up hm).then_heap (Nat.le_add_right _ _) fun c o hc e => ?_) hm2
      exact sb c o (fun z => hc (z ▸ List.mem_cons_self ..)) e
theorem strs_get : ∀ {vs : List Value} {xs : List Str}, StrsAre vs xs → ∀ (i : Nat) (v : Value), vs[i]? = some v → ∃ x t, xs[i]? = some x ∧ v = .str x t
  | _, _, .nil, i, v, h => by simp at h
  | _, _, .cons x t h, 0, v, e => ⟨x, t, rfl, by simpa using e.symm⟩
  | _, _, .cons x t h, i + 1, v, e => by
    obtain ⟨y, u, h1, h2⟩ := strs_get h i v (by simpa using e)
    exact ⟨y, u, by simpa using h1, h2⟩
abbrev newSet (w : World) : Obj := { cls := .type "set", dict := none, data := .set #[] 0 (.fresh 0 0 (!w.params.followText "set-order")) }
theorem ts_new {h : Heap} {a : Addr} (e : h.get? a = some (newSet w)) : TS P w h a [] :=
  ⟨⟨(#[], 0, .fresh 0 0 (!w.params.followText "set-order")), e, TxOk.nil rfl, List.Pairwise.nil, by
    show _ ∨ (!w.params.followText "set-order") = true
    cases w.params.followText "set-order"
    · exact .inr rfl
    · exact .inl rfl⟩, List.nodup_nil⟩
theorem call_set_txt {l : Addr} {items : Array Value} {xs : List Str} {Q : Value → Shared → Prop} (hh : A.handled = none) (hl : s.heap.IsList l items) (hi : StrsAre items.toList xs) (hb : xs.length + 1 < scanBound)
    (h : ∀ (h' : Heap) (tk : Nat), TS P w h' s.heap.objs.size (dedT xs) → (∀ b o, s.heap.get? b = some o → h'.get? b = some o) → Q (.ref s.heap.objs.size) { s with heap := h', toks := tk }) :
    wpAny (model P w) A (call (.type "set") [.ref l]) Q E s := by
  have hn : items.size = xs.length := by rw [← Array.length_toList]; exact hi.length
  obtain ⟨c, tl, hmro⟩ := F.called_set.mro
  have hmade := F.called_set.made
  have hsub := F.called_set.sub
  refine wpAny_call (codeAny_of_tree (wpAny_pure ⟨Code.quiet_builtin _ (by decide +kernel), codeAny_builtin F.entry_type_call ?_⟩))
  rw [Around.under_plain (weight_type_call_type "set" [.ref l] []) rfl]
  have h1 := F.called_set.notType
  have h2 := F.called_set.canCreate
  have hct := F.typeCall_set_1 (.ref l)
  repeat (any_goals (first | assumption | wp_step))
  refine codeAny_mono (code_set_led1 (.ref l) (E := E) (Q₁ := fun obj s₁ => obj = .ref s.heap.objs.size ∧ s₁ = { s with heap := s.heap.push (newSet w) }) ⟨rfl, rfl⟩) fun r s₁ hr => ?_
  cases r with
  | error e => exact hr
  | ok fl =>
    cases fl with
    | ret obj =>
      obtain ⟨rfl, rfl⟩ := hr
      have hS : (s.heap.push (newSet w)).get? s.heap.objs.size = some (newSet w) := Heap.get?_push_size _ rfl
      have hT : Shared.TypeIs { s with heap := s.heap.push (newSet w) } (.ref s.heap.objs.size) "set" := ⟨_, hS, rfl⟩
      have hli := F.called_set.init.lookup
      have hbi := F.called_set.init.bind (.ref s.heap.objs.size)
      repeat (any_goals (first | assumption | wp_step))
      refine codeAny_mono (codeAny_call_builtin (R := wants (fun r s₂ => r = .none ∧ ∃ h' tk, s₂ = { s with heap := h', toks := tk } ∧ TS P w h' s.heap.objs.size (dedT xs) ∧ (∀ b o, s.heap.get? b = some o → h'.get? b = some o)) E) F.called_set.init.plain F.entry_set_init (check_set_init_1 hT ?_)) fun r₂ s₂ hr₂ => ?_
      · obtain ⟨⟨ocls, odict, odata, oslots⟩, hol, hcl, nl, hdl⟩ := hl
        simp only at hcl hdl
        subst hcl
        subst hdl
        have hol' : (s.heap.push (newSet w)).get? l = some { cls := .type "list", dict := odict, data := .seq items nl, slots := oslots } := Heap.get?_push_of_some _ hol
        have hsls := F.sub_list_set
        have hslf := F.sub_list_frozenset
        have hne : (Value.type "list" == Value.type "dict") = false := by decide
        have hl1 : (s.heap.push (newSet w)).IsList l items := ⟨_, hol', rfl, nl, rfl⟩
        unfold Builtin.«set.__init__» noKeywords Builtin.Frozenset.updateFrom
        generalize hPI : pyIter = PI
        wp_walk
        subst hPI
        refine wpAny_pyIter_list hl1 (wpAny_bind (wpAny_runValue ?_))
        have hlS : l < s.heap.objs.size := Heap.lt_size hol
        have hz : (s.heap.push (newSet w)).objs.size = s.heap.objs.size + 1 := Heap.size_push ..
        have hneI : l ≠ (s.heap.push (newSet w)).objs.size := by rw [hz]; exact Nat.ne_of_lt (Nat.lt_succ_of_lt hlS)
        have W := (Walks.list (prog := P) (w := w) (A := A.in1.in1.in1) (by simp [hh]) (s.heap.push (newSet w)).objs.size l hneI items).toS
        rw [hn] at W
        refine fill_txt W s.heap.objs.size (fun z => ?_) hb (fun i v hv => ?_) (xs.length - 0) 0 _ rfl (Nat.zero_le _) ⟨⟨_, Heap.get?_push_size _ rfl, rfl, rfl⟩, hl1.push _⟩ (ts_new (Heap.get?_push_of_some _ hS)) fun s' hm t => ?_
        · rw [hz] at z
          rcases List.mem_cons.mp z with z | z
          · exact Nat.lt_irrefl _ (Nat.lt_of_lt_of_eq (Nat.lt_succ_self _) z.symm)
          · exact Nat.lt_irrefl _ (Nat.lt_of_lt_of_eq hlS (List.mem_singleton.mp z))
        · have hv : items.toList[i]? = some v := by rw [Array.getElem?_toList]; exact hv
          exact strs_get hi i v hv
        · obtain ⟨h', g2, d', tk', os'⟩ := s'
          have eg : g2 = s.gens := hm.gens
          have ed : d' = s.drawn := hm.drawn
          have eo : os' = s.os := hm.os
          subst eg
          subst ed
          subst eo
          refine wpAny_pure (show wpAny _ _ (ret Value.none) _ _ _ from wpAny_pure ⟨rfl, h', tk', rfl, t, fun b o e => ?_⟩)
          have hb := Heap.lt_size e
          refine hm.heap b o (fun z => ?_) (Heap.get?_push_of_some _ (Heap.get?_push_of_some _ e))
          rw [hz] at z
          rcases List.mem_cons.mp z with z | z
          · exact Nat.lt_irrefl _ (Nat.lt_of_lt_of_eq hb z.symm)
          · exact Nat.lt_irrefl _ (Nat.lt_of_lt_of_le hb (Nat.le_of_lt (Nat.lt_of_lt_of_eq (Nat.lt_succ_self _) (List.mem_singleton.mp z).symm)))
      · cases r₂ with
        | error e => exact hr₂
        | ok fl₂ =>
          cases fl₂ with
          | ret r =>
            obtain ⟨rfl, h', tk, rfl, t, hk⟩ := hr₂
            repeat (any_goals (first | assumption | wp_step))
            exact h _ _ t hk
          | _ => exact hr₂.elim
    | _ => exact hr.elim
/-! ### sorted(set(..)), len(set(..)) -/
theorem perm_of_nd {α : Type} [DecidableEq α] : ∀ (l xs : List α), l.Nodup → (∀ x ∈ l, x ∈ xs) → xs.length = l.length → xs.Perm l
  | [], xs, _, _, h => by
    rw [List.length_nil, List.length_eq_zero_iff] at h
    rw [h]
  | x :: l, xs, nd, sub, h => by
    obtain ⟨n1, n2⟩ := List.nodup_cons.mp nd
    have hx := sub x (List.mem_cons_self ..)
    refine (List.perm_cons_erase hx).trans (.cons x (perm_of_nd l (xs.erase x) n2 (fun y hy => ?_) ?_))
    · exact (List.mem_erase_of_ne (fun e : y = x => n1 (by rw [← e]; exact hy))).mpr (sub y (List.mem_cons_of_mem _ hy))
    · rw [List.length_erase_of_mem hx, h, List.length_cons, Nat.add_sub_cancel]
theorem ts_out {es : Array (Int × Value)} {ep : Nat} {t : SetTable} {l : List Str} (F : TxOk P w (es, ep, t) l) (nd : l.Nodup) {vs : List Value} (p : vs.Perm (es.toList.map (·.2))) : ∃ xs, StrsAre vs xs ∧ xs.Perm l := by
  have str : ∀ v ∈ vs, ∃ x t, v = Value.str x t := fun v hv => by
    obtain ⟨e, he, q⟩ := List.mem_map.mp (p.mem_iff.mp hv)
    obtain ⟨⟨x, hx, _⟩, _⟩ := F.el e he
    obtain ⟨t, ht⟩ := Value.isStrOf_shape (x := x) (v := e.2) hx
    exact ⟨x, t, q.symm.trans ht⟩
  have mk : ∀ vs : List Value, (∀ v ∈ vs, ∃ x t, v = Value.str x t) → ∃ xs, StrsAre vs xs := fun vs => by
    induction vs with
    | nil => exact fun _ => ⟨[], .nil⟩
    | cons v vs ih =>
      intro h
      obtain ⟨xs, hx⟩ := ih fun u hu => h u (List.mem_cons_of_mem _ hu)
      obtain ⟨x, t, rfl⟩ := h v (List.mem_cons_self ..)
      exact ⟨x :: xs, .cons x t hx⟩
  obtain ⟨xs, hx⟩ := mk vs str
  have mem : ∀ x : Str, x ∈ xs ↔ ∃ t, Value.str x t ∈ vs := by
    clear str p mk
    induction hx with
    | nil => simp
    | cons y tk h ih =>
      intro x
      rw [List.mem_cons, ih x]
      constructor
      · rintro (rfl | ⟨u, h⟩)
        · exact ⟨tk, List.mem_cons_self ..⟩
        · exact ⟨u, List.mem_cons_of_mem _ h⟩
      · rintro ⟨u, h⟩
        rcases List.mem_cons.mp h with h | h
        · cases h; exact .inl rfl
        · exact .inr ⟨u, h⟩
  have all : ∀ x, x ∈ l ↔ x ∈ xs := fun x => by
    rw [F.mem x, mem x]
    constructor
    · rintro ⟨e, he, q⟩
      obtain ⟨t, ht⟩ := Value.isStrOf_shape (x := x) (v := e.2) q
      exact ⟨t, p.mem_iff.mpr (List.mem_map.mpr ⟨e, he, ht⟩)⟩
    · rintro ⟨t, ht⟩
      obtain ⟨e, he, q⟩ := List.mem_map.mp (p.mem_iff.mp ht)
      refine ⟨e, he, ?_⟩
      show (strKind P w).is x e.2 = true
      rw [q]
      exact is_str x t
  have len : xs.length = l.length := by
    have z : es.size = l.length := F.sz
    rw [← hx.length, p.length_eq, List.length_map, Array.length_toList, z]
  exact ⟨xs, hx, perm_of_nd l xs nd (fun x h => (all x).mp h) len⟩
theorem sorted_ts {a : Addr} {l : List Str} {Q : Value → Shared → Prop} (t : TS P w s.heap a l) (hh : A.handled = none) (h64 : l.length < 64)
    (q : ∀ s' p (out : List Value) (c : Nat) (ys : List Str), (∀ b o, s.heap.get? b = some o → s'.heap.get? b = some o) → s'.gens = s.gens → s'.os = s.os → s.heap.objs.size ≤ p →
      s'.heap.get? p = some (seqObj "list" out.toArray c) → StrsAre out ys → ys = sortS l → Q (.ref p) s') :
    wpAny (model P w) A (call (.builtin "sorted") [.ref a]) Q E s := by
  obtain ⟨⟨⟨es, ep, tb⟩, ho, F, r, hl⟩, nd⟩ := t
  have hsz : es.size = l.length := F.sz
  refine Calls.call_function_entry kind_sorted plain_sorted entry_sorted (args_sorted1 _) ?_
  unfold Builtin.«sorted»
  refine wpAny_bind (m := checkCount "sorted" 1 1 _) (wpAny_pure (wpAny_bind ?_))
  refine collect_set (A := A.in1) hh ⟨_, ho, rfl, rfl⟩ F.fit (by rw [show (es, ep, tb).1.size = es.size from rfl]; unfold scanBound; omega) r hl fun s1 vs k1 hz g1 o1 pm => ?_
  obtain ⟨xs, hx, px⟩ := ts_out F nd pm
  have hvl : vs.length = l.length := by rw [pm.length_eq, List.length_map, Array.length_toList]; exact hsz
  refine wpAny_bind (wpAny_newList ?_ (by rw [hvl, sizeLine_eq]; omega))
  have hoL : (s1.heap.push (seqObj "list" vs.toArray 0)).get? s1.heap.objs.size = some (seqObj "list" vs.toArray 0) := Heap.get?_push_size _ rfl
  refine wpAny_bind (wpAny_holding (wpAny_call_entry slot_list_sort ⟨_, hoL, rfl⟩ entry_list_sort
    (list_sort_treeK strKind_oneLt (s := { s1 with heap := s1.heap.push (seqObj "list" vs.toArray 0) }) hoL hx.keysOf (fun v₁ v₂ rest e => keyKind_strs (by rw [← e]; exact hx)) (by rw [hvl]; exact h64) fun st' hp hs => ⟨_, rfl, ?_⟩) (args_list_sort _)))
  obtain ⟨ys, g1', g2, g3⟩ := sorted_out_str hx hp hs
  obtain ⟨c, hc⟩ := sortedHeap_at (vs := vs) (out := (arrOf st').map (·.2)) hoL
  refine wpAny_pure ⟨_, rfl, q _ s1.heap.objs.size ((arrOf st').map (·.2)).toList c ys (fun b u e => ?_) g1 o1 hz (by rw [Array.toArray_toList]; exact hc) g1' (sortS_is (g2.trans px) (sorted_pw _ g3))⟩
  have e2 := k1 b u e
  have hlt := Heap.lt_size e2
  show (sortedHeap (s1.heap.push (seqObj "list" vs.toArray 0)) s1.heap.objs.size vs _).get? b = some u
  rw [sortedHeap_old (Nat.ne_of_lt hlt) (by rw [size_push']; exact Nat.lt_succ_of_lt hlt)]
  exact Heap.get?_push_of_some _ e2
def fSorSet (st : Stt) (d : D) : R D := match litems st d with
  | some ds => match txts ds with
    | some xs => if xs.length < 64 then .ok (.loc st.length) (st ++ [.lst ((sortS (dedT xs)).map D.str)]) else .no
    | none => .no
  | none => .no
def xSorSet (f : XE) : XE := fun ρ st => (f ρ st).bind fun d s => fSorSet s d
def fLenSet (st : Stt) (d : D) : R D := match litems st d with
  | some ds => match txts ds with
    | some xs => if xs.length < 4000 then .ok (.int (dedT xs).length) st else .no
    | none => .no
  | none => .no
def xLenSet (f : XE) : XE := fun ρ st => (f ρ st).bind fun d s => fLenSet s d
section
variable {X : Cx} {e : Expr} {fe : XE} {pos p p2 q : Pos} {W : WX}
theorem txt_list {H : Hp} {μ : List Addr} {st : Stt} {d : D} {v : V} {ds : List D} {xs : List Str} (S : SR X.K H μ st) (h : litems st d = some ds) (ht : txts ds = some xs) (r : Rl X.K H μ d v) {pins : List (Addr × Obj)} {σ : L2.St} {s : Shared} (I : Inv X pins σ H s) :
    ∃ a its, v = .ref a ∧ s.heap.IsList a its ∧ StrsAre its.toList xs := by
  obtain ⟨a, vs, rfl, hq, q⟩ := litems_seq S h r
  have := txts_map _ _ ht
  subst this
  have := txts_rls _ _ q
  subst this
  obtain ⟨its, rv, pl, hz⟩ := I.list hq
  exact ⟨a, its.toArray, rfl, pl.isList, by rw [List.toList_toArray]; exact strsAre_of rv⟩
theorem e_sorSet (hm : X.mg "sorted" = none) (hm2 : X.mg "set" = none) (hc : X.calm = true) (he : PE X e (tX X.K W fe)) (hg : Gl X "sorted" := by rfl) (hg2 : Gl X "set" := by rfl)
    (na : starEach [e] X.env = (false, eval e X.env) :: starEach [] X.env := by rfl) : PE X (.Call (.Name "sorted" p) [.Call (.Name "set" p2) [e] [] q] [] pos) (tX X.K W (xSorSet fe)) := by
  refine ⟨fun pins s σ H Q I ⟨ρ, st, μ, E', S, h⟩ => ?_⟩
  refine Call_ (ld_blt I hg hm boot_sorted (callWith_builtin1 (args_cons (Call_ (ld_blt I hg2 hm2 boot_set ?_)) rfl) rfl rfl))
  have he' := he.run pins s σ H _ I (tX_of E' S h.bind fun d s1 H1 μ1 v e1 E1 S1 r1 h1 => (show ∃ μ st d, SR X.K H1 μ st ∧ Rl X.K H1 μ d v ∧ RO X.K (wx X.K W σ) H1 μ (QD X.K Q) (fSorSet st d) from ⟨μ1, s1, d, S1, r1, h1⟩))
  refine callWith_type1 (args_cons (thn he' fun v s1 ⟨x, H1, I1, r1, μ1, st1, d, S1, rd, h1⟩ => args_nil ?_) na) na rfl
  unfold fSorSet at h1
  split at h1
  · rename_i ds hds
    split at h1
    · rename_i xs hxs
      split at h1
      · rename_i h64
        obtain ⟨a, its, rfl, hl, hs⟩ := txt_list S1 hds hxs rd I1
        cases r1
        refine call_set_txt (I1.ok.hd hc) hl hs (by unfold scanBound; omega) fun h' tk t hk => args_nil ?_
        have I2 : Inv X pins σ H1 { s1 with heap := h', toks := tk } := I1.kept hk
        have hlen : (dedT xs).length < 64 := Nat.lt_of_le_of_lt (Nat.le_trans (ded_len xs []) (by rw [List.length_nil, Nat.zero_add]; exact Nat.le_refl _)) h64
        refine sorted_ts (s := { s1 with heap := h', toks := tk }) t (I2.ok.hd hc) hlen fun s' p out c ys k g o hp hat hs2 ey => ?_
        subst ey
        have hlen2 : ((sortS (dedT xs)).map V.str).length ≤ sizeLine := by
          rw [List.length_map, sizeLine_eq]
          have : (sortS (dedT xs)).length = (dedT xs).length := (List.mergeSort_perm _ _).length_eq
          omega
        have hn : H1 p = none := I2.hok.fresh hp
        generalize hs2' : ({ s1 with heap := h', toks := tk } : Shared) = s2 at I2 k g o hp
        have J : Inv X pins σ (upd H1 p (.lst ((sortS (dedT xs)).map V.str))) { s2 with heap := s'.heap, gens := s'.gens, drawn := s'.drawn, toks := s'.toks } :=
          I2.call (ch := []) (Un.laid k hp hn) (I2.hok.laid k hp ⟨hlen2, out, c, vals_of_strs hs2, hat⟩) (by rw [g]; exact I2.bare) (fun _ z => nomatch z)
        have e : s' = { s2 with heap := s'.heap, gens := s'.gens, drawn := s'.drawn, toks := s'.toks } := by
          cases s'
          cases s2
          cases o
          rfl
        rw [e]
        exact ⟨.ref p, _, J, rfl, h1 _ _ (ext_new hn _) (S1.newL hn (Rls.txs _)) _ (loc_new S1)⟩
      · exact h1.elim
    · exact h1.elim
  · exact h1.elim
theorem e_lenSet (hm : X.mg "len" = none) (hm2 : X.mg "set" = none) (hc : X.calm = true) (he : PE X e (tX X.K W fe)) (hg : Gl X "len" := by rfl) (hg2 : Gl X "set" := by rfl)
    (na : starEach [e] X.env = (false, eval e X.env) :: starEach [] X.env := by rfl) : PE X (.Call (.Name "len" p) [.Call (.Name "set" p2) [e] [] q] [] pos) (tX X.K W (xLenSet fe)) := by
  refine ⟨fun pins s σ H Q I ⟨ρ, st, μ, E', S, h⟩ => ?_⟩
  refine Call_ (ld_blt I hg hm boot_len (callWith_builtin1 (args_cons (Call_ (ld_blt I hg2 hm2 boot_set ?_)) rfl) rfl rfl))
  have he' := he.run pins s σ H _ I (tX_of E' S h.bind fun d s1 H1 μ1 v e1 E1 S1 r1 h1 => (show ∃ μ st d, SR X.K H1 μ st ∧ Rl X.K H1 μ d v ∧ RO X.K (wx X.K W σ) H1 μ (QD X.K Q) (fLenSet st d) from ⟨μ1, s1, d, S1, r1, h1⟩))
  refine callWith_type1 (args_cons (thn he' fun v s1 ⟨x, H1, I1, r1, μ1, st1, d, S1, rd, h1⟩ => args_nil ?_) na) na rfl
  unfold fLenSet at h1
  split at h1
  · rename_i ds hds
    split at h1
    · rename_i xs hxs
      split at h1
      · rename_i h64
        obtain ⟨a, its, rfl, hl, hs⟩ := txt_list S1 hds hxs rd I1
        cases r1
        refine call_set_txt (I1.ok.hd hc) hl hs (by unfold scanBound; omega) fun h' tk t hk => args_nil ?_
        have I2 : Inv X pins σ H1 { s1 with heap := h', toks := tk } := I1.kept hk
        obtain ⟨⟨⟨es, ep, tb⟩, ho, F, r, hl⟩, nd⟩ := t
        have hsz : es.size = (dedT xs).length := F.sz
        have hlen : (dedT xs).length ≤ xs.length := Nat.le_trans (ded_len xs []) (by rw [List.length_nil, Nat.zero_add]; exact Nat.le_refl _)
        refine call_len_set ho ⟨rfl, rfl, rfl⟩ rfl F.fit (by rw [show (es, ep, tb).1.size = es.size from rfl, hsz]; omega) ⟨.int (dedT xs).length, H1, I2.tok _, ⟨_, by rw [show (es, ep, tb).1.size = es.size from rfl, hsz]⟩, ?_⟩
        exact h1 H1 μ1 (Ext.refl _ _) S1 _ (.int _)
      · exact h1.elim
    · exact h1.elim
  · exact h1.elim
end
end Rg

set_option Elab.async false
set_option linter.all false
set_option maxRecDepth 100000
namespace Rg
open PySem PySem.Spec PyProof.Rows L2
/-! ### stores that grow; cells behind an old store -/
theorem ax {α β : Type} {r : α → β → Prop} (h : ∀ x, ∃ y, r x y) : ∃ f : α → β, ∀ x, r x (f x) := Classical.axiomOfChoice h
@[simp] theorem at_0 (st : Stt) (a : O) (J : Stt) : (st ++ a :: J)[st.length]? = some a := by simp
@[simp] theorem at_add (st J : Stt) (n : Nat) : (st ++ J)[st.length + n]? = J[n]? := by
  rw [List.getElem?_append_right (by omega)]; simp
@[simp] theorem set_0 (st : Stt) (a x : O) (J : Stt) : (st ++ a :: J).set st.length x = st ++ x :: J := by
  rw [List.set_append_right _ _ (Nat.le_refl _)]; simp
@[simp] theorem set_add (st J : Stt) (n : Nat) (x : O) : (st ++ J).set (st.length + n) x = st ++ J.set n x := by
  rw [List.set_append_right _ _ (by omega)]; simp
theorem at_old {st : Stt} {n : Nat} {o : O} (h : st[n]? = some o) (J : Stt) : (st ++ J)[n]? = some o := by
  rw [List.getElem?_append_left (List.getElem?_eq_some_iff.mp h).1]; exact h
theorem at_lt {st : Stt} {n : Nat} (h : n < st.length) (J : Stt) : (st ++ J)[n]? = st[n]? := List.getElem?_append_left h
theorem set_lt {st : Stt} {n : Nat} (h : n < st.length) (J : Stt) (x : O) : (st ++ J).set n x = st.set n x ++ J := List.set_append_left _ _ h
/-! the partial readers, as matches on what stands there -/
@[simp] theorem items_at (st : Stt) (n : Nat) : items st (.loc n) = match st[n]? with | some (.lst ds) => some ds | _ => none := (rfl)
@[simp] theorem lstAt_at (st : Stt) (n : Nat) : lstAt st (.loc n) = match st[n]? with | some (.lst ds) => some (n, ds) | _ => none := (rfl)
@[simp] theorem dctAt_at (st : Stt) (n : Nat) : dctAt st (.loc n) = match st[n]? with | some (.dct ds) => some (n, ds) | _ => none := (rfl)
@[simp] theorem dctAt_str (st : Stt) (x : Str) : dctAt st (.str x) = none := (rfl)
@[simp] theorem dctAt_tup (st : Stt) (x : List D) : dctAt st (.tup x) = none := (rfl)
@[simp] theorem dctAt_cl (st : Stt) (x : List D) : dctAt st (.cl x) = none := (rfl)
@[simp] theorem litems_at (st : Stt) (n : Nat) : litems st (.loc n) = match st[n]? with | some (.lst ds) => some ds | _ => none := (rfl)
@[simp] theorem tyD_at (st : Stt) (n : Nat) : tyD st (.loc n) = match st[n]? with | some (.lst _) => some "list" | some (.dct _) => some "dict" | _ => none := (rfl)
@[simp] theorem tyD_str (st : Stt) (x : Str) : tyD st (.str x) = some "str" := (rfl)
@[simp] theorem tyD_tup (st : Stt) (x : List D) : tyD st (.tup x) = some "tuple" := (rfl)
@[simp] theorem tyD_cl (st : Stt) (x : List D) : tyD st (.cl x) = some "list" := (rfl)
@[simp] theorem tyD_int (st : Stt) (x : Int) : tyD st (.int x) = some "int" := (rfl)
@[simp] theorem tyD_bl (st : Stt) (x : Bool) : tyD st (.bl x) = some "bool" := (rfl)
@[simp] theorem tyD_non (st : Stt) : tyD st .non = some "NoneType" := (rfl)
@[simp] theorem isRc_lst (st : Stt) (n : Nat) : isRc isLst (.loc n) st = match st[n]? with | some (.lst _) => .ok () st | _ => .no := by
  have e : isLst st (.loc n) = match st[n]? with | some (.lst _) => true | _ => false := (rfl)
  unfold isRc
  rw [e]
  cases h : st[n]? with
  | none => simp
  | some o => cases o <;> simp
@[simp] theorem isRc_str (x : Str) (st : Stt) : isRc isStr (.str x) st = .ok () st := (rfl)
@[simp] theorem mAppend_at (st : Stt) (n : Nat) (d : D) : mAppend (.loc n) [d] st = match st[n]? with | some (.lst ds) => (if ds.length < sizeLine then some (.non, st.set n (.lst (ds ++ [d]))) else none) | _ => none := by
  unfold mAppend
  rw [lstAt_at]
  cases h : st[n]? with
  | none => simp
  | some o => cases o <;> simp
@[simp] theorem mPop_at (st : Stt) (n : Nat) : mPop (.loc n) [] st = match st[n]? with | some (.lst ds) => (ds[ds.length - 1]?).map fun d => (d, st.set n (.lst ds.dropLast)) | _ => none := by
  unfold mPop
  rw [lstAt_at]
  cases h : st[n]? with
  | none => simp
  | some o => cases o <;> simp
@[simp] theorem mExtT_at (st : Stt) (n : Nat) (es : List D) : mExtend (.loc n) [.tup es] st = match st[n]? with | some (.lst ds) => (if ds.length + es.length ≤ sizeLine then some (.non, st.set n (.lst (ds ++ es))) else none) | _ => none := by
  unfold mExtend
  simp only [lstAt_at]
  cases h : st[n]? with
  | none => simp
  | some o => cases o <;> simp
@[simp] theorem mExtL_at (st : Stt) (n m : Nat) : mExtend (.loc n) [.loc m] st = match st[n]? with | some (.lst ds) => (match st[m]? with | some (.lst es) => (if ds.length + es.length ≤ sizeLine then some (.non, st.set n (.lst (ds ++ es))) else none) | _ => none) | _ => none := by
  unfold mExtend
  simp only [lstAt_at]
  cases h : st[n]? with
  | none => simp
  | some o =>
    cases o with
    | lst ds =>
      cases h2 : st[m]? with
      | none => simp
      | some o => cases o <;> simp
    | _ => simp
@[simp] theorem isT_at (st : Stt) (n : Nat) : isT (.loc n) st = match st[n]? with | some (.lst ds) => .ok (!ds.isEmpty) st | some (.dct ds) => .ok (!ds.isEmpty) st | _ => .no := by
  unfold isT
  have : truth st (.loc n) = match st[n]? with | some (.lst ds) => some (!ds.isEmpty) | some (.dct ds) => some (!ds.isEmpty) | _ => none := (rfl)
  rw [this]
  cases h : st[n]? with
  | none => simp
  | some o => cases o <;> simp
@[simp] theorem isT_bl (b : Bool) (st : Stt) : isT (.bl b) st = .ok b st := (rfl)
@[simp] theorem isT_int (i : Int) (st : Stt) : isT (.int i) st = .ok (i != 0) st := (rfl)
@[simp] theorem isT_non (st : Stt) : isT .non st = .ok false st := (rfl)
@[simp] theorem isT_tup (ds : List D) (st : Stt) : isT (.tup ds) st = .ok (!ds.isEmpty) st := (rfl)
@[simp] theorem oRev_at (st : Stt) (n : Nat) : oRev (.loc n) st = match st[n]? with | some (.lst ds) => some (.loc st.length, st ++ [.lst ds.reverse]) | _ => none := by
  unfold oRev
  rw [litems_at]
  cases h : st[n]? with
  | none => simp
  | some o => cases o <;> simp
@[simp] theorem oAdd_ll (st : Stt) (m n : Nat) : oAdd (.loc m) (.loc n) st = match st[m]?, st[n]? with
    | some (.lst a), some (.lst b) => if a.length + b.length ≤ sizeLine then some (.loc st.length, st ++ [.lst (a ++ b)]) else none
    | _, _ => none := (rfl)
@[simp] theorem oAdd_ss (i j : Str) (st : Stt) : oAdd (.str i) (.str j) st = if i.length + j.length ≤ sizeLine then some (.str (i ++ j), st) else none := (rfl)
@[simp] theorem oAdd_tt (a b : List D) (st : Stt) : oAdd (.tup a) (.tup b) st = if a.length + b.length ≤ sizeLine then some (.tup (a ++ b), st) else none := (rfl)
@[simp] theorem fLen_at (st : Stt) (n : Nat) : fLen [.loc n] st = match st[n]? with | some (.lst ds) => some (.int ds.length, st) | _ => none := by
  show (items st (.loc n)).map _ = _
  rw [items_at]
  cases h : st[n]? with
  | none => simp
  | some o => cases o <;> simp
@[simp] theorem fLen_tup (ds : List D) (st : Stt) : fLen [.tup ds] st = some (.int ds.length, st) := fLen_of rfl
@[simp] theorem fLen_cl (ds : List D) (st : Stt) : fLen [.cl ds] st = some (.int ds.length, st) := fLen_of rfl
@[simp] theorem fLen_str (x : Str) (st : Stt) : fLen [.str x] st = if x.length ≤ sizeLine then some (.int x.length, st) else none := (rfl)
@[simp] theorem fTuple_tup (ds : List D) (st : Stt) : fTuple [.tup ds] st = some (.tup ds, st) := (rfl)
@[simp] theorem fTuple_at (st : Stt) (n : Nat) : fTuple [.loc n] st = match st[n]? with | some (.lst ds) => some (.tup ds, st) | _ => none := by
  show (items st (.loc n)).map _ = _
  rw [items_at]
  cases h : st[n]? with
  | none => simp
  | some o => cases o <;> simp
@[simp] theorem oIx_tup (ds : List D) (i : Int) (st : Stt) : oIx (.tup ds) (.int i) st = (atI ds i).map fun d => (d, st) := (rfl)
@[simp] theorem oIx_cl (ds : List D) (i : Int) (st : Stt) : oIx (.cl ds) (.int i) st = (atI ds i).map fun d => (d, st) := (rfl)
@[simp] theorem oIx_at (st : Stt) (n : Nat) (i : Int) : oIx (.loc n) (.int i) st = match st[n]? with | some (.lst ds) => (atI ds i).map fun d => (d, st) | _ => none := by
  show (items st (.loc n)).bind _ = _
  rw [items_at]
  cases h : st[n]? with
  | none => simp
  | some o => cases o <;> simp
@[simp] theorem oIx_str (z : Str) (i : Int) (st : Stt) : oIx (.str z) (.int i) st = if z.length ≤ sizeLine then (atI z.cps.toList i).map fun c => (.str ⟨#[c]⟩, st) else none := (rfl)
@[simp] theorem atI_neg1 {α : Type} {xs : List α} {x : α} : atI (xs ++ [x]) (-1) = some x := by
  unfold atI ixN
  rw [if_neg (by omega), if_pos (by simp; omega)]
  have e : ((-1 : Int) + ((xs ++ [x]).length : Int)).toNat = xs.length := by simp; omega
  show (xs ++ [x])[_]? = _
  rw [e]
  simp
@[simp] theorem atI_0 {α : Type} (x : α) (xs : List α) : atI (x :: xs) 0 = some x := by unfold atI ixN; simp
@[simp] theorem atI_1 {α : Type} (x y : α) (xs : List α) : atI (x :: y :: xs) 1 = some y := by
  unfold atI ixN; rw [if_pos (by omega), if_pos (by simp; omega)]; rfl
@[simp] theorem atI_2 {α : Type} (x y z : α) (xs : List α) : atI (x :: y :: z :: xs) 2 = some z := by
  unfold atI ixN; rw [if_pos (by omega), if_pos (by simp; omega)]; rfl
@[simp] theorem atI_3 {α : Type} (x y z w : α) (xs : List α) : atI (x :: y :: z :: w :: xs) 3 = some w := by
  unfold atI ixN; rw [if_pos (by omega), if_pos (by simp; omega)]; rfl
@[simp] theorem wkOf_at (st : Stt) (n : Nat) : wkOf (.loc n) st = match st[n]? with | some (.lst ds) => .ok ⟨ds, fun st => items st (.loc n) = some ds⟩ st | _ => .no := by
  show (match items st (.loc n) with | some ds => R.ok (⟨ds, fun st => items st (.loc n) = some ds⟩ : Wk) st | none => .no) = _
  rw [items_at]
  cases h : st[n]? with
  | none => simp
  | some o => cases o <;> simp
@[simp] theorem wkOf_tup (ds : List D) (st : Stt) : wkOf (.tup ds) st = .ok ⟨ds, fun _ => True⟩ st := (rfl)
@[simp] theorem wkOf_str (x : Str) (st : Stt) : wkOf (.str x) st = .ok ⟨signs x, fun _ => True⟩ st := (rfl)
@[simp] theorem oFld_at (C : Addr) (f : Str) (st : Stt) (n : Nat) : oFld C f (.loc n) st = match st[n]? with | some (.ins C' fs) => (if C' = C then (fs.lookup f).map fun x => (x, st) else none) | _ => none := by
  show ((match st[n]? with | some (.ins C' fs) => if C' = C then some (n, fs) else none | _ => none).bind fun p => (p.2.lookup f).map fun x => (x, st)) = _
  cases h : st[n]? with
  | none => simp
  | some o =>
    cases o with
    | ins C' fs => by_cases hc : C' = C <;> simp [hc]
    | _ => simp
@[simp] theorem setF_at (C : Addr) (f : Str) (st : Stt) (n : Nat) (v : D) (ρ : En) : setF C f (.loc n) v ρ st = match st[n]? with | some (.ins C' fs) => (if C' = C then (if fs.length < 1000 then .nx ρ (st.set n (.ins C (putFD f v fs))) else .no) else .no) | _ => .no := by
  show (match (match st[n]? with | some (.ins C' fs) => if C' = C then some (n, fs) else none | _ => none) with | some p => if p.2.length < 1000 then Out.nx ρ (st.set p.1 (.ins C (putFD f v p.2))) else .no | none => .no) = _
  cases h : st[n]? with
  | none => simp
  | some o =>
    cases o with
    | ins C' fs => by_cases hc : C' = C <;> simp [hc]
    | _ => simp
@[simp] theorem hasM_at (C : Addr) (m : Str) (n : Nat) (st : Stt) : hasM C m (.loc n) st = match st[n]? with | some (.ins C' fs) => (if C' = C then (match fs.lookup m with | none => .ok () st | some _ => .no) else .no) | _ => .no := by
  unfold hasM
  show (match (match st[n]? with | some (.ins C' fs) => if C' = C then some (n, fs) else none | _ => none) with | some p => _ | none => _) = _
  cases h : st[n]? with
  | none => simp
  | some o =>
    cases o with
    | ins C' fs => 
      by_cases hc : C' = C
      · simp [hc]
        cases hl : fs.lookup m <;> simp
      · simp [hc]
    | _ => simp
@[simp] theorem setL_at (n : Nat) (k : Int) (v : D) (ρ : En) (st : Stt) : setL (.loc n) (.int k) v ρ st = match st[n]? with | some (.lst ds) => (match ixN ds.length k with | some j => .nx ρ (st.set n (.lst (ds.set j v))) | none => .no) | _ => .no := by
  unfold setL
  rw [lstAt_at]
  cases h : st[n]? with
  | none => simp
  | some o => cases o <;> simp <;> rfl
@[simp] theorem ixN_neg1 (n : Nat) : ixN (n + 1) (-1) = some n := by unfold ixN; rw [if_neg (by omega), if_pos (by simp; omega)]; simp; omega
theorem le_sz {n : Nat} (h : n ≤ 16777216) : n ≤ sizeLine := by rw [sizeLine_eq]; exact h
theorem lt_sz {n : Nat} (h : n < 16777216) : n < sizeLine := by rw [sizeLine_eq]; exact h
@[simp] theorem runB_run (n : Nat) (f : XS) (ds : List D) (st : Stt) : runB n f ds st = (f (ds.map some ++ List.replicate (n - ds.length) none) st).ret := (rfl)
@[simp] theorem mkTup_run (ds : List D) (st : Stt) : mkTup ds st = if ds.length ≤ sizeLine then .ok (.tup ds) st else .no := (rfl)
@[simp] theorem mkLst_run (ds : List D) (st : Stt) : mkLst ds st = if ds.length ≤ sizeLine then .ok (.loc st.length) (st ++ [.lst ds]) else .no := (rfl)
/-! ### while: with a measure -/
theorem whileF_inv {c : XT} {f : XS} (I : Nat → En → Stt → Prop) (Q : En → Stt → Prop)
    (step : ∀ k ρ st, I k ρ st → (∃ s, c ρ st = .ok false s ∧ Q ρ s) ∨ ∃ s, c ρ st = .ok true s ∧ ∃ ρ' st', (f ρ s = .nx ρ' st' ∨ f ρ s = .ct ρ' st') ∧ ∃ j, j < k ∧ I j ρ' st') :
    ∀ (m k : Nat) (ρ : En) (st : Stt), k < m → I k ρ st → ∃ ρ' st', whileF c f m ρ st = .nx ρ' st' ∧ Q ρ' st'
  | 0, k, _, _, h, _ => absurd h (Nat.not_lt_zero k)
  | m + 1, k, ρ, st, h, hI => by
    unfold whileF
    rcases step k ρ st hI with ⟨s, h1, h2⟩ | ⟨s, h1, ρ', st', h2, j, hj, h3⟩
    · rw [h1]; exact ⟨ρ, s, rfl, h2⟩
    · rw [h1]
      obtain ⟨ρ2, st2, h4, h5⟩ := whileF_inv I Q step m j ρ' st' (by omega) h3
      refine ⟨ρ2, st2, ?_, h5⟩
      rcases h2 with h2 | h2 <;> (simp only [R.out_ok, if_true, h2]; exact h4)
theorem sWhile_inv {c : XT} {f : XS} (I : Nat → En → Stt → Prop) (Q : En → Stt → Prop)
    (step : ∀ k ρ st, I k ρ st → (∃ s, c ρ st = .ok false s ∧ Q ρ s) ∨ ∃ s, c ρ st = .ok true s ∧ ∃ ρ' st', (f ρ s = .nx ρ' st' ∨ f ρ s = .ct ρ' st') ∧ ∃ j, j < k ∧ I j ρ' st')
    {k : Nat} {ρ : En} {st : Stt} (hk : k < 100000000) (h : I k ρ st) : ∃ ρ' st', sWhile c f ρ st = .nx ρ' st' ∧ Q ρ' st' := whileF_inv I Q step WN k ρ st hk h
/-! ### for, one after another -/
@[simp] theorem forF_nil (g : XG) (f : XS) (ρ : En) (st : Stt) : forF (fun _ => True) g f [] ρ st = .nx ρ st := by unfold forF; simp
theorem forF_cons (g : XG) (f : XS) (d : D) (ds : List D) (ρ : En) (st : Stt) : forF (fun _ => True) g f (d :: ds) ρ st = match g d ρ with
    | none => .no
    | some ρ1 => match f ρ1 st with
      | .nx ρ' st' => forF (fun _ => True) g f ds ρ' st'
      | .ct ρ' st' => forF (fun _ => True) g f ds ρ' st'
      | .bk ρ' st' => .nx ρ' st'
      | r => r := by
  conv => lhs; unfold forF
  rw [if_pos trivial]
  all_goals rfl
@[simp] theorem compF_nil {L : Nat} (g : XG) (t : XT) (f : XE) (ρ : En) (st : Stt) : compF L (fun _ => True) g t f ρ [] st = .ok () st := by unfold compF; simp
theorem compF_cons {L : Nat} (g : XG) (t : XT) (f : XE) (ρ : En) (d : D) (ds : List D) (st : Stt) : compF L (fun _ => True) g t f ρ (d :: ds) st = match g d ρ with
    | none => .no
    | some ρ1 => match t ρ1 st with
      | .ok true s => (match f ρ1 s with
        | .ok y s2 => (match lstAt s2 (.loc L) with
          | some p => if p.2.length < sizeLine then compF L (fun _ => True) g t f ρ ds (s2.set L (.lst (p.2 ++ [y]))) else .no
          | none => .no)
        | _ => .no)
      | .ok false s => compF L (fun _ => True) g t f ρ ds s
      | _ => .no := by
  conv => lhs; unfold compF
  rw [if_pos trivial]
  all_goals rfl
/-! ### texts by their codes -/
@[simp] theorem app_l (x y : List Nat) : (⟨x.toArray⟩ : Str) ++ ⟨y.toArray⟩ = ⟨(x ++ y).toArray⟩ := by
  show (⟨x.toArray ++ y.toArray⟩ : Str) = _
  simp
@[simp] theorem len_l (x : List Nat) : (⟨x.toArray⟩ : Str).length = x.length := by show x.toArray.size = _; simp
@[simp] theorem cps_l (x : List Nat) : (⟨x.toArray⟩ : Str).cps.toList = x := (rfl)
theorem empty_l : Str.empty = ⟨([] : List Nat).toArray⟩ := (rfl)
@[simp] theorem beq_l (x y : List Nat) : ((⟨x.toArray⟩ : Str) == ⟨y.toArray⟩) = decide (x = y) := by
  rw [Bool.beq_eq_decide_eq]; simp
theorem join_l (a : List Nat) : ∀ (ys : List (List Nat)), Txt.join ⟨a.toArray⟩ (ys.map fun y => ⟨y.toArray⟩) = ⟨((ys.intersperse a).flatten).toArray⟩
  | [] => by
    show Builtin.Str.glued _ _ = _
    rw [StrLaws.glued_eq_join]; rfl
  | [y] => by
    show Builtin.Str.glued _ _ = _
    rw [StrLaws.glued_eq_join]
    show (⟨y.toArray⟩ : Str) = _
    simp
  | y :: z :: r => by
    have ih := join_l a (z :: r)
    unfold Txt.join at ih ⊢
    rw [StrLaws.glued_eq_join] at ih ⊢
    show (⟨y.toArray⟩ : Str) ++ ⟨a.toArray⟩ ++ Str.join _ _ = _
    rw [ih]
    simp
@[simp] theorem txts_l (ys : List (List Nat)) : txts (ys.map fun y => .str ⟨y.toArray⟩) = some (ys.map fun y => ⟨y.toArray⟩) := by
  induction ys with
  | nil => rfl
  | cons y ys ih => show (txts (ys.map _)).map _ = _; rw [ih]; rfl
@[simp] theorem inTxt_1 (c : Nat) (z : Str) : inTxt ⟨#[c]⟩ z = decide (c ∈ z.cps.toList) := (rfl)
@[simp] theorem inOf_ss (st : Stt) (i j : Str) : inOf st (.str i) (.str j) = some (inTxt i j) := (rfl)
@[simp] theorem inOf_st (st : Stt) (x : Str) (ds : List D) : inOf st (.str x) (.tup ds) = (ds.mapM fv).map fun ws => inV (.str x) ws := (rfl)
@[simp] theorem fv_str (x : Str) : fv (.str x) = some (.str x) := (rfl)
@[simp] theorem inV_nil (x : V) : inV x [] = false := (rfl)
@[simp] theorem inV_str (x y : Str) (ws : List V) : inV (.str x) (.str y :: ws) = ((x == y) || inV (.str x) ws) := by
  show (eqV (.str y) (.str x) || _) = _
  have : eqV (.str y) (.str x) = (x == y) := by
    rw [Bool.eq_iff_iff]
    first
    | (show (y == x) = true ↔ (x == y) = true; rw [beq_iff_eq, beq_iff_eq]; exact eq_comm)
    | (simp [eqV]; exact eq_comm)
  rw [this]; rfl
@[simp] theorem oIn_run (x y : D) (st : Stt) : oIn x y st = (inOf st x y).map fun b => (.bl b, st) := (rfl)
@[simp] theorem oNotIn_run (x y : D) (st : Stt) : oNotIn x y st = (inOf st x y).map fun b => (.bl !b, st) := (rfl)
@[simp] theorem oIsi_run (T : String) (d : D) (st : Stt) : oIsi T d st = (tyD st d).bind fun t => (kitB t T).map fun b => (.bl b, st) := (rfl)
@[simp] theorem oWGet_run (kvs : List (Str × D)) (z : Str) (st : Stt) : oWGet kvs (.str z) st = (wget kvs z).map fun d => (d, st) := (rfl)
@[simp] theorem oWHas_run (kvs : List (Str × D)) (z : Str) (st : Stt) : oWHas kvs (.str z) st = some (.bl (wget kvs z).isSome, st) := (rfl)
@[simp] theorem wget_nil (z : Str) : wget [] z = none := (rfl)
@[simp] theorem wget_cons (k : Str) (d : D) (kvs : List (Str × D)) (z : Str) : wget ((k, d) :: kvs) z = if (k == z) = true then some d else wget kvs z := by
  unfold wget
  rw [List.find?_cons]
  cases h : k == z <;> simp [h]
@[simp] theorem mJoin_run (a : Str) (d : D) (st : Stt) : mJoin (.str a) [d] st = (items st d).bind fun ds => (txts ds).bind fun ys => if (ys.map (·.length)).sum + ys.length * a.length ≤ 16777216 then some (.str (Txt.join a ys), st) else none := (rfl)
@[simp] theorem oIsN_run (x : D) (st : Stt) : oIsN x .non st = some (.bl (isNon x), st) := (rfl)
@[simp] theorem oNotN_run (x : D) (st : Stt) : oNotN x .non st = some (.bl (!isNon x), st) := (rfl)
@[simp] theorem isNon_non : isNon .non = true := (rfl)
@[simp] theorem isNon_tup (x : List D) : isNon (.tup x) = false := (rfl)
@[simp] theorem isNon_str (x : Str) : isNon (.str x) = false := (rfl)
@[simp] theorem isNon_loc (x : Nat) : isNon (.loc x) = false := (rfl)
@[simp] theorem isNon_int (x : Int) : isNon (.int x) = false := (rfl)
@[simp] theorem isNon_bl (x : Bool) : isNon (.bl x) = false := (rfl)
@[simp] theorem oNeg_i (i : Int) (st : Stt) : oNeg (.int i) st = some (.int (-i), st) := (rfl)
theorem gT_run (vs : List Nat) (ds : List D) (ρ : En) : gT vs (.tup ds) ρ = if ds.length = vs.length then some (List.foldl (fun (r : En) (p : Nat × D) => r.set p.1 (some p.2)) ρ (vs.zip ds)) else none := (rfl)
@[simp] theorem gOut_run (g : XG) (ρ : En) (d : D) (s : Stt) : gOut g ρ d s = match g d ρ with | some ρ' => .nx ρ' s | none => .no := by unfold gOut; cases g d ρ <;> rfl
@[simp] theorem kit_str_str : kitB "str" "str" = some true := by decide +kernel
@[simp] theorem kit_str_tuple : kitB "str" "tuple" = some false := by decide +kernel
@[simp] theorem kit_str_list : kitB "str" "list" = some false := by decide +kernel
@[simp] theorem kit_str_int : kitB "str" "int" = some false := by decide +kernel
@[simp] theorem kit_str_dict : kitB "str" "dict" = some false := by decide +kernel
@[simp] theorem kit_str_bool : kitB "str" "bool" = some false := by decide +kernel
@[simp] theorem kit_tuple_str : kitB "tuple" "str" = some false := by decide +kernel
@[simp] theorem kit_tuple_tuple : kitB "tuple" "tuple" = some true := by decide +kernel
@[simp] theorem kit_tuple_list : kitB "tuple" "list" = some false := by decide +kernel
@[simp] theorem kit_tuple_int : kitB "tuple" "int" = some false := by decide +kernel
@[simp] theorem kit_tuple_dict : kitB "tuple" "dict" = some false := by decide +kernel
@[simp] theorem kit_tuple_bool : kitB "tuple" "bool" = some false := by decide +kernel
@[simp] theorem kit_list_str : kitB "list" "str" = some false := by decide +kernel
@[simp] theorem kit_list_tuple : kitB "list" "tuple" = some false := by decide +kernel
@[simp] theorem kit_list_list : kitB "list" "list" = some true := by decide +kernel
@[simp] theorem kit_list_int : kitB "list" "int" = some false := by decide +kernel
@[simp] theorem kit_list_dict : kitB "list" "dict" = some false := by decide +kernel
@[simp] theorem kit_list_bool : kitB "list" "bool" = some false := by decide +kernel
@[simp] theorem kit_int_str : kitB "int" "str" = some false := by decide +kernel
@[simp] theorem kit_int_tuple : kitB "int" "tuple" = some false := by decide +kernel
@[simp] theorem kit_int_list : kitB "int" "list" = some false := by decide +kernel
@[simp] theorem kit_int_int : kitB "int" "int" = some true := by decide +kernel
@[simp] theorem kit_int_dict : kitB "int" "dict" = some false := by decide +kernel
@[simp] theorem kit_int_bool : kitB "int" "bool" = some false := by decide +kernel
@[simp] theorem kit_bool_str : kitB "bool" "str" = some false := by decide +kernel
@[simp] theorem kit_bool_tuple : kitB "bool" "tuple" = some false := by decide +kernel
@[simp] theorem kit_bool_list : kitB "bool" "list" = some false := by decide +kernel
@[simp] theorem kit_bool_int : kitB "bool" "int" = some true := by decide +kernel
@[simp] theorem kit_bool_dict : kitB "bool" "dict" = some false := by decide +kernel
@[simp] theorem kit_bool_bool : kitB "bool" "bool" = some true := by decide +kernel
@[simp] theorem kit_NoneType_str : kitB "NoneType" "str" = some false := by decide +kernel
@[simp] theorem kit_NoneType_tuple : kitB "NoneType" "tuple" = some false := by decide +kernel
@[simp] theorem kit_NoneType_list : kitB "NoneType" "list" = some false := by decide +kernel
@[simp] theorem kit_NoneType_int : kitB "NoneType" "int" = some false := by decide +kernel
@[simp] theorem kit_NoneType_dict : kitB "NoneType" "dict" = some false := by decide +kernel
@[simp] theorem kit_NoneType_bool : kitB "NoneType" "bool" = some false := by decide +kernel
@[simp] theorem kit_dict_str : kitB "dict" "str" = some false := by decide +kernel
@[simp] theorem kit_dict_tuple : kitB "dict" "tuple" = some false := by decide +kernel
@[simp] theorem kit_dict_list : kitB "dict" "list" = some false := by decide +kernel
@[simp] theorem kit_dict_int : kitB "dict" "int" = some false := by decide +kernel
@[simp] theorem kit_dict_dict : kitB "dict" "dict" = some true := by decide +kernel
@[simp] theorem kit_dict_bool : kitB "dict" "bool" = some false := by decide +kernel
@[simp] theorem szl : sizeLine = 16777216 := sizeLine_eq
@[simp] theorem bools_nil : bools [] = some [] := (rfl)
@[simp] theorem bools_cons (b : Bool) (r : List D) : bools (.bl b :: r) = (bools r).map (b :: ·) := (rfl)
@[simp] theorem fAll_at (st : Stt) (n : Nat) : fAll [.loc n] st = match st[n]? with | some (.lst ds) => (bools ds).map fun bs => (.bl (bs.all id), st) | _ => none := by
  show (items st (.loc n)).bind _ = _
  rw [items_at]
  cases h : st[n]? with
  | none => simp
  | some o => cases o <;> simp
@[simp] theorem signs_l (l : List Nat) : Rg.signs ⟨l.toArray⟩ = l.map fun c => D.str ⟨#[c]⟩ := (rfl)
@[simp] theorem sIx_none' (n d : Nat) : HT.sIx n d none = d := (rfl)
@[simp] theorem sIx_some' (n d : Nat) (v : Int) : HT.sIx n d (some v) = if v < 0 then (v + (n : Int)).toNat else min v.toNat n := (rfl)
@[simp] theorem cutD_run (ds : List D) (lo hi : Option Int) : cutD ds lo hi = (ds.drop (HT.sIx ds.length 0 lo)).take (HT.sIx ds.length ds.length hi - HT.sIx ds.length 0 lo) := (rfl)
@[simp] theorem oSlA_tup (ds : List D) (lo hi : Option Int) (st : Stt) : oSlA (.tup ds) lo hi st = some (.tup (cutD ds lo hi), st) := (rfl)
@[simp] theorem oSlA_str (z : Str) (lo hi : Option Int) (st : Stt) : oSlA (.str z) lo hi st = if z.length ≤ sizeLine then some (.str (cutS z lo hi), st) else none := (rfl)
@[simp] theorem fListE_tup (ds : List D) (st : Stt) : fListE [.tup ds] st = some (.loc st.length, st ++ [.lst ds]) := (rfl)
@[simp] theorem fListE_cl (ds : List D) (st : Stt) : fListE [.cl ds] st = some (.loc st.length, st ++ [.lst ds]) := (rfl)
@[simp] theorem fListE_at (st : Stt) (n : Nat) : fListE [.loc n] st = match st[n]? with | some (.lst ds) => some (.loc st.length, st ++ [.lst ds]) | some (.dct kvs) => some (.loc st.length, st ++ [.lst (kvs.map fun kv => kD kv.1)]) | _ => none := by
  unfold fListE fList
  simp only [dctAt_at, items_at]
  cases h : st[n]? with
  | none => simp
  | some o => cases o <;> simp
theorem whileF_succ (c : XT) (f : XS) (m : Nat) (ρ : En) (st : Stt) : whileF c f (m + 1) ρ st = (c ρ st).out ρ fun b s => if b = true then (match f ρ s with
      | .nx ρ' st' => whileF c f m ρ' st'
      | .ct ρ' st' => whileF c f m ρ' st'
      | .bk ρ' st' => .nx ρ' st'
      | r => r) else .nx ρ s := (rfl)
theorem sWhile_two : ∃ N : Nat, ∀ (c : XT) (f : XS) (ρ : En) (st : Stt), sWhile c f ρ st = whileF c f (N + 1 + 1) ρ st := ⟨99999998, fun _ _ _ _ => rfl⟩
@[simp] theorem xTupRg_run (fa fb : XE) (ρ : En) (st : Stt) : xTupRg fa fb ρ st = (fa ρ st).bind fun x s => (fb ρ s).bind fun y s => mkRgT x y s := (rfl)
@[simp] theorem xLstRg_run (fa fb : XE) (ρ : En) (st : Stt) : xLstRg fa fb ρ st = (fa ρ st).bind fun x s => (fb ρ s).bind fun y s => mkRgL x y s := (rfl)
@[simp] theorem mkRgT_run (i j : Int) (st : Stt) : mkRgT (.int i) (.int j) st = if rgOk i j then .ok (.tup (rgD i j)) st else .no := Eq.trans rfl rfl
@[simp] theorem mkRgL_run (i j : Int) (st : Stt) : mkRgL (.int i) (.int j) st = if rgOk i j then .ok (.loc st.length) (st ++ [.lst (rgD i j)]) else .no := Eq.trans rfl rfl
@[simp] theorem xSorSet_run (f : XE) (ρ : En) (st : Stt) : xSorSet f ρ st = (f ρ st).bind fun d s => fSorSet s d := (rfl)
@[simp] theorem xLenSet_run (f : XE) (ρ : En) (st : Stt) : xLenSet f ρ st = (f ρ st).bind fun d s => fLenSet s d := (rfl)
@[simp] theorem fSorSet_at (st : Stt) (n : Nat) : fSorSet st (.loc n) = match st[n]? with | some (.lst ds) => (match txts ds with | some xs => if xs.length < 64 then .ok (.loc st.length) (st ++ [.lst ((sortS (dedT xs)).map D.str)]) else .no | none => .no) | _ => .no := by
  unfold fSorSet
  rw [litems_at]
  cases h : st[n]? with
  | none => simp
  | some o => cases o <;> simp <;> rfl
@[simp] theorem fSorted_at (st : Stt) (n : Nat) : fSorted [.loc n] st = match st[n]? with
    | some (.lst ds) => (sortD ds).map fun es => (.loc st.length, st ++ [.lst es])
    | some (.dct kvs) => (sortK (kvs.map (·.1))).map fun ds => (.loc st.length, st ++ [.lst ds])
    | _ => none := by
  unfold fSorted
  simp only [dctAt_at, litems_at]
  cases h : st[n]? with
  | none => simp
  | some o => cases o <;> simp
@[simp] theorem fDict_at (st : Stt) (n : Nat) : fDict [.loc n] st = match st[n]? with | some (.lst ds) => (pairsD ds).map fun kvs => (.loc st.length, st ++ [.dct (mergeD kvs)]) | _ => none := by
  unfold fDict
  simp only [litems_at]
  cases h : st[n]? with
  | none => simp
  | some o => cases o <;> simp
@[simp] theorem wipeD_nil (ρ : En) : wipeD ρ [] = ρ := (rfl)
@[simp] theorem wipeD_cons (ρ : En) (v : Nat) (vs : List Nat) : wipeD ρ (v :: vs) = (wipeD ρ vs).set v none := (rfl)
end Rg

set_option Elab.async false
set_option linter.all false
set_option maxRecDepth 100000
set_option maxHeartbeats 4000000
namespace Law
open PySem PySem.Spec PyProof.Rows L2 Rg
theorem hu64 {k : Nat} {A : Around} (hr : Room k A) : A.units + 64 < cLine := by have := hr.un; omega
theorem takesW0 {X : Cx} : L2.Takes X W0 := fun _ _ x => takes0 _ _ x
def top (i : Nat) : Stmt := PySem.Challenge.pw_hewstream_k21_texts_of_contents.main.body.getD i (.Pass ⟨0, 0, 0, 0⟩)
def inCls (i j : Nat) : Stmt := match top i with
  | .ClassDef (body := b) .. => b.getD j (.Pass ⟨0, 0, 0, 0⟩)
  | s => s
abbrev s_is_name : Stmt := top 7
abbrev s_is_type_name : Stmt := top 13
abbrev s_parts_within : Stmt := top 15
abbrev s_is_content : Stmt := top 14
abbrev s_nodes_of : Stmt := top 16
abbrev s_names_in : Stmt := top 17
abbrev s_bracketed : Stmt := top 20
abbrev s_printed_parts : Stmt := top 19
abbrev s_print_content : Stmt := top 18
abbrev s_words_of : Stmt := top 22
abbrev s_joined : Stmt := top 26
abbrev s_Level_content : Stmt := inCls 25 2
abbrev s_Level_init : Stmt := inCls 25 0
abbrev s_single_content : Stmt := top 24
abbrev s_Level_end_row : Stmt := inCls 25 1
abbrev s_content_of_words : Stmt := top 23
abbrev s_read_content : Stmt := top 21
abbrev s_law_next : Stmt := top 28
abbrev s_law_content : Stmt := top 29
abbrev s_law_text : Stmt := top 30
abbrev s_law_wide : Stmt := top 31
abbrev s_law_names : Stmt := top 32
abbrev s_law_bent : Stmt := top 33
abbrev s_law : Stmt := top 34
structure Ads where
  a_is_name : Addr
  d_is_name : FuncData
  a_is_type_name : Addr
  d_is_type_name : FuncData
  a_parts_within : Addr
  d_parts_within : FuncData
  a_is_content : Addr
  d_is_content : FuncData
  a_nodes_of : Addr
  d_nodes_of : FuncData
  a_names_in : Addr
  d_names_in : FuncData
  a_bracketed : Addr
  d_bracketed : FuncData
  a_printed_parts : Addr
  d_printed_parts : FuncData
  a_print_content : Addr
  d_print_content : FuncData
  a_words_of : Addr
  d_words_of : FuncData
  a_joined : Addr
  d_joined : FuncData
  a_Level_content : Addr
  d_Level_content : FuncData
  a_Level_init : Addr
  d_Level_init : FuncData
  a_single_content : Addr
  d_single_content : FuncData
  a_Level_end_row : Addr
  d_Level_end_row : FuncData
  a_content_of_words : Addr
  d_content_of_words : FuncData
  a_read_content : Addr
  d_read_content : FuncData
  a_law_next : Addr
  d_law_next : FuncData
  a_law_content : Addr
  d_law_content : FuncData
  a_law_text : Addr
  d_law_text : FuncData
  a_law_wide : Addr
  d_law_wide : FuncData
  a_law_names : Addr
  d_law_names : FuncData
  a_law_bent : Addr
  d_law_bent : FuncData
  a_law : Addr
  d_law : FuncData
  c_Level : Addr
  w_SEPARATORS : Addr
  w_KINDS_BEHIND : Addr
  w_SIGNS_BEHIND : Addr
noncomputable def is_name_i1 (a : Ads) : XS :=
 sIf (xOr (xNot (xTr (x1 (oIsi "str") (xV 0)))) (xNot (xB (xCh oLe oLe (xC (.int 1)) (xCall fLen (xCons (xV 0) (xNil))) (xC (.int 8))))))
 (sCons (sRet (xC (.bl false)))
 (sNil))
 (sNil)
noncomputable def f_is_name (a : Ads) : XS :=
 sCons (is_name_i1 a)
 (sCons (sRet (xAndV (x2 oIn (x2 oIx (xV 0) (xC (.int 0))) (xC (.str "abcdefghijklmnopqrstuvwxyz"))) (xCall fAll (xCons (xLc (xIt (xV 0)) (gN 1) (xYes) (x2 oIn (xV 1) (xC (.str "abcdefghijklmnopqrstuvwxyz0123456789"))) [1]) (xNil)))))
 (sNil))
noncomputable def m_is_name (a : Ads) : Fn := runB 2 (f_is_name a)
noncomputable def f_is_type_name (a : Ads) : XS :=
 sCons (sRet (xAndV (xFn (m_is_name a) (xCons (xV 0) (xNil))) (x2 oNotIn (xV 0) (xTup (xCons (xC (.str "empty")) (xCons (xC (.str "chars")) (xCons (xC (.str "char")) (xNil))))))))
 (sNil)
noncomputable def m_is_type_name (a : Ads) : Fn := runB 1 (f_is_type_name a)
noncomputable def parts_within_i1 (a : Ads) : XS :=
 sIf (xB (x1 (oWHas [("seq", (.str ", ")), ("or", (.str " | "))]) (xV 1)))
 (sCons (sRet (xIte (xAnd (xTr (x1 (oIsi "tuple") (xV 2))) (xB (x2 oGe (xCall fLen (xCons (xV 2) (xNil))) (xC (.int 2))))) (xV 2) (xC .non)))
 (sNil))
 (sNil)
noncomputable def parts_within_i2 (a : Ads) : XS :=
 sIf (xB (x2 oEq (xV 1) (xC (.str "type"))))
 (sCons (sRet (xIte (xTr (xFn (m_is_type_name a) (xCons (xV 2) (xNil)))) (xTup (xNil)) (xC .non)))
 (sNil))
 (sNil)
noncomputable def parts_within_i3 (a : Ads) : XS :=
 sIf (xB (x2 oEq (xCall fLen (xCons (xV 0) (xNil))) (xC (.int 1))))
 (sCons (sRet (xIte (xB (x2 oIn (x2 oIx (xV 0) (xC (.int 0))) (xC (.tup [(.str "empty"), (.str "chars")])))) (xTup (xNil)) (xC .non)))
 (sNil))
 (sNil)
noncomputable def parts_within_i4 (a : Ads) : XS :=
 sIf (xOr (xNot (xTr (x1 (oIsi "tuple") (xV 0)))) (xOr (xNot (xB (xCh oLe oLe (xC (.int 1)) (xCall fLen (xCons (xV 0) (xNil))) (xC (.int 2))))) (xNot (xTr (x1 (oIsi "str") (x2 oIx (xV 0) (xC (.int 0))))))))
 (sCons (sRet (xC .non))
 (sNil))
 (sNil)
noncomputable def f_parts_within (a : Ads) : XS :=
 sCons (parts_within_i4 a)
 (sCons (parts_within_i3 a)
 (sCons (sAsg (xV 0) (gT [1, 2]))
 (sCons (parts_within_i2 a)
 (sCons (parts_within_i1 a)
 (sCons (sRet (xIte (xB (x1 (oWHas [("star", (.str "*")), ("plus", (.str "+")), ("maybe", (.str "?"))]) (xV 1))) (xTup (xCons (xV 2) (xNil))) (xC .non)))
 (sNil))))))
noncomputable def m_parts_within (a : Ads) : Fn := runB 3 (f_parts_within a)
noncomputable def is_content_i1 (a : Ads) : XS :=
 sIf (xB (x2 oIsN (xV 2) (xC .non)))
 (sCons (sRet (xC (.bl false)))
 (sNil))
 (sNil)
noncomputable def is_content_wb1 (a : Ads) : XS :=
 sCons (sSet 2 (xFn (m_parts_within a) (xCons (xMt isLst mPop (xV 1) xNil) (xNil))))
 (sCons (is_content_i1 a)
 (sCons (sExpr (xMt isLst mExtend (xV 1) (xCons (xV 2) (xNil))))
 (sNil)))
noncomputable def is_content_wt1 (a : Ads) : XT :=
 xTr (xV 1)
noncomputable def is_content_w1 (a : Ads) : XS :=
 sWhile (is_content_wt1 a) (is_content_wb1 a)
noncomputable def f_is_content (a : Ads) : XS :=
 sCons (sSet 1 (xLst (xCons (xV 0) (xNil))))
 (sCons (is_content_w1 a)
 (sCons (sRet (xC (.bl true)))
 (sNil)))
noncomputable def m_is_content (a : Ads) : Fn := runB 3 (f_is_content a)
noncomputable def nodes_of_wb1 (a : Ads) : XS :=
 sCons (sSet 3 (x2 oIx (xV 2) (xCall fLen (xCons (xV 1) (xNil)))))
 (sCons (sSet 4 (xFn (m_parts_within a) (xCons (xV 3) (xNil))))
 (sCons (sSet 5 (xIte (xB (x2 oEq (x2 oIx (xV 3) (xC (.int 0))) (xC (.str "type")))) (x2 oIx (xV 3) (xC (.int 1))) (xC (.str ""))))
 (sCons (sExpr (xMt isLst mAppend (xV 1) (xCons (xTup (xCons (x2 oIx (xV 3) (xC (.int 0))) (xCons (xV 5) (xCons (xTupRg (xCall fLen (xCons (xV 2) (xNil))) (x2 oAdd (xCall fLen (xCons (xV 2) (xNil))) (xCall fLen (xCons (xV 4) (xNil))))) (xNil))))) (xNil))))
 (sCons (sExpr (xMt isLst mExtend (xV 2) (xCons (xV 4) (xNil))))
 (sNil)))))
noncomputable def nodes_of_wt1 (a : Ads) : XT :=
 xB (x2 oLt (xCall fLen (xCons (xV 1) (xNil))) (xCall fLen (xCons (xV 2) (xNil))))
noncomputable def nodes_of_w1 (a : Ads) : XS :=
 sWhile (nodes_of_wt1 a) (nodes_of_wb1 a)
noncomputable def f_nodes_of (a : Ads) : XS :=
 sCons (sSet 1 (xLst (xNil)))
 (sCons (sSet 2 (xLst (xCons (xV 0) (xNil))))
 (sCons (nodes_of_w1 a)
 (sCons (sRet (xV 1))
 (sNil))))
noncomputable def m_nodes_of (a : Ads) : Fn := runB 6 (f_nodes_of a)
noncomputable def f_names_in (a : Ads) : XS :=
 sCons (sRet (xSorSet (xLc (xIt (xFn (m_nodes_of a) (xCons (xV 0) (xNil)))) (gT [1, 2, 3]) (xB (x2 oEq (xV 1) (xC (.str "type")))) (xV 2) [1, 2, 3])))
 (sNil)
noncomputable def m_names_in (a : Ads) : Fn := runB 4 (f_names_in a)
noncomputable def bracketed_i1 (a : Ads) : XS :=
 sIf (xOr (xB (x2 oEq (x2 oIx (xV 0) (xC (.int 0))) (xC (.str "or")))) (xAnd (xB (x2 oEq (x2 oIx (xV 0) (xC (.int 0))) (xC (.str "seq")))) (xB (x2 oNe (xV 1) (xC (.str "or"))))))
 (sCons (sRet (xLst (xCons (xC (.str "(")) (xCons (xV 0) (xCons (xC (.str ")")) (xNil))))))
 (sNil))
 (sNil)
noncomputable def f_bracketed (a : Ads) : XS :=
 sCons (bracketed_i1 a)
 (sCons (sRet (xLst (xCons (xV 0) (xNil))))
 (sNil))
noncomputable def m_bracketed (a : Ads) : Fn := runB 2 (f_bracketed a)
noncomputable def printed_parts_i1 (a : Ads) : XS :=
 sIf (xTr (xV 2))
 (sCons (sExpr (xMt isLst mAppend (xV 2) (xCons (x1 (oWGet [("seq", (.str ", ")), ("or", (.str " | "))]) (xV 1)) (xNil))))
 (sNil))
 (sNil)
noncomputable def printed_parts_fb1 (a : Ads) : XS :=
 sCons (printed_parts_i1 a)
 (sCons (sExpr (xMt isLst mExtend (xV 2) (xCons (xFn (m_bracketed a) (xCons (xV 3) (xCons (xV 1) (xNil)))) (xNil))))
 (sNil))
noncomputable def printed_parts_f1 (a : Ads) : XS :=
 sFor (xIt (x2 oIx (xV 0) (xC (.int 1)))) (gN 3) (printed_parts_fb1 a)
noncomputable def printed_parts_i2 (a : Ads) : XS :=
 sIf (xB (x1 (oWHas [("star", (.str "*")), ("plus", (.str "+")), ("maybe", (.str "?"))]) (xV 1)))
 (sCons (sRet (x2 oAdd (xFn (m_bracketed a) (xCons (x2 oIx (xV 0) (xC (.int 1))) (xCons (xV 1) (xNil)))) (xLst (xCons (x1 (oWGet [("star", (.str "*")), ("plus", (.str "+")), ("maybe", (.str "?"))]) (xV 1)) (xNil)))))
 (sNil))
 (sNil)
noncomputable def printed_parts_i3 (a : Ads) : XS :=
 sIf (xB (x2 oEq (xV 1) (xC (.str "type"))))
 (sCons (sRet (xLst (xCons (x2 oIx (xV 0) (xC (.int 1))) (xNil))))
 (sNil))
 (sNil)
noncomputable def printed_parts_i4 (a : Ads) : XS :=
 sIf (xB (x2 oIn (xV 1) (xC (.tup [(.str "empty"), (.str "chars")]))))
 (sCons (sRet (xLst (xCons (xV 1) (xNil))))
 (sNil))
 (sNil)
noncomputable def f_printed_parts (a : Ads) : XS :=
 sCons (sSet 1 (x2 oIx (xV 0) (xC (.int 0))))
 (sCons (printed_parts_i4 a)
 (sCons (printed_parts_i3 a)
 (sCons (printed_parts_i2 a)
 (sCons (sSet 2 (xLst (xNil)))
 (sCons (printed_parts_f1 a)
 (sCons (sRet (xV 2))
 (sNil)))))))
noncomputable def m_printed_parts (a : Ads) : Fn := runB 4 (f_printed_parts a)
noncomputable def print_content_i1 (a : Ads) : XS :=
 sIf (xTr (x1 (oIsi "str") (xV 3)))
 (sCons (sExpr (xMt isLst mAppend (xV 1) (xCons (xV 3) (xNil))))
 (sNil))
 (sCons (sExpr (xMt isLst mExtend (xV 2) (xCons (x1 oRev (xFn (m_printed_parts a) (xCons (xV 3) (xNil)))) (xNil))))
 (sNil))
noncomputable def print_content_wb1 (a : Ads) : XS :=
 sCons (sSet 3 (xMt isLst mPop (xV 2) xNil))
 (sCons (print_content_i1 a)
 (sNil))
noncomputable def print_content_wt1 (a : Ads) : XT :=
 xTr (xV 2)
noncomputable def print_content_w1 (a : Ads) : XS :=
 sWhile (print_content_wt1 a) (print_content_wb1 a)
noncomputable def f_print_content (a : Ads) : XS :=
 sCons (sSet 1 (xLst (xNil)))
 (sCons (sSet 2 (xLst (xCons (xV 0) (xNil))))
 (sCons (print_content_w1 a)
 (sCons (sRet (xMt isStr mJoin (xC (.str "")) (xCons (xV 1) (xNil))))
 (sNil))))
noncomputable def m_print_content (a : Ads) : Fn := runB 4 (f_print_content a)
noncomputable def words_of_i1 (a : Ads) : XS :=
 sIf (xB (x2 oNe (x2 oIx (xV 0) (xV 2)) (xC (.str " "))))
 (sCons (sExpr (xMt isLst mAppend (xV 1) (xCons (xTup (xCons (xSl oSlA (xV 0) (xOS (xV 2)) (xOS (xV 3))) (xCons (x2 oAdd (xV 2) (xC (.int 1))) (xNil)))) (xNil))))
 (sNil))
 (sNil)
noncomputable def words_of_wb1 (a : Ads) : XS :=
 sCons (sAug 3 (oI CAny fun i j => .int (i + j)) (xC (.int 1)))
 (sNil)
noncomputable def words_of_wt1 (a : Ads) : XT :=
 xAnd (xB (x2 oLt (xV 3) (xCall fLen (xCons (xV 0) (xNil))))) (xB (x2 oIn (x2 oIx (xV 0) (xV 3)) (xC (.str "abcdefghijklmnopqrstuvwxyz0123456789"))))
noncomputable def words_of_w1 (a : Ads) : XS :=
 sWhile (words_of_wt1 a) (words_of_wb1 a)
noncomputable def words_of_i2 (a : Ads) : XS :=
 sIf (xB (x2 oIn (x2 oIx (xV 0) (xV 2)) (xC (.str "abcdefghijklmnopqrstuvwxyz0123456789"))))
 (sCons (words_of_w1 a)
 (sNil))
 (sNil)
noncomputable def words_of_wb2 (a : Ads) : XS :=
 sCons (sSet 3 (x2 oAdd (xV 2) (xC (.int 1))))
 (sCons (words_of_i2 a)
 (sCons (words_of_i1 a)
 (sCons (sSet 2 (xV 3))
 (sNil))))
noncomputable def words_of_wt2 (a : Ads) : XT :=
 xB (x2 oLt (xV 2) (xCall fLen (xCons (xV 0) (xNil))))
noncomputable def words_of_w2 (a : Ads) : XS :=
 sWhile (words_of_wt2 a) (words_of_wb2 a)
noncomputable def f_words_of (a : Ads) : XS :=
 sCons (sSet 1 (xLst (xNil)))
 (sCons (sSet 2 (xC (.int 0)))
 (sCons (words_of_w2 a)
 (sCons (sRet (xV 1))
 (sNil))))
noncomputable def m_words_of (a : Ads) : Fn := runB 4 (f_words_of a)
noncomputable def f_joined (a : Ads) : XS :=
 sCons (sRet (xIte (xB (x2 oEq (xCall fLen (xCons (xV 1) (xNil))) (xC (.int 1)))) (x2 oIx (xV 1) (xC (.int 0))) (xTup (xCons (xV 0) (xCons (xCall fTuple (xCons (xV 1) (xNil))) (xNil))))))
 (sNil)
noncomputable def m_joined (a : Ads) : Fn := runB 2 (f_joined a)
noncomputable def f_Level_content (a : Ads) : XS :=
 sCons (sRet (xFn (m_joined a) (xCons (xC (.str "or")) (xCons (x2 oAdd (x1 (oFld a.c_Level "choices") (xV 0)) (xLst (xCons (xFn (m_joined a) (xCons (xC (.str "seq")) (xCons (x1 (oFld a.c_Level "row") (xV 0)) (xNil)))) (xNil)))) (xNil)))))
 (sNil)
noncomputable def m_Level_content (a : Ads) : Fn := runB 1 (f_Level_content a)
noncomputable def f_Level_init (a : Ads) : XS :=
 sCons (sFldX a.c_Level "choices" (xV 0) (xLst (xNil)))
 (sCons (sFldX a.c_Level "row" (xV 0) (xLst (xNil)))
 (sNil))
noncomputable def m_Level_init (a : Ads) : Fn := runB 1 (f_Level_init a)
noncomputable def single_content_i1 (a : Ads) : XS :=
 sIf (xNot (xTr (xFn (m_is_type_name a) (xCons (xV 0) (xNil)))))
 (sCons (sNo)
 (sNil))
 (sNil)
noncomputable def single_content_i2 (a : Ads) : XS :=
 sIf (xB (x2 oIn (xV 0) (xC (.tup [(.str "empty"), (.str "chars")]))))
 (sCons (sRet (xTup (xCons (xV 0) (xNil))))
 (sNil))
 (sNil)
noncomputable def f_single_content (a : Ads) : XS :=
 sCons (single_content_i2 a)
 (sCons (single_content_i1 a)
 (sCons (sRet (xTup (xCons (xC (.str "type")) (xCons (xV 0) (xNil)))))
 (sNil)))
noncomputable def m_single_content (a : Ads) : Fn := runB 2 (f_single_content a)
noncomputable def f_Level_end_row (a : Ads) : XS :=
 sCons (sExpr (xMt isLst mAppend (x1 (oFld a.c_Level "choices") (xV 0)) (xCons (xFn (m_joined a) (xCons (xC (.str "seq")) (xCons (x1 (oFld a.c_Level "row") (xV 0)) (xNil)))) (xNil))))
 (sCons (sFldX a.c_Level "row" (xV 0) (xLst (xNil)))
 (sNil))
noncomputable def m_Level_end_row (a : Ads) : Fn := runB 1 (f_Level_end_row a)
noncomputable def content_of_words_i1 (a : Ads) : XS :=
 sIf (xOr (xTr (xV 3)) (xB (x2 oGt (xCall fLen (xCons (xV 2) (xNil))) (xC (.int 1)))))
 (sCons (sNo)
 (sNil))
 (sNil)
noncomputable def content_of_words_i2 (a : Ads) : XS :=
 sIf (xAnd (xB (x2 oEq (xV 4) (xC (.str ")")))) (xB (x2 oGt (xCall fLen (xCons (xV 2) (xNil))) (xC (.int 1)))))
 (sCons (sExpr (xMt isLst mPop (xV 2) xNil))
 (sCons (sExpr (xMt isLst mAppend (x1 (oFld a.c_Level "row") (x2 oIx (xV 2) (x1 oNeg (xC (.int 1))))) (xCons (xMeth a.c_Level "content" (m_Level_content a) (xV 6) xNil) (xNil))))
 (sNil)))
 (sCons (sNo)
 (sNil))
noncomputable def content_of_words_i3 (a : Ads) : XS :=
 sIf (xB (x2 oEq (xV 4) (xC (.str "|"))))
 (sCons (sExpr (xMeth a.c_Level "end_row" (m_Level_end_row a) (xV 6) xNil))
 (sCons (sSet 3 (xC (.bl true)))
 (sNil)))
 (sCons (content_of_words_i2 a)
 (sNil))
noncomputable def content_of_words_i4 (a : Ads) : XS :=
 sIf (xB (x2 oEq (xV 4) (xC (.str ","))))
 (sCons (sSet 3 (xC (.bl true)))
 (sNil))
 (sCons (content_of_words_i3 a)
 (sNil))
noncomputable def content_of_words_i5 (a : Ads) : XS :=
 sIf (xB (x1 (oWHas [("*", (.str "star")), ("+", (.str "plus")), ("?", (.str "maybe"))]) (xV 4)))
 (sCons (sSubL (x1 (oFld a.c_Level "row") (xV 6)) (x1 oNeg (xC (.int 1))) (xTup (xCons (x1 (oWGet [("*", (.str "star")), ("+", (.str "plus")), ("?", (.str "maybe"))]) (xV 4)) (xCons (x2 oIx (x1 (oFld a.c_Level "row") (xV 6)) (x1 oNeg (xC (.int 1)))) (xNil)))))
 (sNil))
 (sCons (content_of_words_i4 a)
 (sNil))
noncomputable def content_of_words_i6 (a : Ads) : XS :=
 sIf (xTr (xV 3))
 (sCons (sExpr (xMt isLst mAppend (x1 (oFld a.c_Level "row") (xV 6)) (xCons (xFn (m_single_content a) (xCons (xV 4) (xCons (xV 5) (xNil)))) (xNil))))
 (sCons (sSet 3 (xC (.bl false)))
 (sNil)))
 (sCons (content_of_words_i5 a)
 (sNil))
noncomputable def content_of_words_i7 (a : Ads) : XS :=
 sIf (xAnd (xTr (xV 3)) (xB (x2 oEq (xV 4) (xC (.str "(")))))
 (sCons (sExpr (xMt isLst mAppend (xV 2) (xCons (xMake a.c_Level (m_Level_init a) xNil) (xNil))))
 (sNil))
 (sCons (content_of_words_i6 a)
 (sNil))
noncomputable def content_of_words_fb1 (a : Ads) : XS :=
 sCons (sSet 6 (x2 oIx (xV 2) (x1 oNeg (xC (.int 1)))))
 (sCons (content_of_words_i7 a)
 (sNil))
noncomputable def content_of_words_f1 (a : Ads) : XS :=
 sFor (xIt (xV 0)) (gT [4, 5]) (content_of_words_fb1 a)
noncomputable def f_content_of_words (a : Ads) : XS :=
 sCons (sSet 2 (xLst (xCons (xMake a.c_Level (m_Level_init a) xNil) (xNil))))
 (sCons (sSet 3 (xC (.bl true)))
 (sCons (content_of_words_f1 a)
 (sCons (content_of_words_i1 a)
 (sCons (sRet (xMeth a.c_Level "content" (m_Level_content a) (x2 oIx (xV 2) (xC (.int 0))) xNil))
 (sNil)))))
noncomputable def m_content_of_words (a : Ads) : Fn := runB 7 (f_content_of_words a)
noncomputable def f_read_content (a : Ads) : XS :=
 sCons (sRet (xFn (m_content_of_words a) (xCons (xFn (m_words_of a) (xCons (xV 0) (xNil))) (xCons (x2 oAdd (xCall fLen (xCons (xV 0) (xNil))) (xC (.int 1))) (xNil)))))
 (sNil)
noncomputable def m_read_content (a : Ads) : Fn := runB 1 (f_read_content a)
noncomputable def law_next_i1 (a : Ads) : XS :=
 sIf (xB (x2 oGe (xV 3) (x2 oPow (xC (.int 10)) (xC (.int 18)))))
 (sCons (sSubL (xV 0) (xC (.int 2)) (x2 oDiv (xV 3) (xV 1)))
 (sCons (sRet (x2 oMod (xCall fInt (xCons (xV 3) (xNil))) (xV 1)))
 (sNil)))
 (sNil)
noncomputable def law_next_i2 (a : Ads) : XS :=
 sIf (xB (x2 oLt (x2 oIx (xV 0) (xC (.int 1))) (xCall fLen (xCons (x2 oIx (xV 0) (xC (.int 0))) (xNil)))))
 (sCons (sSet 3 (xCall fAbs (xCons (x2 oIx (x2 oIx (xV 0) (xC (.int 0))) (x2 oIx (xV 0) (xC (.int 1)))) (xNil))))
 (sCons (sAugL (oI CAny fun i j => .int (i + j)) (xV 0) (xC (.int 1)) (xC (.int 1)))
 (sNil)))
 (sNil)
noncomputable def law_next_i3 (a : Ads) : XS :=
 sIf (xB (x2 oGt (xV 2) (xC (.int 0))))
 (sCons (sSubL (xV 0) (xC (.int 2)) (x2 oDiv (xV 2) (xV 1)))
 (sCons (sRet (x2 oMod (xCall fInt (xCons (xV 2) (xNil))) (xV 1)))
 (sNil)))
 (sNil)
noncomputable def f_law_next (a : Ads) : XS :=
 sCons (sSet 2 (x2 oIx (xV 0) (xC (.int 2))))
 (sCons (law_next_i3 a)
 (sCons (sSet 3 (xC (.int 0)))
 (sCons (law_next_i2 a)
 (sCons (law_next_i1 a)
 (sCons (sSubL (xV 0) (xC (.int 3)) (x2 oMod (xCall fInt (xCons (x2 oAdd (x2 oAdd (x2 oMulA (x2 oIx (xV 0) (xC (.int 3))) (xC (.int 48271))) (x2 oMulA (xV 3) (xC (.int 69621)))) (xC (.int 11))) (xNil))) (xC (.int 2147483647))))
 (sCons (sRet (x2 oMod (xCall fInt (xCons (x2 oDiv (x2 oMod (x2 oMulA (x2 oIx (xV 0) (xC (.int 3))) (xC (.int 16807))) (xC (.int 2147483647))) (xC (.int 7))) (xNil))) (xV 1)))
 (sNil)))))))
noncomputable def m_law_next (a : Ads) : Fn := runB 4 (f_law_next a)
noncomputable def law_content_i1 (a : Ads) (self : Fn) : XS :=
 sIf (xB (x2 oLt (xV 3) (xC (.int 8))))
 (sCons (sSet 4 (x2 oAdd (xC (.int 2)) (xFn (m_law_next a) (xCons (xV 0) (xCons (xC (.int 2)) (xNil))))))
 (sCons (sRet (xTup (xCons (xC (.str "or")) (xCons (xCall fTuple (xCons (xLc (xRange (xCons (xV 4) (xNil))) (gN 5) (xYes) (xFn (self) (xCons (xV 0) (xCons (xV 1) (xCons (x2 oSub (xV 2) (xC (.int 1))) (xNil))))) [5]) (xNil))) (xNil)))))
 (sNil)))
 (sNil)
noncomputable def law_content_i2 (a : Ads) (self : Fn) : XS :=
 sIf (xB (x2 oLt (xV 3) (xC (.int 6))))
 (sCons (sSet 4 (x2 oAdd (xC (.int 2)) (xFn (m_law_next a) (xCons (xV 0) (xCons (xC (.int 2)) (xNil))))))
 (sCons (sRet (xTup (xCons (xC (.str "seq")) (xCons (xCall fTuple (xCons (xLc (xRange (xCons (xV 4) (xNil))) (gN 5) (xYes) (xFn (self) (xCons (xV 0) (xCons (xV 1) (xCons (x2 oSub (xV 2) (xC (.int 1))) (xNil))))) [5]) (xNil))) (xNil)))))
 (sNil)))
 (sNil)
noncomputable def law_content_i3 (a : Ads) (self : Fn) : XS :=
 sIf (xOr (xB (x2 oEq (xV 1) (xLst (xNil)))) (xB (x2 oEq (xFn (m_law_next a) (xCons (xV 0) (xCons (xC (.int 4)) (xNil)))) (xC (.int 0)))))
 (sCons (sRet (x2 oIx (xTup (xCons (xTup (xCons (xC (.str "chars")) (xNil))) (xCons (xTup (xCons (xC (.str "chars")) (xNil))) (xCons (xTup (xCons (xC (.str "empty")) (xNil))) (xNil))))) (xFn (m_law_next a) (xCons (xV 0) (xCons (xC (.int 3)) (xNil))))))
 (sNil))
 (sNil)
noncomputable def law_content_i4 (a : Ads) (self : Fn) : XS :=
 sIf (xOr (xB (x2 oEq (xV 2) (xC (.int 0)))) (xB (x2 oLt (xV 3) (xC (.int 3)))))
 (sCons (law_content_i3 a self)
 (sCons (sRet (xTup (xCons (xC (.str "type")) (xCons (x2 oIx (xV 1) (xFn (m_law_next a) (xCons (xV 0) (xCons (xCall fLen (xCons (xV 1) (xNil))) (xNil))))) (xNil)))))
 (sNil)))
 (sNil)
noncomputable def f_law_content (a : Ads) (self : Fn) : XS :=
 sCons (sSet 3 (xFn (m_law_next a) (xCons (xV 0) (xCons (xC (.int 10)) (xNil)))))
 (sCons (law_content_i4 a self)
 (sCons (law_content_i2 a self)
 (sCons (law_content_i1 a self)
 (sCons (sRet (xTup (xCons (x2 oIx (xTup (xCons (xC (.str "star")) (xCons (xC (.str "plus")) (xCons (xC (.str "maybe")) (xNil))))) (xFn (m_law_next a) (xCons (xV 0) (xCons (xC (.int 3)) (xNil))))) (xCons (xFn (self) (xCons (xV 0) (xCons (xV 1) (xCons (x2 oSub (xV 2) (xC (.int 1))) (xNil))))) (xNil)))))
 (sNil)))))
noncomputable def m_law_content (a : Ads) : Nat → Fn
  | 0 => fun _ _ => .no
  | n + 1 => runB 6 (f_law_content a (m_law_content a n))
noncomputable def law_text_i1 (a : Ads) (self : Fn) : XS :=
 sIf (xB (x2 oIn (xV 2) (xTup (xCons (xC (.str "star")) (xCons (xC (.str "plus")) (xCons (xC (.str "maybe")) (xNil)))))))
 (sCons (sRet (x2 oAdd (xFn (self) (xCons (x2 oIx (xV 0) (xC (.int 1))) (xCons (xC (.str "sign")) (xNil)))) (x2 oGet (xDispC [(.inr "star", (.str "*")), (.inr "plus", (.str "+")), (.inr "maybe", (.str "?"))]) (xV 2))))
 (sNil))
 (sNil)
noncomputable def law_text_i2 (a : Ads) (self : Fn) : XS :=
 sIf (xB (x2 oEq (xV 2) (xC (.str "seq"))))
 (sCons (sSet 3 (xMt isStr mJoin (xC (.str ", ")) (xCons (xLc (xIt (x2 oIx (xV 0) (xC (.int 1)))) (gN 4) (xYes) (xFn (self) (xCons (xV 4) (xCons (xC (.str "seq")) (xNil)))) [4]) (xNil))))
 (sCons (sRet (xIte (xB (x2 oIn (xV 1) (xTup (xCons (xC (.str "")) (xCons (xC (.str "or")) (xNil)))))) (xV 3) (x2 oAdd (x2 oAdd (xC (.str "(")) (xV 3)) (xC (.str ")")))))
 (sNil)))
 (sNil)
noncomputable def law_text_i3 (a : Ads) (self : Fn) : XS :=
 sIf (xB (x2 oEq (xV 2) (xC (.str "or"))))
 (sCons (sSet 3 (xMt isStr mJoin (xC (.str " | ")) (xCons (xLc (xIt (x2 oIx (xV 0) (xC (.int 1)))) (gN 4) (xYes) (xFn (self) (xCons (xV 4) (xCons (xC (.str "or")) (xNil)))) [4]) (xNil))))
 (sCons (sRet (xIte (xB (x2 oEq (xV 1) (xC (.str "")))) (xV 3) (x2 oAdd (x2 oAdd (xC (.str "(")) (xV 3)) (xC (.str ")")))))
 (sNil)))
 (sNil)
noncomputable def law_text_i4 (a : Ads) (self : Fn) : XS :=
 sIf (xB (x2 oEq (xV 2) (xC (.str "type"))))
 (sCons (sRet (x2 oIx (xV 0) (xC (.int 1))))
 (sNil))
 (sNil)
noncomputable def f_law_text (a : Ads) (self : Fn) : XS :=
 sCons (sSet 2 (x2 oIx (xV 0) (xC (.int 0))))
 (sCons (law_text_i4 a self)
 (sCons (law_text_i3 a self)
 (sCons (law_text_i2 a self)
 (sCons (law_text_i1 a self)
 (sCons (sRet (xV 2))
 (sNil))))))
noncomputable def m_law_text (a : Ads) : Nat → Fn
  | 0 => fun _ _ => .no
  | n + 1 => runB 5 (f_law_text a (m_law_text a n))
noncomputable def law_wide_i1 (a : Ads) : XS :=
 sIf (xB (x2 oIn (xV 3) (xC (.str "(),|*+?"))))
 (sCons (sSet 2 (x2 oAdd (x2 oAdd (x2 oAdd (xV 2) (x2 oMulA (xC (.str " ")) (xFn (m_law_next a) (xCons (xV 0) (xCons (xC (.int 3)) (xNil)))))) (xV 3)) (x2 oMulA (xC (.str " ")) (xFn (m_law_next a) (xCons (xV 0) (xCons (xC (.int 3)) (xNil)))))))
 (sNil))
 (sCons (sSet 2 (x2 oAdd (xV 2) (xV 3)))
 (sNil))
noncomputable def law_wide_fb1 (a : Ads) : XS :=
 sCons (law_wide_i1 a)
 (sNil)
noncomputable def law_wide_f1 (a : Ads) : XS :=
 sFor (xIt (xV 1)) (gN 3) (law_wide_fb1 a)
noncomputable def f_law_wide (a : Ads) : XS :=
 sCons (sSet 2 (x2 oMulA (xC (.str " ")) (xFn (m_law_next a) (xCons (xV 0) (xCons (xC (.int 2)) (xNil))))))
 (sCons (law_wide_f1 a)
 (sCons (sRet (x2 oAdd (xV 2) (x2 oMulA (xC (.str " ")) (xFn (m_law_next a) (xCons (xV 0) (xCons (xC (.int 2)) (xNil)))))))
 (sNil)))
noncomputable def m_law_wide (a : Ads) : Fn := runB 4 (f_law_wide a)
noncomputable def law_names_i1 (a : Ads) (self : Fn) : XS :=
 sIf (xB (x2 oIn (x2 oIx (xV 0) (xC (.int 0))) (xTup (xCons (xC (.str "star")) (xCons (xC (.str "plus")) (xCons (xC (.str "maybe")) (xNil)))))))
 (sCons (sSet 1 (xFn (self) (xCons (x2 oIx (xV 0) (xC (.int 1))) (xNil))))
 (sNil))
 (sNil)
noncomputable def law_names_fb1 (a : Ads) (self : Fn) : XS :=
 sCons (sSet 1 (x2 oAdd (xV 1) (xFn (self) (xCons (xV 2) (xNil)))))
 (sNil)
noncomputable def law_names_f1 (a : Ads) (self : Fn) : XS :=
 sFor (xIt (x2 oIx (xV 0) (xC (.int 1)))) (gN 2) (law_names_fb1 a self)
noncomputable def law_names_i2 (a : Ads) (self : Fn) : XS :=
 sIf (xB (x2 oIn (x2 oIx (xV 0) (xC (.int 0))) (xTup (xCons (xC (.str "seq")) (xCons (xC (.str "or")) (xNil))))))
 (sCons (law_names_f1 a self)
 (sNil))
 (sNil)
noncomputable def law_names_i3 (a : Ads) (self : Fn) : XS :=
 sIf (xB (x2 oEq (x2 oIx (xV 0) (xC (.int 0))) (xC (.str "type"))))
 (sCons (sRet (xLst (xCons (x2 oIx (xV 0) (xC (.int 1))) (xNil))))
 (sNil))
 (sNil)
noncomputable def f_law_names (a : Ads) (self : Fn) : XS :=
 sCons (law_names_i3 a self)
 (sCons (sSet 1 (xLst (xNil)))
 (sCons (law_names_i2 a self)
 (sCons (law_names_i1 a self)
 (sCons (sRet (xV 1))
 (sNil)))))
noncomputable def m_law_names (a : Ads) : Nat → Fn
  | 0 => fun _ _ => .no
  | n + 1 => runB 3 (f_law_names a (m_law_names a n))
noncomputable def law_bent_i1 (a : Ads) : XS :=
 sIf (xB (x2 oIn (x2 oIx (xV 0) (xC (.int 0))) (xTup (xCons (xC (.str "seq")) (xCons (xC (.str "or")) (xNil))))))
 (sCons (sExpr (xMt isLst mAppend (xV 1) (xCons (xTup (xCons (x2 oIx (xV 0) (xC (.int 0))) (xCons (xSl oSlA (x2 oIx (xV 0) (xC (.int 1))) (xON) (xOS (xC (.int 1)))) (xNil)))) (xNil))))
 (sCons (sExpr (xMt isLst mAppend (xV 1) (xCons (xTup (xCons (x2 oIx (xV 0) (xC (.int 0))) (xCons (xCall fListE (xCons (x2 oIx (xV 0) (xC (.int 1))) (xNil))) (xNil)))) (xNil))))
 (sNil)))
 (sNil)
noncomputable def f_law_bent (a : Ads) : XS :=
 sCons (sSet 1 (xLst (xCons (x2 oAdd (xV 0) (xTup (xCons (xTup (xNil)) (xNil)))) (xCons (x2 oAdd (x2 oAdd (xSl oSlA (xV 0) (xON) (xOS (xC (.int 1)))) (xSl oSlA (xV 0) (xOS (xC (.int 2))) (xON))) (xTup (xCons (xC (.int 5)) (xNil)))) (xCons (x2 oAdd (xTup (xCons (xC (.str "row")) (xNil))) (xSl oSlA (xV 0) (xOS (xC (.int 1))) (xON))) (xCons (xCall fListE (xCons (xV 0) (xNil))) (xCons (x2 oIx (xV 0) (xC (.int 0))) (xNil))))))))
 (sCons (law_bent_i1 a)
 (sCons (sRet (xV 1))
 (sNil)))
noncomputable def m_law_bent (a : Ads) : Fn := runB 2 (f_law_bent a)
noncomputable def law_i1 (a : Ads) : XS :=
 sIf (xB (x2 oNotB (xFn (m_is_content a) (xCons (xV 5) (xNil))) (xC (.bl false))))
 (sCons (sRet (xC (.bl false)))
 (sNil))
 (sNil)
noncomputable def law_fb1 (a : Ads) : XS :=
 sCons (law_i1 a)
 (sNil)
noncomputable def law_f1 (a : Ads) : XS :=
 sFor (xIt (xFn (m_law_bent a) (xCons (xV 2) (xNil)))) (gN 5) (law_fb1 a)
noncomputable def law_i2 (a : Ads) : XS :=
 sIf (xB (x2 oNe (xFn (m_names_in a) (xCons (xV 2) (xNil))) (xCall fSorted (xCons (xCall fListE (xCons (xV 4) (xNil))) (xNil)))))
 (sCons (sRet (xC (.bl false)))
 (sNil))
 (sNil)
noncomputable def law_i3 (a : Ads) : XS :=
 sIf (xOr (xB (x2 oNe (xFn (m_read_content a) (xCons (xV 3) (xNil))) (xV 2))) (xB (x2 oNe (xFn (m_read_content a) (xCons (xFn (m_law_wide a) (xCons (xV 1) (xCons (xV 3) (xNil)))) (xNil))) (xV 2))))
 (sCons (sRet (xC (.bl false)))
 (sNil))
 (sNil)
noncomputable def law_i4 (a : Ads) : XS :=
 sIf (xOr (xB (x2 oNotB (xFn (m_is_content a) (xCons (xV 2) (xNil))) (xC (.bl true)))) (xOr (xNot (xTr (x1 (oIsi "str") (xV 3)))) (xB (x2 oNe (xV 3) (xFn (m_law_text a 4) (xCons (xV 2) (xCons (xC (.str "")) (xNil))))))))
 (sCons (sRet (xC (.bl false)))
 (sNil))
 (sNil)
noncomputable def f_law (a : Ads) : XS :=
 sCons (sSet 1 (xLst (xCons (xCall fListE (xCons (xV 0) (xNil))) (xCons (xC (.int 0)) (xCons (xC (.int 0)) (xCons (xC (.int 5)) (xNil)))))))
 (sCons (sSet 2 (xFn (m_law_content a 4) (xCons (xV 1) (xCons (xLst (xCons (xC (.str "a")) (xCons (xC (.str "b")) (xCons (xC (.str "c1")) (xCons (xC (.str "longname")) (xNil)))))) (xCons (xC (.int 3)) (xNil))))))
 (sCons (sSet 3 (xFn (m_print_content a) (xCons (xV 2) (xNil))))
 (sCons (law_i4 a)
 (sCons (law_i3 a)
 (sCons (sSet 4 (xCall fDict (xCons (xLc (xIt (xFn (m_law_names a 4) (xCons (xV 2) (xNil)))) (gN 6) (xYes) (xTup (xCons (xV 6) (xCons (xC (.bl true)) (xNil)))) [6]) (xNil))))
 (sCons (law_i2 a)
 (sCons (law_f1 a)
 (sCons (sRet (xAndV (xNotV (xFn (m_is_content a) (xCons (xTup (xCons (xC (.str "type")) (xCons (xC (.str "char")) (xNil)))) (xNil)))) (xAndV (xNotV (xFn (m_is_content a) (xCons (xTup (xCons (xC (.str "type")) (xCons (xC (.str "chars")) (xNil)))) (xNil)))) (xNotV (xFn (m_is_content a) (xCons (xTup (xCons (xC (.str "type")) (xCons (xC (.str "Ab")) (xNil)))) (xNil)))))))
 (sNil)))))))))
noncomputable def m_law (a : Ads) : Fn := runB 7 (f_law a)
structure Txt (K : PySem.W.Frag) (w : World) (mg : Str → Option Value) (a : Ads) : Prop where
  F_is_name : Fun K "is_name" "is_name" s_is_name a.a_is_name a.d_is_name
  b_is_name : Binds K a.d_is_name ["value"] []
  g_is_name : mg "is_name" = some (.ref a.a_is_name)
  F_is_type_name : Fun K "is_type_name" "is_type_name" s_is_type_name a.a_is_type_name a.d_is_type_name
  b_is_type_name : Binds K a.d_is_type_name ["value"] []
  g_is_type_name : mg "is_type_name" = some (.ref a.a_is_type_name)
  F_parts_within : Fun K "parts_within" "parts_within" s_parts_within a.a_parts_within a.d_parts_within
  b_parts_within : Binds K a.d_parts_within ["value"] []
  g_parts_within : mg "parts_within" = some (.ref a.a_parts_within)
  F_is_content : Fun K "is_content" "is_content" s_is_content a.a_is_content a.d_is_content
  b_is_content : Binds K a.d_is_content ["value"] []
  g_is_content : mg "is_content" = some (.ref a.a_is_content)
  F_nodes_of : Fun K "nodes_of" "nodes_of" s_nodes_of a.a_nodes_of a.d_nodes_of
  b_nodes_of : Binds K a.d_nodes_of ["content"] []
  g_nodes_of : mg "nodes_of" = some (.ref a.a_nodes_of)
  F_names_in : Fun K "names_in" "names_in" s_names_in a.a_names_in a.d_names_in
  b_names_in : Binds K a.d_names_in ["content"] []
  g_names_in : mg "names_in" = some (.ref a.a_names_in)
  F_bracketed : Fun K "bracketed" "bracketed" s_bracketed a.a_bracketed a.d_bracketed
  b_bracketed : Binds K a.d_bracketed ["part", "around"] []
  g_bracketed : mg "bracketed" = some (.ref a.a_bracketed)
  F_printed_parts : Fun K "printed_parts" "printed_parts" s_printed_parts a.a_printed_parts a.d_printed_parts
  b_printed_parts : Binds K a.d_printed_parts ["content"] []
  g_printed_parts : mg "printed_parts" = some (.ref a.a_printed_parts)
  F_print_content : Fun K "print_content" "print_content" s_print_content a.a_print_content a.d_print_content
  b_print_content : Binds K a.d_print_content ["content"] []
  g_print_content : mg "print_content" = some (.ref a.a_print_content)
  F_words_of : Fun K "words_of" "words_of" s_words_of a.a_words_of a.d_words_of
  b_words_of : Binds K a.d_words_of ["text"] []
  g_words_of : mg "words_of" = some (.ref a.a_words_of)
  F_joined : Fun K "joined" "joined" s_joined a.a_joined a.d_joined
  b_joined : Binds K a.d_joined ["kind", "parts"] []
  g_joined : mg "joined" = some (.ref a.a_joined)
  F_Level_content : Fun K "content" "Level.content" s_Level_content a.a_Level_content a.d_Level_content
  b_Level_content : Binds K a.d_Level_content ["self"] []
  F_Level_init : Fun K "__init__" "Level.__init__" s_Level_init a.a_Level_init a.d_Level_init
  b_Level_init : Binds K a.d_Level_init ["self"] []
  F_single_content : Fun K "single_content" "single_content" s_single_content a.a_single_content a.d_single_content
  b_single_content : Binds K a.d_single_content ["word", "place"] []
  g_single_content : mg "single_content" = some (.ref a.a_single_content)
  F_Level_end_row : Fun K "end_row" "Level.end_row" s_Level_end_row a.a_Level_end_row a.d_Level_end_row
  b_Level_end_row : Binds K a.d_Level_end_row ["self"] []
  F_content_of_words : Fun K "content_of_words" "content_of_words" s_content_of_words a.a_content_of_words a.d_content_of_words
  b_content_of_words : Binds K a.d_content_of_words ["words", "end"] []
  g_content_of_words : mg "content_of_words" = some (.ref a.a_content_of_words)
  F_read_content : Fun K "read_content" "read_content" s_read_content a.a_read_content a.d_read_content
  b_read_content : Binds K a.d_read_content ["text"] []
  g_read_content : mg "read_content" = some (.ref a.a_read_content)
  F_law_next : Fun K "_law_next" "_law_next" s_law_next a.a_law_next a.d_law_next
  b_law_next : Binds K a.d_law_next ["tape", "many"] []
  g_law_next : mg "_law_next" = some (.ref a.a_law_next)
  F_law_content : Fun K "_law_content" "_law_content" s_law_content a.a_law_content a.d_law_content
  b_law_content : Binds K a.d_law_content ["tape", "names", "depth"] []
  g_law_content : mg "_law_content" = some (.ref a.a_law_content)
  F_law_text : Fun K "_law_text" "_law_text" s_law_text a.a_law_text a.d_law_text
  b_law_text : Binds K a.d_law_text ["content", "outer"] []
  g_law_text : mg "_law_text" = some (.ref a.a_law_text)
  F_law_wide : Fun K "_law_wide" "_law_wide" s_law_wide a.a_law_wide a.d_law_wide
  b_law_wide : Binds K a.d_law_wide ["tape", "text"] []
  g_law_wide : mg "_law_wide" = some (.ref a.a_law_wide)
  F_law_names : Fun K "_law_names" "_law_names" s_law_names a.a_law_names a.d_law_names
  b_law_names : Binds K a.d_law_names ["content"] []
  g_law_names : mg "_law_names" = some (.ref a.a_law_names)
  F_law_bent : Fun K "_law_bent" "_law_bent" s_law_bent a.a_law_bent a.d_law_bent
  b_law_bent : Binds K a.d_law_bent ["content"] []
  g_law_bent : mg "_law_bent" = some (.ref a.a_law_bent)
  F_law : Fun K "law" "law" s_law a.a_law a.d_law
  b_law : Binds K a.d_law ["script"] []
  g_law : mg "law" = some (.ref a.a_law)
  z_abs : mg "abs" = none
  z_all : mg "all" = none
  z_dict : mg "dict" = none
  z_int : mg "int" = none
  z_isinstance : mg "isinstance" = none
  z_len : mg "len" = none
  z_list : mg "list" = none
  z_range : mg "range" = none
  z_set : mg "set" = none
  z_sorted : mg "sorted" = none
  z_str : mg "str" = none
  z_tuple : mg "tuple" = none
  c_MOST_NAME : ∃ t, mg "MOST_NAME" = some (.int 8 t)
  c_LETTERS : ∃ t, mg "LETTERS" = some (.str "abcdefghijklmnopqrstuvwxyz" t)
  c_NAME_SIGNS : ∃ t, mg "NAME_SIGNS" = some (.str "abcdefghijklmnopqrstuvwxyz0123456789" t)
  c_WORDS : ∃ u, mg "WORDS" = some u ∧ WT K (.tup [(.str "empty"), (.str "chars")]) u
  g_SEPARATORS : mg "SEPARATORS" = some (.ref a.w_SEPARATORS)
  w_SEPARATORS : WD K w a.w_SEPARATORS [("seq", (.str ", ")), ("or", (.str " | "))]
  g_KINDS_BEHIND : mg "KINDS_BEHIND" = some (.ref a.w_KINDS_BEHIND)
  w_KINDS_BEHIND : WD K w a.w_KINDS_BEHIND [("*", (.str "star")), ("+", (.str "plus")), ("?", (.str "maybe"))]
  g_SIGNS_BEHIND : mg "SIGNS_BEHIND" = some (.ref a.w_SIGNS_BEHIND)
  w_SIGNS_BEHIND : WD K w a.w_SIGNS_BEHIND [("star", (.str "*")), ("plus", (.str "+")), ("maybe", (.str "?"))]
  gc_Level : mg "Level" = some (.ref a.c_Level)
  k_Level : Cls K a.c_Level
  mk_Level : Mk K a.c_Level a.a_Level_init
  m_Level_end_row : Meth K a.c_Level "end_row" a.a_Level_end_row
  m_Level_content : Meth K a.c_Level "content" a.a_Level_content
  n_Level_choices : NoAttr K a.c_Level "choices"
  n_Level_row : NoAttr K a.c_Level "row"
@[simp] theorem lit_0 : Str.ofString "" = ⟨#[]⟩ := by decide +kernel
@[simp] theorem lit_1 : Str.ofString " " = ⟨#[32]⟩ := by decide +kernel
@[simp] theorem lit_2 : Str.ofString " | " = ⟨#[32, 124, 32]⟩ := by decide +kernel
@[simp] theorem lit_3 : Str.ofString "(" = ⟨#[40]⟩ := by decide +kernel
@[simp] theorem lit_4 : Str.ofString "(),|*+?" = ⟨#[40, 41, 44, 124, 42, 43, 63]⟩ := by decide +kernel
@[simp] theorem lit_5 : Str.ofString ")" = ⟨#[41]⟩ := by decide +kernel
@[simp] theorem lit_6 : Str.ofString "*" = ⟨#[42]⟩ := by decide +kernel
@[simp] theorem lit_7 : Str.ofString "+" = ⟨#[43]⟩ := by decide +kernel
@[simp] theorem lit_8 : Str.ofString "," = ⟨#[44]⟩ := by decide +kernel
@[simp] theorem lit_9 : Str.ofString ", " = ⟨#[44, 32]⟩ := by decide +kernel
@[simp] theorem lit_10 : Str.ofString "?" = ⟨#[63]⟩ := by decide +kernel
@[simp] theorem lit_11 : Str.ofString "Ab" = ⟨#[65, 98]⟩ := by decide +kernel
@[simp] theorem lit_12 : Str.ofString "a" = ⟨#[97]⟩ := by decide +kernel
@[simp] theorem lit_13 : Str.ofString "abcdefghijklmnopqrstuvwxyz" = ⟨#[97, 98, 99, 100, 101, 102, 103, 104, 105, 106, 107, 108, 109, 110, 111, 112, 113, 114, 115, 116, 117, 118, 119, 120, 121, 122]⟩ := by decide +kernel
@[simp] theorem lit_14 : Str.ofString "abcdefghijklmnopqrstuvwxyz0123456789" = ⟨#[97, 98, 99, 100, 101, 102, 103, 104, 105, 106, 107, 108, 109, 110, 111, 112, 113, 114, 115, 116, 117, 118, 119, 120, 121, 122, 48, 49, 50, 51, 52, 53, 54, 55, 56, 57]⟩ := by decide +kernel
@[simp] theorem lit_15 : Str.ofString "b" = ⟨#[98]⟩ := by decide +kernel
@[simp] theorem lit_16 : Str.ofString "c1" = ⟨#[99, 49]⟩ := by decide +kernel
@[simp] theorem lit_17 : Str.ofString "char" = ⟨#[99, 104, 97, 114]⟩ := by decide +kernel
@[simp] theorem lit_18 : Str.ofString "chars" = ⟨#[99, 104, 97, 114, 115]⟩ := by decide +kernel
@[simp] theorem lit_19 : Str.ofString "empty" = ⟨#[101, 109, 112, 116, 121]⟩ := by decide +kernel
@[simp] theorem lit_20 : Str.ofString "hewstream.errors" = ⟨#[104, 101, 119, 115, 116, 114, 101, 97, 109, 46, 101, 114, 114, 111, 114, 115]⟩ := by decide +kernel
@[simp] theorem lit_21 : Str.ofString "hewstream.regexes" = ⟨#[104, 101, 119, 115, 116, 114, 101, 97, 109, 46, 114, 101, 103, 101, 120, 101, 115]⟩ := by decide +kernel
@[simp] theorem lit_22 : Str.ofString "hewstream.tokens" = ⟨#[104, 101, 119, 115, 116, 114, 101, 97, 109, 46, 116, 111, 107, 101, 110, 115]⟩ := by decide +kernel
@[simp] theorem lit_23 : Str.ofString "law_hewstream_k21_texts_of_contents" = ⟨#[108, 97, 119, 95, 104, 101, 119, 115, 116, 114, 101, 97, 109, 95, 107, 50, 49, 95, 116, 101, 120, 116, 115, 95, 111, 102, 95, 99, 111, 110, 116, 101, 110, 116, 115]⟩ := by decide +kernel
@[simp] theorem lit_24 : Str.ofString "longname" = ⟨#[108, 111, 110, 103, 110, 97, 109, 101]⟩ := by decide +kernel
@[simp] theorem lit_25 : Str.ofString "maybe" = ⟨#[109, 97, 121, 98, 101]⟩ := by decide +kernel
@[simp] theorem lit_26 : Str.ofString "or" = ⟨#[111, 114]⟩ := by decide +kernel
@[simp] theorem lit_27 : Str.ofString "plus" = ⟨#[112, 108, 117, 115]⟩ := by decide +kernel
@[simp] theorem lit_28 : Str.ofString "row" = ⟨#[114, 111, 119]⟩ := by decide +kernel
@[simp] theorem lit_29 : Str.ofString "seq" = ⟨#[115, 101, 113]⟩ := by decide +kernel
@[simp] theorem lit_30 : Str.ofString "sign" = ⟨#[115, 105, 103, 110]⟩ := by decide +kernel
@[simp] theorem lit_31 : Str.ofString "star" = ⟨#[115, 116, 97, 114]⟩ := by decide +kernel
@[simp] theorem lit_32 : Str.ofString "type" = ⟨#[116, 121, 112, 101]⟩ := by decide +kernel
@[simp] theorem lit_33 : Str.ofString "|" = ⟨#[124]⟩ := by decide +kernel
theorem lits : True := trivial
section
variable {P : Program} {w : World} {K : PySem.W.Frag} {mg : Str → Option Value} {base : Heap} {a : Ads}
theorem sc_is_name : FnScope ["value", "sign"] ["value"] (defScope s_is_name) := ⟨rfl, rfl, rfl, by decide +kernel, rfl, by decide +kernel, by decide +kernel⟩
theorem ok_is_name (T : Txt K w mg a) : FnOk P w K mg base (L2.CX P w) 1 a.a_is_name a.d_is_name ["value"] (spX K 1 (m_is_name a)) :=
  ok_def (k := 0) T.F_is_name sc_is_name fun cdv A outer s H E hr cx =>
 (ss_cons (s_if (PW.pt (w_or (t_not (t_tr (e_isi (e_v 0) T.z_isinstance T.z_str))) (w_1 (t_not (t_chain op_le does_le op_le does_le (e_int) (e_cb call_len does_len T.z_len (a_cons (e_v 0) (a_nil))) (e_gint T.c_MOST_NAME.choose_spec))))))
 (ss_cons (s_ret (e_bl))
 (ss_nil))
 (ss_nil))
 (ss_cons (s_ret (e_and (e_cmp op_inAny does_in (e_ix (e_v 0) (e_int)) (e_gstr T.c_LETTERS.choose_spec) (by rfl)) (e_1 (e_cb (cr_all rfl) does_all T.z_all (a_cons (e_lc (own := [("sign", 1)]) rfl sc_is_name.nd (blkOk_by (N := ["value", "sign"]) (sc := defScope s_is_name) (by decide +kernel)) (i_it (e_v 0)) (fun _ _ _ _ _ => g_name 1 sc_is_name.nd) (fun _ _ _ _ _ => ts_nil) (fun _ _ _ _ _ => e_cmp op_inAny does_in (e_v 1) (e_gstr T.c_NAME_SIGNS.choose_spec) (by rfl))) (a_nil))))))
 (ss_nil)))
theorem sc_is_type_name : FnScope ["value"] ["value"] (defScope s_is_type_name) := ⟨rfl, rfl, rfl, by decide +kernel, rfl, by decide +kernel, by decide +kernel⟩
theorem ok_is_type_name (T : Txt K w mg a) : FnOk P w K mg base (L2.CX P w) 2 a.a_is_type_name a.d_is_type_name ["value"] (spX K 1 (m_is_type_name a)) :=
  ok_def (k := 1) T.F_is_type_name sc_is_type_name fun cdv A outer s H E hr cx =>
 (ss_cons (s_ret (e_and (e_call (ok_is_name T) cx.tk (hr.mono (by omega)) T.g_is_name T.F_is_name.kp T.b_is_name (a_cons (e_v 0) (a_nil))) (e_1 (e_cmp op_notInAny does_notIn (e_v 0) (e_tup (a_cons (e_str) (a_cons (e_str) (a_cons (e_str) (a_nil))))) (by rfl)))))
 (ss_nil))
theorem sc_parts_within : FnScope ["value", "kind", "inner"] ["value"] (defScope s_parts_within) := ⟨rfl, rfl, rfl, by decide +kernel, rfl, by decide +kernel, by decide +kernel⟩
theorem ok_parts_within (T : Txt K w mg a) : FnOk P w K mg base (L2.CX P w) 3 a.a_parts_within a.d_parts_within ["value"] (spX K 1 (m_parts_within a)) :=
  ok_def (k := 2) T.F_parts_within sc_parts_within fun cdv A outer s H E hr cx =>
 (ss_cons (s_if (PW.pt (w_or (t_not (t_tr (e_isi (e_v 0) T.z_isinstance T.z_tuple))) (w_or (t_not (t_chain op_le does_le op_le does_le (e_int) (e_cb call_len does_len T.z_len (a_cons (e_v 0) (a_nil))) (e_int))) (w_1 (t_not (t_tr (e_isi (e_ix (e_v 0) (e_int)) T.z_isinstance T.z_str)))))))
 (ss_cons (s_ret (e_non))
 (ss_nil))
 (ss_nil))
 (ss_cons (s_if (t_cmp (op_eqD (hu64 hr)) does_eq (e_cb call_len does_len T.z_len (a_cons (e_v 0) (a_nil))) (e_int) (nomark _))
 (ss_cons (s_ret (e_ite (t_cmp op_inAny does_in (e_ix (e_v 0) (e_int)) (e_gw T.c_WORDS.choose_spec.1 T.c_WORDS.choose_spec.2) (by rfl)) (e_tup (a_nil)) (e_non)))
 (ss_nil))
 (ss_nil))
 (ss_cons (s_asg (e_v 0) (g_tup rfl (gs_cons (g_name 1 sc_parts_within.nd) (gs_cons (g_name 2 sc_parts_within.nd) (gs_nil)))))
 (ss_cons (s_if (t_cmp (op_eqD (hu64 hr)) does_eq (e_v 1) (e_str) (nomark _))
 (ss_cons (s_ret (e_ite (t_tr (e_call (ok_is_type_name T) cx.tk (hr.mono (by omega)) T.g_is_type_name T.F_is_type_name.kp T.b_is_type_name (a_cons (e_v 2) (a_nil)))) (e_tup (a_nil)) (e_non)))
 (ss_nil))
 (ss_nil))
 (ss_cons (s_if (t_pc (c_win T.g_SEPARATORS T.w_SEPARATORS (e_v 1)))
 (ss_cons (s_ret (e_ite (PW.pt (w_and (t_tr (e_isi (e_v 2) T.z_isinstance T.z_tuple)) (w_1 (t_cmp op_ge does_ge (e_cb call_len does_len T.z_len (a_cons (e_v 2) (a_nil))) (e_int) (nomark _))))) (e_v 2) (e_non)))
 (ss_nil))
 (ss_nil))
 (ss_cons (s_ret (e_ite (t_pc (c_win T.g_SIGNS_BEHIND T.w_SIGNS_BEHIND (e_v 1))) (e_tup (a_cons (e_v 2) (a_nil))) (e_non)))
 (ss_nil)))))))
theorem sc_is_content : FnScope ["value", "todo", "inner"] ["value"] (defScope s_is_content) := ⟨rfl, rfl, rfl, by decide +kernel, rfl, by decide +kernel, by decide +kernel⟩
theorem ok_is_content (T : Txt K w mg a) : FnOk P w K mg base (L2.CX P w) 4 a.a_is_content a.d_is_content ["value"] (spX K 1 (m_is_content a)) :=
  ok_def (k := 3) T.F_is_content sc_is_content fun cdv A outer s H E hr cx =>
 (ss_cons (s_set 1 sc_is_content.nd (e_lst (a_cons (e_v 0) (a_nil))))
 (ss_cons (s_while cx.own (t_tr (e_v 1))
 (ss_cons (s_set 2 sc_is_content.nd (e_call (ok_parts_within T) cx.tk (hr.mono (by omega)) T.g_parts_within T.F_parts_within.kp T.b_parts_within (a_cons (e_mt0 PySem.F.plainAttrs_list PySem.F.slot_list_pop PySem.F.type_list_pop mt_pop does_pop recv_lst (e_v 1)) (a_nil))))
 (ss_cons (s_if (t_cmp op_isN1 does_isN (e_v 2) (e_non) (nomark _))
 (ss_cons (s_ret (e_bl))
 (ss_nil))
 (ss_nil))
 (ss_cons (s_expr (e_mt PySem.F.plainAttrs_list PySem.F.slot_list_extend PySem.F.type_list_extend mt_extendD does_extend recv_lst (e_v 1) (a_cons (e_v 2) (a_nil))))
 (ss_nil)))))
 (ss_cons (s_ret (e_bl))
 (ss_nil))))
theorem sc_nodes_of : FnScope ["content", "nodes", "found", "part", "inner", "name"] ["content"] (defScope s_nodes_of) := ⟨rfl, rfl, rfl, by decide +kernel, rfl, by decide +kernel, by decide +kernel⟩
theorem ok_nodes_of (T : Txt K w mg a) : FnOk P w K mg base (L2.CX P w) 4 a.a_nodes_of a.d_nodes_of ["content"] (spX K 1 (m_nodes_of a)) :=
  ok_def (k := 3) T.F_nodes_of sc_nodes_of fun cdv A outer s H E hr cx =>
 (ss_cons (s_set 1 sc_nodes_of.nd (e_lst (a_nil)))
 (ss_cons (s_set 2 sc_nodes_of.nd (e_lst (a_cons (e_v 0) (a_nil))))
 (ss_cons (s_while cx.own (t_cmp op_ltD does_ltD (e_cb call_len does_len T.z_len (a_cons (e_v 1) (a_nil))) (e_cb call_len does_len T.z_len (a_cons (e_v 2) (a_nil))) (nomark _))
 (ss_cons (s_set 3 sc_nodes_of.nd (e_ix (e_v 2) (e_cb call_len does_len T.z_len (a_cons (e_v 1) (a_nil)))))
 (ss_cons (s_set 4 sc_nodes_of.nd (e_call (ok_parts_within T) cx.tk (hr.mono (by omega)) T.g_parts_within T.F_parts_within.kp T.b_parts_within (a_cons (e_v 3) (a_nil))))
 (ss_cons (s_set 5 sc_nodes_of.nd (e_ite (t_cmp (op_eqD (hu64 hr)) does_eq (e_ix (e_v 3) (e_int)) (e_str) (nomark _)) (e_ix (e_v 3) (e_int)) (e_str)))
 (ss_cons (s_expr (e_mt PySem.F.plainAttrs_list PySem.F.slot_list_append PySem.F.type_list_append mt_append does_append recv_lst (e_v 1) (a_cons (e_tup (a_cons (e_ix (e_v 3) (e_int)) (a_cons (e_v 5) (a_cons (e_tupRg2 T.z_tuple T.z_range rfl (e_cb call_len does_len T.z_len (a_cons (e_v 2) (a_nil))) (e_op op_addD does_addD (e_cb call_len does_len T.z_len (a_cons (e_v 2) (a_nil))) (e_cb call_len does_len T.z_len (a_cons (e_v 4) (a_nil))))) (a_nil))))) (a_nil))))
 (ss_cons (s_expr (e_mt PySem.F.plainAttrs_list PySem.F.slot_list_extend PySem.F.type_list_extend mt_extendD does_extend recv_lst (e_v 2) (a_cons (e_v 4) (a_nil))))
 (ss_nil)))))))
 (ss_cons (s_ret (e_v 1))
 (ss_nil)))))
theorem sc_names_in : FnScope ["content", "kind", "name", "_"] ["content"] (defScope s_names_in) := ⟨rfl, rfl, rfl, by decide +kernel, rfl, by decide +kernel, by decide +kernel⟩
theorem ok_names_in (T : Txt K w mg a) : FnOk P w K mg base (L2.CX P w) 5 a.a_names_in a.d_names_in ["content"] (spX K 1 (m_names_in a)) :=
  ok_def (k := 4) T.F_names_in sc_names_in fun cdv A outer s H E hr cx =>
 (ss_cons (s_ret (e_sorSet T.z_sorted T.z_set rfl (e_lc (own := [("kind", 1), ("name", 2), ("_", 3)]) rfl sc_names_in.nd (blkOk_by (N := ["content", "kind", "name", "_"]) (sc := defScope s_names_in) (by decide +kernel)) (i_it (e_call (ok_nodes_of T) cx.tk (hr.mono (by omega)) T.g_nodes_of T.F_nodes_of.kp T.b_nodes_of (a_cons (e_v 0) (a_nil)))) (fun _ _ _ _ _ => g_tup rfl (gs_cons (g_name 1 sc_names_in.nd) (gs_cons (g_name 2 sc_names_in.nd) (gs_cons (g_name 3 sc_names_in.nd) (gs_nil))))) (fun _ _ _ _ _ => ts_one (t_cmp (op_eqD (hu64 hr)) does_eq (e_v 1) (e_str) (nomark _))) (fun _ _ _ _ _ => e_v 2))))
 (ss_nil))
theorem sc_bracketed : FnScope ["part", "around"] ["part", "around"] (defScope s_bracketed) := ⟨rfl, rfl, rfl, by decide +kernel, rfl, by decide +kernel, by decide +kernel⟩
theorem ok_bracketed (T : Txt K w mg a) : FnOk P w K mg base (L2.CX P w) 1 a.a_bracketed a.d_bracketed ["part", "around"] (spX K 2 (m_bracketed a)) :=
  ok_def (k := 0) T.F_bracketed sc_bracketed fun cdv A outer s H E hr cx =>
 (ss_cons (s_if (PW.pt (w_or (t_cmp (op_eqD (hu64 hr)) does_eq (e_ix (e_v 0) (e_int)) (e_str) (nomark _)) (w_1 (PW.pt (w_and (t_cmp (op_eqD (hu64 hr)) does_eq (e_ix (e_v 0) (e_int)) (e_str) (nomark _)) (w_1 (t_cmp (op_neD (hu64 hr)) does_ne (e_v 1) (e_str) (nomark _))))))))
 (ss_cons (s_ret (e_lst (a_cons (e_str) (a_cons (e_v 0) (a_cons (e_str) (a_nil))))))
 (ss_nil))
 (ss_nil))
 (ss_cons (s_ret (e_lst (a_cons (e_v 0) (a_nil))))
 (ss_nil)))
theorem sc_printed_parts : FnScope ["content", "kind", "found", "part"] ["content"] (defScope s_printed_parts) := ⟨rfl, rfl, rfl, by decide +kernel, rfl, by decide +kernel, by decide +kernel⟩
theorem ok_printed_parts (T : Txt K w mg a) : FnOk P w K mg base (L2.CX P w) 2 a.a_printed_parts a.d_printed_parts ["content"] (spX K 1 (m_printed_parts a)) :=
  ok_def (k := 1) T.F_printed_parts sc_printed_parts fun cdv A outer s H E hr cx =>
 (ss_cons (s_set 1 sc_printed_parts.nd (e_ix (e_v 0) (e_int)))
 (ss_cons (s_if (t_cmp op_inAny does_in (e_v 1) (e_gw T.c_WORDS.choose_spec.1 T.c_WORDS.choose_spec.2) (by rfl))
 (ss_cons (s_ret (e_lst (a_cons (e_v 1) (a_nil))))
 (ss_nil))
 (ss_nil))
 (ss_cons (s_if (t_cmp (op_eqD (hu64 hr)) does_eq (e_v 1) (e_str) (nomark _))
 (ss_cons (s_ret (e_lst (a_cons (e_ix (e_v 0) (e_int)) (a_nil))))
 (ss_nil))
 (ss_nil))
 (ss_cons (s_if (t_pc (c_win T.g_SIGNS_BEHIND T.w_SIGNS_BEHIND (e_v 1)))
 (ss_cons (s_ret (e_op op_addD does_addD (e_call (ok_bracketed T) cx.tk (hr.mono (by omega)) T.g_bracketed T.F_bracketed.kp T.b_bracketed (a_cons (e_ix (e_v 0) (e_int)) (a_cons (e_v 1) (a_nil)))) (e_lst (a_cons (e_wget T.g_SIGNS_BEHIND T.w_SIGNS_BEHIND (e_v 1)) (a_nil)))))
 (ss_nil))
 (ss_nil))
 (ss_cons (s_set 2 sc_printed_parts.nd (e_lst (a_nil)))
 (ss_cons (s_for cx.own rfl (i_it (e_ix (e_v 0) (e_int))) (g_name 3 sc_printed_parts.nd)
 (ss_cons (s_if (t_tr (e_v 2))
 (ss_cons (s_expr (e_mt PySem.F.plainAttrs_list PySem.F.slot_list_append PySem.F.type_list_append mt_append does_append recv_lst (e_v 2) (a_cons (e_wget T.g_SEPARATORS T.w_SEPARATORS (e_v 1)) (a_nil))))
 (ss_nil))
 (ss_nil))
 (ss_cons (s_expr (e_mt PySem.F.plainAttrs_list PySem.F.slot_list_extend PySem.F.type_list_extend mt_extendD does_extend recv_lst (e_v 2) (a_cons (e_call (ok_bracketed T) cx.tk (hr.mono (by omega)) T.g_bracketed T.F_bracketed.kp T.b_bracketed (a_cons (e_v 3) (a_cons (e_v 1) (a_nil)))) (a_nil))))
 (ss_nil))))
 (ss_cons (s_ret (e_v 2))
 (ss_nil))))))))
theorem sc_print_content : FnScope ["content", "words", "todo", "part"] ["content"] (defScope s_print_content) := ⟨rfl, rfl, rfl, by decide +kernel, rfl, by decide +kernel, by decide +kernel⟩
theorem ok_print_content (T : Txt K w mg a) : FnOk P w K mg base (L2.CX P w) 3 a.a_print_content a.d_print_content ["content"] (spX K 1 (m_print_content a)) :=
  ok_def (k := 2) T.F_print_content sc_print_content fun cdv A outer s H E hr cx =>
 (ss_cons (s_set 1 sc_print_content.nd (e_lst (a_nil)))
 (ss_cons (s_set 2 sc_print_content.nd (e_lst (a_cons (e_v 0) (a_nil))))
 (ss_cons (s_while cx.own (t_tr (e_v 2))
 (ss_cons (s_set 3 sc_print_content.nd (e_mt0 PySem.F.plainAttrs_list PySem.F.slot_list_pop PySem.F.type_list_pop mt_pop does_pop recv_lst (e_v 2)))
 (ss_cons (s_if (t_tr (e_isi (e_v 3) T.z_isinstance T.z_str))
 (ss_cons (s_expr (e_mt PySem.F.plainAttrs_list PySem.F.slot_list_append PySem.F.type_list_append mt_append does_append recv_lst (e_v 1) (a_cons (e_v 3) (a_nil))))
 (ss_nil))
 (ss_cons (s_expr (e_mt PySem.F.plainAttrs_list PySem.F.slot_list_extend PySem.F.type_list_extend mt_extendD does_extend recv_lst (e_v 2) (a_cons (e_revL (e_call (ok_printed_parts T) cx.tk (hr.mono (by omega)) T.g_printed_parts T.F_printed_parts.kp T.b_printed_parts (a_cons (e_v 3) (a_nil)))) (a_nil))))
 (ss_nil)))
 (ss_nil))))
 (ss_cons (s_ret (e_mt PySem.F.plainAttrs_str PySem.F.slot_str_join PySem.F.type_str_join mt_joinR does_join recv_str (e_str) (a_cons (e_v 1) (a_nil))))
 (ss_nil)))))
theorem sc_words_of : FnScope ["text", "words", "begin", "end"] ["text"] (defScope s_words_of) := ⟨rfl, rfl, rfl, by decide +kernel, rfl, by decide +kernel, by decide +kernel⟩
theorem ok_words_of (T : Txt K w mg a) : FnOk P w K mg base (L2.CX P w) 1 a.a_words_of a.d_words_of ["text"] (spX K 1 (m_words_of a)) :=
  ok_def (k := 0) T.F_words_of sc_words_of fun cdv A outer s H E hr cx =>
 (ss_cons (s_set 1 sc_words_of.nd (e_lst (a_nil)))
 (ss_cons (s_set 2 sc_words_of.nd (e_int))
 (ss_cons (s_while cx.own (t_cmp op_ltD does_ltD (e_v 2) (e_cb call_len does_len T.z_len (a_cons (e_v 0) (a_nil))) (nomark _))
 (ss_cons (s_set 3 sc_words_of.nd (e_op op_addD does_addD (e_v 2) (e_int)))
 (ss_cons (s_if (t_cmp op_inAny does_in (e_ix (e_v 0) (e_v 2)) (e_gstr T.c_NAME_SIGNS.choose_spec) (by rfl))
 (ss_cons (s_while cx.own (PW.pt (w_and (t_cmp op_ltD does_ltD (e_v 3) (e_cb call_len does_len T.z_len (a_cons (e_v 0) (a_nil))) (nomark _)) (w_1 (t_cmp op_inAny does_in (e_ix (e_v 0) (e_v 3)) (e_gstr T.c_NAME_SIGNS.choose_spec) (by rfl)))))
 (ss_cons (s_aug 3 ip_add ip_I0 sc_words_of.nd (e_int))
 (ss_nil)))
 (ss_nil))
 (ss_nil))
 (ss_cons (s_if (t_cmp (op_neD (hu64 hr)) does_ne (e_ix (e_v 0) (e_v 2)) (e_str) (nomark _))
 (ss_cons (s_expr (e_mt PySem.F.plainAttrs_list PySem.F.slot_list_append PySem.F.type_list_append mt_append does_append recv_lst (e_v 1) (a_cons (e_tup (a_cons (e_slA (e_v 0) (o_some (e_v 2)) (o_some (e_v 3))) (a_cons (e_op op_addD does_addD (e_v 2) (e_int)) (a_nil)))) (a_nil))))
 (ss_nil))
 (ss_nil))
 (ss_cons (s_set 2 sc_words_of.nd (e_v 3))
 (ss_nil))))))
 (ss_cons (s_ret (e_v 1))
 (ss_nil)))))
theorem sc_joined : FnScope ["kind", "parts"] ["kind", "parts"] (defScope s_joined) := ⟨rfl, rfl, rfl, by decide +kernel, rfl, by decide +kernel, by decide +kernel⟩
theorem ok_joined (T : Txt K w mg a) : FnOk P w K mg base (L2.CX P w) 1 a.a_joined a.d_joined ["kind", "parts"] (spX K 2 (m_joined a)) :=
  ok_def (k := 0) T.F_joined sc_joined fun cdv A outer s H E hr cx =>
 (ss_cons (s_ret (e_ite (t_cmp (op_eqD (hu64 hr)) does_eq (e_cb call_len does_len T.z_len (a_cons (e_v 1) (a_nil))) (e_int) (nomark _)) (e_ix (e_v 1) (e_int)) (e_tup (a_cons (e_v 0) (a_cons (e_ct call_tuple_of does_tuple T.z_tuple (a_cons (e_v 1) (a_nil))) (a_nil))))))
 (ss_nil))
theorem sc_Level_content : FnScope ["self"] ["self"] (defScope s_Level_content) := ⟨rfl, rfl, rfl, by decide +kernel, rfl, by decide +kernel, by decide +kernel⟩
theorem ok_Level_content (T : Txt K w mg a) : FnOk P w K mg base (L2.CX P w) 2 a.a_Level_content a.d_Level_content ["self"] (spX K 1 (m_Level_content a)) :=
  ok_def (k := 1) T.F_Level_content sc_Level_content fun cdv A outer s H E hr cx =>
 (ss_cons (s_ret (e_call (ok_joined T) cx.tk (hr.mono (by omega)) T.g_joined T.F_joined.kp T.b_joined (a_cons (e_str) (a_cons (e_op op_addD does_addD (e_fld T.k_Level T.n_Level_choices (e_v 0)) (e_lst (a_cons (e_call (ok_joined T) cx.tk (hr.mono (by omega)) T.g_joined T.F_joined.kp T.b_joined (a_cons (e_str) (a_cons (e_fld T.k_Level T.n_Level_row (e_v 0)) (a_nil)))) (a_nil)))) (a_nil)))))
 (ss_nil))
theorem sc_Level_init : FnScope ["self"] ["self"] (defScope s_Level_init) := ⟨rfl, rfl, rfl, by decide +kernel, rfl, by decide +kernel, by decide +kernel⟩
theorem ok_Level_init (T : Txt K w mg a) : FnOk P w K mg base (L2.CX P w) 1 a.a_Level_init a.d_Level_init ["self"] (spX K 1 (m_Level_init a)) :=
  ok_def (k := 0) T.F_Level_init sc_Level_init fun cdv A outer s H E hr cx =>
 (ss_cons (s_fld T.k_Level T.n_Level_choices (e_v 0) (e_lst (a_nil)))
 (ss_cons (s_fld T.k_Level T.n_Level_row (e_v 0) (e_lst (a_nil)))
 (ss_nil)))
theorem sc_single_content : FnScope ["word", "place"] ["word", "place"] (defScope s_single_content) := ⟨rfl, rfl, rfl, by decide +kernel, rfl, by decide +kernel, by decide +kernel⟩
theorem ok_single_content (T : Txt K w mg a) : FnOk P w K mg base (L2.CX P w) 3 a.a_single_content a.d_single_content ["word", "place"] (spX K 2 (m_single_content a)) :=
  ok_def (k := 2) T.F_single_content sc_single_content fun cdv A outer s H E hr cx =>
 (ss_cons (s_if (t_cmp op_inAny does_in (e_v 0) (e_gw T.c_WORDS.choose_spec.1 T.c_WORDS.choose_spec.2) (by rfl))
 (ss_cons (s_ret (e_tup (a_cons (e_v 0) (a_nil))))
 (ss_nil))
 (ss_nil))
 (ss_cons (s_if (t_not (t_tr (e_call (ok_is_type_name T) cx.tk (hr.mono (by omega)) T.g_is_type_name T.F_is_type_name.kp T.b_is_type_name (a_cons (e_v 0) (a_nil)))))
 (ss_cons (s_never)
 (ss_nil))
 (ss_nil))
 (ss_cons (s_ret (e_tup (a_cons (e_str) (a_cons (e_v 0) (a_nil)))))
 (ss_nil))))
theorem sc_Level_end_row : FnScope ["self"] ["self"] (defScope s_Level_end_row) := ⟨rfl, rfl, rfl, by decide +kernel, rfl, by decide +kernel, by decide +kernel⟩
theorem ok_Level_end_row (T : Txt K w mg a) : FnOk P w K mg base (L2.CX P w) 2 a.a_Level_end_row a.d_Level_end_row ["self"] (spX K 1 (m_Level_end_row a)) :=
  ok_def (k := 1) T.F_Level_end_row sc_Level_end_row fun cdv A outer s H E hr cx =>
 (ss_cons (s_expr (e_mt PySem.F.plainAttrs_list PySem.F.slot_list_append PySem.F.type_list_append mt_append does_append recv_lst (e_fld T.k_Level T.n_Level_choices (e_v 0)) (a_cons (e_call (ok_joined T) cx.tk (hr.mono (by omega)) T.g_joined T.F_joined.kp T.b_joined (a_cons (e_str) (a_cons (e_fld T.k_Level T.n_Level_row (e_v 0)) (a_nil)))) (a_nil))))
 (ss_cons (s_fld T.k_Level T.n_Level_row (e_v 0) (e_lst (a_nil)))
 (ss_nil)))
theorem sc_content_of_words : FnScope ["words", "end", "levels", "wanted", "word", "place", "level"] ["words", "end"] (defScope s_content_of_words) := ⟨rfl, rfl, rfl, by decide +kernel, rfl, by decide +kernel, by decide +kernel⟩
theorem ok_content_of_words (T : Txt K w mg a) : FnOk P w K mg base (L2.CX P w) 4 a.a_content_of_words a.d_content_of_words ["words", "end"] (spX K 2 (m_content_of_words a)) :=
  ok_def (k := 3) T.F_content_of_words sc_content_of_words fun cdv A outer s H E hr cx =>
 (ss_cons (s_set 2 sc_content_of_words.nd (e_lst (a_cons (e_make0 T.mk_Level (ok_Level_init T) cx.tk (hr.mono (by omega)) T.gc_Level T.b_Level_init) (a_nil))))
 (ss_cons (s_set 3 sc_content_of_words.nd (e_bl))
 (ss_cons (s_for cx.own rfl (i_it (e_v 0)) (g_tup rfl (gs_cons (g_name 4 sc_content_of_words.nd) (gs_cons (g_name 5 sc_content_of_words.nd) (gs_nil))))
 (ss_cons (s_set 6 sc_content_of_words.nd (e_ix (e_v 2) (e_un un_neg does_neg (e_int) (fun _ h => pe_un un_neg h))))
 (ss_cons (s_if (PW.pt (w_and (t_tr (e_v 3)) (w_1 (t_cmp (op_eqD (hu64 hr)) does_eq (e_v 4) (e_str) (nomark _)))))
 (ss_cons (s_expr (e_mt PySem.F.plainAttrs_list PySem.F.slot_list_append PySem.F.type_list_append mt_append does_append recv_lst (e_v 2) (a_cons (e_make0 T.mk_Level (ok_Level_init T) cx.tk (hr.mono (by omega)) T.gc_Level T.b_Level_init) (a_nil))))
 (ss_nil))
 (ss_cons (s_if (t_tr (e_v 3))
 (ss_cons (s_expr (e_mt PySem.F.plainAttrs_list PySem.F.slot_list_append PySem.F.type_list_append mt_append does_append recv_lst (e_fld T.k_Level T.n_Level_row (e_v 6)) (a_cons (e_call (ok_single_content T) cx.tk (hr.mono (by omega)) T.g_single_content T.F_single_content.kp T.b_single_content (a_cons (e_v 4) (a_cons (e_v 5) (a_nil)))) (a_nil))))
 (ss_cons (s_set 3 sc_content_of_words.nd (e_bl))
 (ss_nil)))
 (ss_cons (s_if (t_pc (c_win T.g_KINDS_BEHIND T.w_KINDS_BEHIND (e_v 4)))
 (ss_cons (s_subL (e_fld T.k_Level T.n_Level_row (e_v 6)) (e_un un_neg does_neg (e_int) (fun _ h => pe_un un_neg h)) (e_tup (a_cons (e_wget T.g_KINDS_BEHIND T.w_KINDS_BEHIND (e_v 4)) (a_cons (e_ix (e_fld T.k_Level T.n_Level_row (e_v 6)) (e_un un_neg does_neg (e_int) (fun _ h => pe_un un_neg h))) (a_nil)))))
 (ss_nil))
 (ss_cons (s_if (t_cmp (op_eqD (hu64 hr)) does_eq (e_v 4) (e_str) (nomark _))
 (ss_cons (s_set 3 sc_content_of_words.nd (e_bl))
 (ss_nil))
 (ss_cons (s_if (t_cmp (op_eqD (hu64 hr)) does_eq (e_v 4) (e_str) (nomark _))
 (ss_cons (s_expr (e_meth0 T.k_Level T.m_Level_end_row (ok_Level_end_row T) cx.tk (hr.mono (by omega)) T.b_Level_end_row (e_v 6)))
 (ss_cons (s_set 3 sc_content_of_words.nd (e_bl))
 (ss_nil)))
 (ss_cons (s_if (PW.pt (w_and (t_cmp (op_eqD (hu64 hr)) does_eq (e_v 4) (e_str) (nomark _)) (w_1 (t_cmp op_gt does_gt (e_cb call_len does_len T.z_len (a_cons (e_v 2) (a_nil))) (e_int) (nomark _)))))
 (ss_cons (s_expr (e_mt0 PySem.F.plainAttrs_list PySem.F.slot_list_pop PySem.F.type_list_pop mt_pop does_pop recv_lst (e_v 2)))
 (ss_cons (s_expr (e_mt PySem.F.plainAttrs_list PySem.F.slot_list_append PySem.F.type_list_append mt_append does_append recv_lst (e_fld T.k_Level T.n_Level_row (e_ix (e_v 2) (e_un un_neg does_neg (e_int) (fun _ h => pe_un un_neg h)))) (a_cons (e_meth0 T.k_Level T.m_Level_content (ok_Level_content T) cx.tk (hr.mono (by omega)) T.b_Level_content (e_v 6)) (a_nil))))
 (ss_nil)))
 (ss_cons (s_never)
 (ss_nil)))
 (ss_nil)))
 (ss_nil)))
 (ss_nil)))
 (ss_nil)))
 (ss_nil)))
 (ss_nil))))
 (ss_cons (s_if (PW.pt (w_or (t_tr (e_v 3)) (w_1 (t_cmp op_gt does_gt (e_cb call_len does_len T.z_len (a_cons (e_v 2) (a_nil))) (e_int) (nomark _)))))
 (ss_cons (s_never)
 (ss_nil))
 (ss_nil))
 (ss_cons (s_ret (e_meth0 T.k_Level T.m_Level_content (ok_Level_content T) cx.tk (hr.mono (by omega)) T.b_Level_content (e_ix (e_v 2) (e_int))))
 (ss_nil))))))
theorem sc_read_content : FnScope ["text"] ["text"] (defScope s_read_content) := ⟨rfl, rfl, rfl, by decide +kernel, rfl, by decide +kernel, by decide +kernel⟩
theorem ok_read_content (T : Txt K w mg a) : FnOk P w K mg base (L2.CX P w) 5 a.a_read_content a.d_read_content ["text"] (spX K 1 (m_read_content a)) :=
  ok_def (k := 4) T.F_read_content sc_read_content fun cdv A outer s H E hr cx =>
 (ss_cons (s_ret (e_call (ok_content_of_words T) cx.tk (hr.mono (by omega)) T.g_content_of_words T.F_content_of_words.kp T.b_content_of_words (a_cons (e_call (ok_words_of T) cx.tk (hr.mono (by omega)) T.g_words_of T.F_words_of.kp T.b_words_of (a_cons (e_v 0) (a_nil))) (a_cons (e_op op_addD does_addD (e_cb call_len does_len T.z_len (a_cons (e_v 0) (a_nil))) (e_int)) (a_nil)))))
 (ss_nil))
theorem sc_law_next : FnScope ["tape", "many", "rest", "cell"] ["tape", "many"] (defScope s_law_next) := ⟨rfl, rfl, rfl, by decide +kernel, rfl, by decide +kernel, by decide +kernel⟩
theorem ok_law_next (T : Txt K w mg a) : FnOk P w K mg base (L2.CX P w) 1 a.a_law_next a.d_law_next ["tape", "many"] (spX K 2 (m_law_next a)) :=
  ok_def (k := 0) T.F_law_next sc_law_next fun cdv A outer s H E hr cx =>
 (ss_cons (s_set 2 sc_law_next.nd (e_ix (e_v 0) (e_int)))
 (ss_cons (s_if (t_cmp op_gt does_gt (e_v 2) (e_int) (nomark _))
 (ss_cons (s_subL (e_v 0) (e_int) (e_op op_fdiv does_div (e_v 2) (e_v 1)))
 (ss_cons (s_ret (e_op op_mod does_mod (e_ct call_int1 does_int T.z_int (a_cons (e_v 2) (a_nil))) (e_v 1)))
 (ss_nil)))
 (ss_nil))
 (ss_cons (s_set 3 sc_law_next.nd (e_int))
 (ss_cons (s_if (t_cmp op_ltD does_ltD (e_ix (e_v 0) (e_int)) (e_cb call_len does_len T.z_len (a_cons (e_ix (e_v 0) (e_int)) (a_nil))) (nomark _))
 (ss_cons (s_set 3 sc_law_next.nd (e_cb call_abs does_abs T.z_abs (a_cons (e_ix (e_ix (e_v 0) (e_int)) (e_ix (e_v 0) (e_int))) (a_nil))))
 (ss_cons (s_augL ip_add ip_I0 (e_v 0) (e_int) (e_int))
 (ss_nil)))
 (ss_nil))
 (ss_cons (s_if (t_cmp op_ge does_ge (e_v 3) (e_op op_pow does_pow (e_int) (e_int)) (nomark _))
 (ss_cons (s_subL (e_v 0) (e_int) (e_op op_fdiv does_div (e_v 3) (e_v 1)))
 (ss_cons (s_ret (e_op op_mod does_mod (e_ct call_int1 does_int T.z_int (a_cons (e_v 3) (a_nil))) (e_v 1)))
 (ss_nil)))
 (ss_nil))
 (ss_cons (s_subL (e_v 0) (e_int) (e_op op_mod does_mod (e_ct call_int1 does_int T.z_int (a_cons (e_op op_addD does_addD (e_op op_addD does_addD (e_op op_mulA does_mulA (e_ix (e_v 0) (e_int)) (e_int)) (e_op op_mulA does_mulA (e_v 3) (e_int))) (e_int)) (a_nil))) (e_int)))
 (ss_cons (s_ret (e_op op_mod does_mod (e_ct call_int1 does_int T.z_int (a_cons (e_op op_fdiv does_div (e_op op_mod does_mod (e_op op_mulA does_mulA (e_ix (e_v 0) (e_int)) (e_int)) (e_int)) (e_int)) (a_nil))) (e_v 1)))
 (ss_nil))))))))
theorem sc_law_content : FnScope ["tape", "names", "depth", "kind", "many", "k"] ["tape", "names", "depth"] (defScope s_law_content) := ⟨rfl, rfl, rfl, by decide +kernel, rfl, by decide +kernel, by decide +kernel⟩
theorem ok_law_content (T : Txt K w mg a) : ∀ n : Nat, FnOk P w K mg base (L2.CX P w) (1 + n) a.a_law_content a.d_law_content ["tape", "names", "depth"] (spX K 3 (m_law_content a n))
  | 0 => FnOk.none
  | n + 1 => by
    have ih := ok_law_content T n
    exact ok_def (k := 1 + n) T.F_law_content sc_law_content fun cdv A outer s H E hr cx =>
 (ss_cons (s_set 3 sc_law_content.nd (e_call (ok_law_next T) cx.tk (hr.mono (by omega)) T.g_law_next T.F_law_next.kp T.b_law_next (a_cons (e_v 0) (a_cons (e_int) (a_nil)))))
 (ss_cons (s_if (PW.pt (w_or (t_cmp (op_eqD (hu64 hr)) does_eq (e_v 2) (e_int) (nomark _)) (w_1 (t_cmp op_ltD does_ltD (e_v 3) (e_int) (nomark _)))))
 (ss_cons (s_if (PW.pt (w_or (t_cmp (op_eqD (hu64 hr)) does_eq (e_v 1) (e_lst (a_nil)) (nomark _)) (w_1 (t_cmp (op_eqD (hu64 hr)) does_eq (e_call (ok_law_next T) cx.tk (hr.mono (by omega)) T.g_law_next T.F_law_next.kp T.b_law_next (a_cons (e_v 0) (a_cons (e_int) (a_nil)))) (e_int) (nomark _)))))
 (ss_cons (s_ret (e_ix (e_tup (a_cons (e_tup (a_cons (e_str) (a_nil))) (a_cons (e_tup (a_cons (e_str) (a_nil))) (a_cons (e_tup (a_cons (e_str) (a_nil))) (a_nil))))) (e_call (ok_law_next T) cx.tk (hr.mono (by omega)) T.g_law_next T.F_law_next.kp T.b_law_next (a_cons (e_v 0) (a_cons (e_int) (a_nil))))))
 (ss_nil))
 (ss_nil))
 (ss_cons (s_ret (e_tup (a_cons (e_str) (a_cons (e_ix (e_v 1) (e_call (ok_law_next T) cx.tk (hr.mono (by omega)) T.g_law_next T.F_law_next.kp T.b_law_next (a_cons (e_v 0) (a_cons (e_cb call_len does_len T.z_len (a_cons (e_v 1) (a_nil))) (a_nil))))) (a_nil)))))
 (ss_nil)))
 (ss_nil))
 (ss_cons (s_if (t_cmp op_ltD does_ltD (e_v 3) (e_int) (nomark _))
 (ss_cons (s_set 4 sc_law_content.nd (e_op op_addD does_addD (e_int) (e_call (ok_law_next T) cx.tk (hr.mono (by omega)) T.g_law_next T.F_law_next.kp T.b_law_next (a_cons (e_v 0) (a_cons (e_int) (a_nil))))))
 (ss_cons (s_ret (e_tup (a_cons (e_str) (a_cons (e_ct call_tuple_of does_tuple T.z_tuple (a_cons (e_lc (own := [("k", 5)]) rfl sc_law_content.nd (blkOk_by (N := ["tape", "names", "depth", "kind", "many", "k"]) (sc := defScope s_law_content) (by decide +kernel)) (i_range T.z_range (a_cons (e_v 4) (a_nil))) (fun _ _ _ _ _ => g_name 5 sc_law_content.nd) (fun _ _ _ _ _ => ts_nil) (fun _ _ _ _ _ => e_call (ih) takesW0 (hr.mono (by omega)) T.g_law_content T.F_law_content.kp T.b_law_content (a_cons (e_v 0) (a_cons (e_v 1) (a_cons (e_op op_sub does_sub (e_v 2) (e_int)) (a_nil)))))) (a_nil))) (a_nil)))))
 (ss_nil)))
 (ss_nil))
 (ss_cons (s_if (t_cmp op_ltD does_ltD (e_v 3) (e_int) (nomark _))
 (ss_cons (s_set 4 sc_law_content.nd (e_op op_addD does_addD (e_int) (e_call (ok_law_next T) cx.tk (hr.mono (by omega)) T.g_law_next T.F_law_next.kp T.b_law_next (a_cons (e_v 0) (a_cons (e_int) (a_nil))))))
 (ss_cons (s_ret (e_tup (a_cons (e_str) (a_cons (e_ct call_tuple_of does_tuple T.z_tuple (a_cons (e_lc (own := [("k", 5)]) rfl sc_law_content.nd (blkOk_by (N := ["tape", "names", "depth", "kind", "many", "k"]) (sc := defScope s_law_content) (by decide +kernel)) (i_range T.z_range (a_cons (e_v 4) (a_nil))) (fun _ _ _ _ _ => g_name 5 sc_law_content.nd) (fun _ _ _ _ _ => ts_nil) (fun _ _ _ _ _ => e_call (ih) takesW0 (hr.mono (by omega)) T.g_law_content T.F_law_content.kp T.b_law_content (a_cons (e_v 0) (a_cons (e_v 1) (a_cons (e_op op_sub does_sub (e_v 2) (e_int)) (a_nil)))))) (a_nil))) (a_nil)))))
 (ss_nil)))
 (ss_nil))
 (ss_cons (s_ret (e_tup (a_cons (e_ix (e_tup (a_cons (e_str) (a_cons (e_str) (a_cons (e_str) (a_nil))))) (e_call (ok_law_next T) cx.tk (hr.mono (by omega)) T.g_law_next T.F_law_next.kp T.b_law_next (a_cons (e_v 0) (a_cons (e_int) (a_nil))))) (a_cons (e_call (ih) cx.tk (hr.mono (by omega)) T.g_law_content T.F_law_content.kp T.b_law_content (a_cons (e_v 0) (a_cons (e_v 1) (a_cons (e_op op_sub does_sub (e_v 2) (e_int)) (a_nil))))) (a_nil)))))
 (ss_nil))))))
theorem sc_law_text : FnScope ["content", "outer", "kind", "text", "part"] ["content", "outer"] (defScope s_law_text) := ⟨rfl, rfl, rfl, by decide +kernel, rfl, by decide +kernel, by decide +kernel⟩
theorem ok_law_text (T : Txt K w mg a) : ∀ n : Nat, FnOk P w K mg base (L2.CX P w) (0 + n) a.a_law_text a.d_law_text ["content", "outer"] (spX K 2 (m_law_text a n))
  | 0 => FnOk.none
  | n + 1 => by
    have ih := ok_law_text T n
    exact ok_def (k := 0 + n) T.F_law_text sc_law_text fun cdv A outer s H E hr cx =>
 (ss_cons (s_set 2 sc_law_text.nd (e_ix (e_v 0) (e_int)))
 (ss_cons (s_if (t_cmp (op_eqD (hu64 hr)) does_eq (e_v 2) (e_str) (nomark _))
 (ss_cons (s_ret (e_ix (e_v 0) (e_int)))
 (ss_nil))
 (ss_nil))
 (ss_cons (s_if (t_cmp (op_eqD (hu64 hr)) does_eq (e_v 2) (e_str) (nomark _))
 (ss_cons (s_set 3 sc_law_text.nd (e_mt PySem.F.plainAttrs_str PySem.F.slot_str_join PySem.F.type_str_join mt_joinR does_join recv_str (e_str) (a_cons (e_lc (own := [("part", 4)]) rfl sc_law_text.nd (blkOk_by (N := ["content", "outer", "kind", "text", "part"]) (sc := defScope s_law_text) (by decide +kernel)) (i_it (e_ix (e_v 0) (e_int))) (fun _ _ _ _ _ => g_name 4 sc_law_text.nd) (fun _ _ _ _ _ => ts_nil) (fun _ _ _ _ _ => e_call (ih) takesW0 (hr.mono (by omega)) T.g_law_text T.F_law_text.kp T.b_law_text (a_cons (e_v 4) (a_cons (e_str) (a_nil))))) (a_nil))))
 (ss_cons (s_ret (e_ite (t_cmp (op_eqD (hu64 hr)) does_eq (e_v 1) (e_str) (nomark _)) (e_v 3) (e_op op_addD does_addD (e_op op_addD does_addD (e_str) (e_v 3)) (e_str))))
 (ss_nil)))
 (ss_nil))
 (ss_cons (s_if (t_cmp (op_eqD (hu64 hr)) does_eq (e_v 2) (e_str) (nomark _))
 (ss_cons (s_set 3 sc_law_text.nd (e_mt PySem.F.plainAttrs_str PySem.F.slot_str_join PySem.F.type_str_join mt_joinR does_join recv_str (e_str) (a_cons (e_lc (own := [("part", 4)]) rfl sc_law_text.nd (blkOk_by (N := ["content", "outer", "kind", "text", "part"]) (sc := defScope s_law_text) (by decide +kernel)) (i_it (e_ix (e_v 0) (e_int))) (fun _ _ _ _ _ => g_name 4 sc_law_text.nd) (fun _ _ _ _ _ => ts_nil) (fun _ _ _ _ _ => e_call (ih) takesW0 (hr.mono (by omega)) T.g_law_text T.F_law_text.kp T.b_law_text (a_cons (e_v 4) (a_cons (e_str) (a_nil))))) (a_nil))))
 (ss_cons (s_ret (e_ite (t_cmp op_inAny does_in (e_v 1) (e_tup (a_cons (e_str) (a_cons (e_str) (a_nil)))) (by rfl)) (e_v 3) (e_op op_addD does_addD (e_op op_addD does_addD (e_str) (e_v 3)) (e_str))))
 (ss_nil)))
 (ss_nil))
 (ss_cons (s_if (t_cmp op_inAny does_in (e_v 2) (e_tup (a_cons (e_str) (a_cons (e_str) (a_cons (e_str) (a_nil))))) (by rfl))
 (ss_cons (s_ret (e_op op_addD does_addD (e_call (ih) cx.tk (hr.mono (by omega)) T.g_law_text T.F_law_text.kp T.b_law_text (a_cons (e_ix (e_v 0) (e_int)) (a_cons (e_str) (a_nil)))) (e_get (hu_of hr) (e_dispC (pps_cons pe_str pe_str (pps_cons pe_str pe_str (pps_cons pe_str pe_str (pps_nil)))) (.consS (fun _ _ => .str _) (.consS (fun _ _ => .str _) (.consS (fun _ _ => .str _) (.nil))))) (e_v 2))))
 (ss_nil))
 (ss_nil))
 (ss_cons (s_ret (e_v 2))
 (ss_nil)))))))
theorem sc_law_wide : FnScope ["tape", "text", "wide", "sign"] ["tape", "text"] (defScope s_law_wide) := ⟨rfl, rfl, rfl, by decide +kernel, rfl, by decide +kernel, by decide +kernel⟩
theorem ok_law_wide (T : Txt K w mg a) : FnOk P w K mg base (L2.CX P w) 2 a.a_law_wide a.d_law_wide ["tape", "text"] (spX K 2 (m_law_wide a)) :=
  ok_def (k := 1) T.F_law_wide sc_law_wide fun cdv A outer s H E hr cx =>
 (ss_cons (s_set 2 sc_law_wide.nd (e_op op_mulA does_mulA (e_str) (e_call (ok_law_next T) cx.tk (hr.mono (by omega)) T.g_law_next T.F_law_next.kp T.b_law_next (a_cons (e_v 0) (a_cons (e_int) (a_nil))))))
 (ss_cons (s_for cx.own rfl (i_it (e_v 1)) (g_name 3 sc_law_wide.nd)
 (ss_cons (s_if (t_cmp op_inAny does_in (e_v 3) (e_str) (by rfl))
 (ss_cons (s_set 2 sc_law_wide.nd (e_op op_addD does_addD (e_op op_addD does_addD (e_op op_addD does_addD (e_v 2) (e_op op_mulA does_mulA (e_str) (e_call (ok_law_next T) cx.tk (hr.mono (by omega)) T.g_law_next T.F_law_next.kp T.b_law_next (a_cons (e_v 0) (a_cons (e_int) (a_nil)))))) (e_v 3)) (e_op op_mulA does_mulA (e_str) (e_call (ok_law_next T) cx.tk (hr.mono (by omega)) T.g_law_next T.F_law_next.kp T.b_law_next (a_cons (e_v 0) (a_cons (e_int) (a_nil)))))))
 (ss_nil))
 (ss_cons (s_set 2 sc_law_wide.nd (e_op op_addD does_addD (e_v 2) (e_v 3)))
 (ss_nil)))
 (ss_nil)))
 (ss_cons (s_ret (e_op op_addD does_addD (e_v 2) (e_op op_mulA does_mulA (e_str) (e_call (ok_law_next T) cx.tk (hr.mono (by omega)) T.g_law_next T.F_law_next.kp T.b_law_next (a_cons (e_v 0) (a_cons (e_int) (a_nil)))))))
 (ss_nil))))
theorem sc_law_names : FnScope ["content", "found", "part"] ["content"] (defScope s_law_names) := ⟨rfl, rfl, rfl, by decide +kernel, rfl, by decide +kernel, by decide +kernel⟩
theorem ok_law_names (T : Txt K w mg a) : ∀ n : Nat, FnOk P w K mg base (L2.CX P w) (0 + n) a.a_law_names a.d_law_names ["content"] (spX K 1 (m_law_names a n))
  | 0 => FnOk.none
  | n + 1 => by
    have ih := ok_law_names T n
    exact ok_def (k := 0 + n) T.F_law_names sc_law_names fun cdv A outer s H E hr cx =>
 (ss_cons (s_if (t_cmp (op_eqD (hu64 hr)) does_eq (e_ix (e_v 0) (e_int)) (e_str) (nomark _))
 (ss_cons (s_ret (e_lst (a_cons (e_ix (e_v 0) (e_int)) (a_nil))))
 (ss_nil))
 (ss_nil))
 (ss_cons (s_set 1 sc_law_names.nd (e_lst (a_nil)))
 (ss_cons (s_if (t_cmp op_inAny does_in (e_ix (e_v 0) (e_int)) (e_tup (a_cons (e_str) (a_cons (e_str) (a_nil)))) (by rfl))
 (ss_cons (s_for cx.own rfl (i_it (e_ix (e_v 0) (e_int))) (g_name 2 sc_law_names.nd)
 (ss_cons (s_set 1 sc_law_names.nd (e_op op_addD does_addD (e_v 1) (e_call (ih) cx.tk (hr.mono (by omega)) T.g_law_names T.F_law_names.kp T.b_law_names (a_cons (e_v 2) (a_nil)))))
 (ss_nil)))
 (ss_nil))
 (ss_nil))
 (ss_cons (s_if (t_cmp op_inAny does_in (e_ix (e_v 0) (e_int)) (e_tup (a_cons (e_str) (a_cons (e_str) (a_cons (e_str) (a_nil))))) (by rfl))
 (ss_cons (s_set 1 sc_law_names.nd (e_call (ih) cx.tk (hr.mono (by omega)) T.g_law_names T.F_law_names.kp T.b_law_names (a_cons (e_ix (e_v 0) (e_int)) (a_nil))))
 (ss_nil))
 (ss_nil))
 (ss_cons (s_ret (e_v 1))
 (ss_nil))))))
theorem sc_law_bent : FnScope ["content", "bent"] ["content"] (defScope s_law_bent) := ⟨rfl, rfl, rfl, by decide +kernel, rfl, by decide +kernel, by decide +kernel⟩
theorem ok_law_bent (T : Txt K w mg a) : FnOk P w K mg base (L2.CX P w) 1 a.a_law_bent a.d_law_bent ["content"] (spX K 1 (m_law_bent a)) :=
  ok_def (k := 0) T.F_law_bent sc_law_bent fun cdv A outer s H E hr cx =>
 (ss_cons (s_set 1 sc_law_bent.nd (e_lst (a_cons (e_op op_addD does_addD (e_v 0) (e_tup (a_cons (e_tup (a_nil)) (a_nil)))) (a_cons (e_op op_addD does_addD (e_op op_addD does_addD (e_slA (e_v 0) (o_none) (o_some (e_int))) (e_slA (e_v 0) (o_some (e_int)) (o_none))) (e_tup (a_cons (e_int) (a_nil)))) (a_cons (e_op op_addD does_addD (e_tup (a_cons (e_str) (a_nil))) (e_slA (e_v 0) (o_some (e_int)) (o_none))) (a_cons (e_ct (call_listE rfl) does_listE T.z_list (a_cons (e_v 0) (a_nil))) (a_cons (e_ix (e_v 0) (e_int)) (a_nil))))))))
 (ss_cons (s_if (t_cmp op_inAny does_in (e_ix (e_v 0) (e_int)) (e_tup (a_cons (e_str) (a_cons (e_str) (a_nil)))) (by rfl))
 (ss_cons (s_expr (e_mt PySem.F.plainAttrs_list PySem.F.slot_list_append PySem.F.type_list_append mt_append does_append recv_lst (e_v 1) (a_cons (e_tup (a_cons (e_ix (e_v 0) (e_int)) (a_cons (e_slA (e_ix (e_v 0) (e_int)) (o_none) (o_some (e_int))) (a_nil)))) (a_nil))))
 (ss_cons (s_expr (e_mt PySem.F.plainAttrs_list PySem.F.slot_list_append PySem.F.type_list_append mt_append does_append recv_lst (e_v 1) (a_cons (e_tup (a_cons (e_ix (e_v 0) (e_int)) (a_cons (e_ct (call_listE rfl) does_listE T.z_list (a_cons (e_ix (e_v 0) (e_int)) (a_nil))) (a_nil)))) (a_nil))))
 (ss_nil)))
 (ss_nil))
 (ss_cons (s_ret (e_v 1))
 (ss_nil))))
theorem sc_law : FnScope ["script", "tape", "content", "text", "names", "bent", "name"] ["script"] (defScope s_law) := ⟨rfl, rfl, rfl, by decide +kernel, rfl, by decide +kernel, by decide +kernel⟩
theorem ok_law (T : Txt K w mg a) : FnOk P w K mg base (L2.CX P w) 7 a.a_law a.d_law ["script"] (spX K 1 (m_law a)) :=
  ok_def (k := 6) T.F_law sc_law fun cdv A outer s H E hr cx =>
 (ss_cons (s_set 1 sc_law.nd (e_lst (a_cons (e_ct (call_listE rfl) does_listE T.z_list (a_cons (e_v 0) (a_nil))) (a_cons (e_int) (a_cons (e_int) (a_cons (e_int) (a_nil)))))))
 (ss_cons (s_set 2 sc_law.nd (e_call (ok_law_content T 4) cx.tk (hr.mono (by omega)) T.g_law_content T.F_law_content.kp T.b_law_content (a_cons (e_v 1) (a_cons (e_lst (a_cons (e_str) (a_cons (e_str) (a_cons (e_str) (a_cons (e_str) (a_nil)))))) (a_cons (e_int) (a_nil))))))
 (ss_cons (s_set 3 sc_law.nd (e_call (ok_print_content T) cx.tk (hr.mono (by omega)) T.g_print_content T.F_print_content.kp T.b_print_content (a_cons (e_v 2) (a_nil))))
 (ss_cons (s_if (PW.pt (w_or (t_cmp op_notBl does_notB (e_call (ok_is_content T) cx.tk (hr.mono (by omega)) T.g_is_content T.F_is_content.kp T.b_is_content (a_cons (e_v 2) (a_nil))) (e_bl) (nomark _)) (w_or (t_not (t_tr (e_isi (e_v 3) T.z_isinstance T.z_str))) (w_1 (t_cmp (op_neD (hu64 hr)) does_ne (e_v 3) (e_call (ok_law_text T 4) cx.tk (hr.mono (by omega)) T.g_law_text T.F_law_text.kp T.b_law_text (a_cons (e_v 2) (a_cons (e_str) (a_nil)))) (nomark _))))))
 (ss_cons (s_ret (e_bl))
 (ss_nil))
 (ss_nil))
 (ss_cons (s_if (PW.pt (w_or (t_cmp (op_neD (hu64 hr)) does_ne (e_call (ok_read_content T) cx.tk (hr.mono (by omega)) T.g_read_content T.F_read_content.kp T.b_read_content (a_cons (e_v 3) (a_nil))) (e_v 2) (nomark _)) (w_1 (t_cmp (op_neD (hu64 hr)) does_ne (e_call (ok_read_content T) cx.tk (hr.mono (by omega)) T.g_read_content T.F_read_content.kp T.b_read_content (a_cons (e_call (ok_law_wide T) cx.tk (hr.mono (by omega)) T.g_law_wide T.F_law_wide.kp T.b_law_wide (a_cons (e_v 1) (a_cons (e_v 3) (a_nil)))) (a_nil))) (e_v 2) (nomark _)))))
 (ss_cons (s_ret (e_bl))
 (ss_nil))
 (ss_nil))
 (ss_cons (s_set 4 sc_law.nd (e_ct (call_dictA rfl) does_dictP T.z_dict (a_cons (e_lc (own := [("name", 6)]) rfl sc_law.nd (blkOk_by (N := ["script", "tape", "content", "text", "names", "bent", "name"]) (sc := defScope s_law) (by decide +kernel)) (i_it (e_call (ok_law_names T 4) cx.tk (hr.mono (by omega)) T.g_law_names T.F_law_names.kp T.b_law_names (a_cons (e_v 2) (a_nil)))) (fun _ _ _ _ _ => g_name 6 sc_law.nd) (fun _ _ _ _ _ => ts_nil) (fun _ _ _ _ _ => e_tup (a_cons (e_v 6) (a_cons (e_bl) (a_nil))))) (a_nil))))
 (ss_cons (s_if (t_cmp (op_neD (hu64 hr)) does_ne (e_call (ok_names_in T) cx.tk (hr.mono (by omega)) T.g_names_in T.F_names_in.kp T.b_names_in (a_cons (e_v 2) (a_nil))) (e_cb (call_sortA rfl) does_sorted T.z_sorted (a_cons (e_ct (call_listE rfl) does_listE T.z_list (a_cons (e_v 4) (a_nil))) (a_nil))) (nomark _))
 (ss_cons (s_ret (e_bl))
 (ss_nil))
 (ss_nil))
 (ss_cons (s_for cx.own rfl (i_it (e_call (ok_law_bent T) cx.tk (hr.mono (by omega)) T.g_law_bent T.F_law_bent.kp T.b_law_bent (a_cons (e_v 2) (a_nil)))) (g_name 5 sc_law.nd)
 (ss_cons (s_if (t_cmp op_notBl does_notB (e_call (ok_is_content T) cx.tk (hr.mono (by omega)) T.g_is_content T.F_is_content.kp T.b_is_content (a_cons (e_v 5) (a_nil))) (e_bl) (nomark _))
 (ss_cons (s_ret (e_bl))
 (ss_nil))
 (ss_nil))
 (ss_nil)))
 (ss_cons (s_ret (e_and (e_not (e_call (ok_is_content T) cx.tk (hr.mono (by omega)) T.g_is_content T.F_is_content.kp T.b_is_content (a_cons (e_tup (a_cons (e_str) (a_cons (e_str) (a_nil)))) (a_nil)))) (e_and (e_not (e_call (ok_is_content T) cx.tk (hr.mono (by omega)) T.g_is_content T.F_is_content.kp T.b_is_content (a_cons (e_tup (a_cons (e_str) (a_cons (e_str) (a_nil)))) (a_nil)))) (e_1 (e_not (e_call (ok_is_content T) cx.tk (hr.mono (by omega)) T.g_is_content T.F_is_content.kp T.b_is_content (a_cons (e_tup (a_cons (e_str) (a_cons (e_str) (a_nil)))) (a_nil))))))))
 (ss_nil))))))))))
end
end Law

set_option Elab.async false
set_option linter.all false
set_option maxRecDepth 100000
set_option maxHeartbeats 2000000
namespace Law
open PySem PySem.Spec PyProof.Rows L2 Rg
abbrev tx (l : List Nat) : Str := ⟨l.toArray⟩
inductive Nm | a | b | c | l
inductive Sg | s | p | m
inductive C | wd (b : Bool) | ty (x : Nm) | row2 (o : Bool) (p q : C) | row3 (o : Bool) (p q r : C) | sg (k : Sg) (p : C)
@[simp] def wdc : Bool → List Nat | true => [99,104,97,114,115] | false => [101,109,112,116,121]
def nmc : Nm → List Nat | .a => [97] | .b => [98] | .c => [99,49] | .l => [108,111,110,103,110,97,109,101]
@[simp] def roc : Bool → List Nat | true => [111,114] | false => [115,101,113]
@[simp] def sgc : Sg → List Nat | .s => [115,116,97,114] | .p => [112,108,117,115] | .m => [109,97,121,98,101]
@[simp] def sgn : Sg → List Nat | .s => [42] | .p => [43] | .m => [63]
def emb : C → D
  | .wd b => .tup [.str (tx (wdc b))]
  | .ty x => .tup [.str (tx [116,121,112,101]), .str (tx (nmc x))]
  | .row2 o p q => .tup [.str (tx (roc o)), .tup [emb p, emb q]]
  | .row3 o p q r => .tup [.str (tx (roc o)), .tup [emb p, emb q, emb r]]
  | .sg k p => .tup [.str (tx (sgc k)), emb p]
def kids : C → List C
  | .wd _ => [] | .ty _ => [] | .row2 _ p q => [p, q] | .row3 _ p q r => [p, q, r] | .sg _ p => [p]
def sz : C → Nat
  | .wd _ => 1 | .ty _ => 1 | .row2 _ p q => 1 + (sz p + sz q) | .row3 _ p q r => 1 + (sz p + (sz q + sz r)) | .sg _ p => 1 + sz p
def szs (l : List C) : Nat := (l.map sz).sum
theorem sz_kids (c : C) : sz c = 1 + szs (kids c) := by cases c <;> simp [sz, szs, kids]
theorem sz_pos (c : C) : 1 ≤ sz c := by rw [sz_kids]; omega
theorem len_szs : ∀ l : List C, l.length ≤ szs l
  | [] => Nat.zero_le _
  | c :: l => by have := len_szs l; have := sz_pos c; simp [szs] at *; omega
def dep : C → Nat
  | .wd _ => 0 | .ty _ => 0 | .row2 _ p q => 1 + max (dep p) (dep q) | .row3 _ p q r => 1 + max (dep p) (max (dep q) (dep r)) | .sg _ p => 1 + dep p
def szb : Nat → Nat | 0 => 1 | n + 1 => 1 + 3 * szb n
theorem szb_pos : ∀ n, 1 ≤ szb n | 0 => Nat.le_refl _ | n + 1 => by simp [szb]
theorem sz_le : ∀ (c : C) (n : Nat), dep c ≤ n → sz c ≤ szb n
  | .wd _, n, _ => by have := szb_pos n; simp [sz]; omega
  | .ty _, n, _ => by have := szb_pos n; simp [sz]; omega
  | .row2 _ p q, 0, h => by simp [dep] at h
  | .row3 _ p q r, 0, h => by simp [dep] at h
  | .sg _ p, 0, h => by simp [dep] at h
  | .row2 _ p q, n + 1, h => by
    simp only [dep] at h
    have := sz_le p n (by omega); have := sz_le q n (by omega)
    simp [sz, szb]; omega
  | .row3 _ p q r, n + 1, h => by
    simp only [dep] at h
    have := sz_le p n (by omega); have := sz_le q n (by omega); have := sz_le r n (by omega)
    simp [sz, szb]; omega
  | .sg _ p, n + 1, h => by
    simp only [dep] at h
    have := sz_le p n (by omega)
    simp [sz, szb]; omega
section
variable (a : Ads)
/-- all(sign in S for the signs) -/
@[simp] theorem all_in (S : List Nat) (x : Option D) (st : Stt) : ∀ (l : List Nat) (acc : List D), l.length + acc.length < 1000 →
    compF st.length (fun _ => True) (gN 1) xYes (x2 oIn (xV 1) (xC (.str (tx S)))) [x, none] (l.map fun c => D.str ⟨#[c]⟩) (st ++ [.lst acc]) = .ok () (st ++ [.lst (acc ++ l.map fun c => D.bl (decide (c ∈ S)))])
  | [], acc, _ => by simp
  | c :: l, acc, h => by
    have hz : acc.length < 16777216 := (by simp at h; omega)
    have := all_in S x st l (acc ++ [.bl (decide (c ∈ S))]) (by simp at h ⊢; omega)
    simp [compF_cons, hz, this]
theorem all_in' (l : List Nat) (hl : l.length < 100) (S : List Nat) (x : Option D) (st : Stt) : 
    compF st.length (fun _ => True) (gN 1) xYes (x2 oIn (xV 1) (xC (.str ⟨S.toArray⟩))) [x, none] (l.map fun c => D.str ⟨#[c]⟩) (st ++ [.lst []]) = .ok () (st ++ [.lst (l.map fun c => D.bl (decide (c ∈ S)))]) := by
  have := all_in S x st l [] (by simp; omega)
  simpa using this
/-! ### names -/
theorem isn_nm (x : Nm) (st : Stt) : ∃ J, m_is_name a [.str (tx (nmc x))] st = .ok (.bl true) (st ++ J) := by
  have h := all_in' (nmc x) (by cases x <;> simp [nmc])
  cases x <;> (simp [nmc] at h; simp [nmc, m_is_name, f_is_name, is_name_i1, h])
theorem istn_nm (x : Nm) (st : Stt) : ∃ J, m_is_type_name a [.str (tx (nmc x))] st = .ok (.bl true) (st ++ J) := by
  obtain ⟨J, h⟩ := isn_nm a x st
  cases x <;> (simp only [nmc] at h; simp [nmc, m_is_type_name, f_is_type_name, h])
theorem pw_emb (c : C) (st : Stt) : ∃ J, m_parts_within a [emb c] st = .ok (.tup ((kids c).map emb)) (st ++ J) := by
  cases c with
  | wd b => cases b <;> simp [emb, kids, m_parts_within, f_parts_within, parts_within_i1, parts_within_i2, parts_within_i3, parts_within_i4]
  | ty x =>
    obtain ⟨J, h⟩ := istn_nm a x st
    simp [emb, kids, m_parts_within, f_parts_within, parts_within_i1, parts_within_i2, parts_within_i3, parts_within_i4, gT_run, h]
  | row2 o p q => cases o <;> simp [emb, kids, m_parts_within, f_parts_within, parts_within_i1, parts_within_i2, parts_within_i3, parts_within_i4, gT_run]
  | row3 o p q r => cases o <;> simp [emb, kids, m_parts_within, f_parts_within, parts_within_i1, parts_within_i2, parts_within_i3, parts_within_i4, gT_run]
  | sg k p => cases k <;> simp [emb, kids, m_parts_within, f_parts_within, parts_within_i1, parts_within_i2, parts_within_i3, parts_within_i4, gT_run]
/-! ### is_content -/
theorem isc_true (c : C) (hc : szs [c] < 1000) (st : Stt) : ∃ J, m_is_content a [emb c] st = .ok (.bl true) (st ++ J) := by
  obtain ⟨ρ', st', h, J, hJ⟩ := sWhile_inv (c := is_content_wt1 a) (f := is_content_wb1 a)
    (fun k ρ s => k < 1000 ∧ ∃ cs J v, szs cs = k ∧ ρ = [some (emb c), some (.loc st.length), v] ∧ s = st ++ .lst (cs.map emb) :: J)
    (fun ρ s => ∃ J, s = st ++ J) (k := szs [c]) (ρ := [some (emb c), some (.loc st.length), none]) (st := st ++ [.lst [emb c]])
    (fun k ρ s ⟨hk, cs, J, v, hs, hρ, he⟩ => by
      subst hρ he
      rcases List.eq_nil_or_concat cs with rfl | ⟨cs, d, rfl⟩
      · left
        simp [is_content_wt1]
      · right
        rw [List.concat_eq_append] at *
        obtain ⟨J2, h2⟩ := ax (pw_emb a d)
        have hl : cs.length ≤ szs cs := len_szs cs
        have hl2 : (kids d).length ≤ szs (kids d) := len_szs _
        have hs2 : szs cs + (1 + szs (kids d)) = k := by rw [← hs, ← sz_kids d]; simp [szs]
        have hb : cs.length + (kids d).length ≤ 16777216 := by omega
        have hb2 : ∃ J' v', is_content_wb1 a [some (emb c), some (.loc st.length), v] (st ++ .lst ((cs ++ [d]).map emb) :: J) = .nx [some (emb c), some (.loc st.length), v'] (st ++ .lst ((cs ++ kids d).map emb) :: J') := by
          simp [is_content_wb1, is_content_i1, h2, hb]
        obtain ⟨J', v', hb2⟩ := hb2
        exact ⟨_, by simp [is_content_wt1], _, _, .inl hb2, szs (cs ++ kids d), by simp [szs] at *; omega, by simp [szs] at *; omega, cs ++ kids d, J', v', rfl, rfl, rfl⟩)
    (by omega) ⟨hc, [c], [], none, rfl, rfl, rfl⟩
  exact ⟨J, by simp [m_is_content, f_is_content, is_content_w1, h, hJ]⟩
end
end Law

set_option Elab.async false
set_option linter.all false
set_option maxRecDepth 100000
set_option maxHeartbeats 2000000
namespace Law
open PySem PySem.Spec PyProof.Rows L2 Rg
section
variable (a : Ads)
theorem isc_false {v : D} {s : Stt} (h : ∃ J, m_parts_within a [v] (s ++ [.lst []]) = .ok .non (s ++ .lst [] :: J)) : ∃ J, m_is_content a [v] s = .ok (.bl false) (s ++ J) := by
  obtain ⟨J, h⟩ := h
  obtain ⟨N, hN⟩ := sWhile_two
  simp [m_is_content, f_is_content, is_content_w1, hN, whileF_succ, is_content_wb1, is_content_wt1, is_content_i1, h]
theorem isc_false2 {v w : D} {s : Stt} (h : ∃ J, m_parts_within a [v] (s ++ [.lst []]) = .ok (.tup [w]) (s ++ .lst [] :: J)) (h2 : ∀ J, ∃ J', m_parts_within a [w] (s ++ .lst [] :: J) = .ok .non (s ++ .lst [] :: J')) : ∃ J, m_is_content a [v] s = .ok (.bl false) (s ++ J) := by
  obtain ⟨J, h⟩ := h
  obtain ⟨N, hN⟩ := sWhile_two
  obtain ⟨J2, h2⟩ := ax h2
  simp [m_is_content, f_is_content, is_content_w1, hN, whileF_succ, is_content_wb1, is_content_wt1, is_content_i1, h, h2]
theorem bent_wd (b : Bool) (st : Stt) : m_law_bent a [emb (.wd b)] st = .ok (.loc (st.length + 1)) (st ++ [.lst [.str (tx (wdc b))], .lst [.tup [.str (tx (wdc b)), .tup []], .tup [.str (tx (wdc b)), .int 5], .tup [.str (tx [114,111,119])], .loc st.length, .str (tx (wdc b))]]) := by
  cases b <;> simp [m_law_bent, f_law_bent, law_bent_i1, emb]
theorem bent_ty (x : Nm) (st : Stt) : m_law_bent a [emb (.ty x)] st = .ok (.loc (st.length + 1)) (st ++ [.lst [.str (tx [116,121,112,101]), .str (tx (nmc x))], .lst [.tup [.str (tx [116,121,112,101]), .str (tx (nmc x)), .tup []], .tup [.str (tx [116,121,112,101]), .int 5], .tup [.str (tx [114,111,119]), .str (tx (nmc x))], .loc st.length, .str (tx [116,121,112,101])]]) := by
  simp [m_law_bent, f_law_bent, law_bent_i1, emb]
theorem bent_sg (k : Sg) (p : C) (st : Stt) : m_law_bent a [emb (.sg k p)] st = .ok (.loc (st.length + 1)) (st ++ [.lst [.str (tx (sgc k)), emb p], .lst [.tup [.str (tx (sgc k)), emb p, .tup []], .tup [.str (tx (sgc k)), .int 5], .tup [.str (tx [114,111,119]), emb p], .loc st.length, .str (tx (sgc k))]]) := by
  cases k <;> simp [m_law_bent, f_law_bent, law_bent_i1, emb]
theorem bent_row2 (o : Bool) (p q : C) (st : Stt) : m_law_bent a [emb (.row2 o p q)] st = .ok (.loc (st.length + 1)) (st ++ [.lst [.str (tx (roc o)), .tup [emb p, emb q]], .lst [.tup [.str (tx (roc o)), .tup [emb p, emb q], .tup []], .tup [.str (tx (roc o)), .int 5], .tup [.str (tx [114,111,119]), .tup [emb p, emb q]], .loc st.length, .str (tx (roc o)),
   .tup [.str (tx (roc o)), .tup [emb p]], .tup [.str (tx (roc o)), .loc (st.length + 2)]], .lst [emb p, emb q]]) := by
  cases o <;> simp [m_law_bent, f_law_bent, law_bent_i1, emb]
theorem bent_row3 (o : Bool) (p q r : C) (st : Stt) : m_law_bent a [emb (.row3 o p q r)] st = .ok (.loc (st.length + 1)) (st ++ [.lst [.str (tx (roc o)), .tup [emb p, emb q, emb r]], .lst [.tup [.str (tx (roc o)), .tup [emb p, emb q, emb r], .tup []], .tup [.str (tx (roc o)), .int 5], .tup [.str (tx [114,111,119]), .tup [emb p, emb q, emb r]], .loc st.length, .str (tx (roc o)),
   .tup [.str (tx (roc o)), .tup [emb p]], .tup [.str (tx (roc o)), .loc (st.length + 2)]], .lst [emb p, emb q, emb r]]) := by
  cases o <;> simp [m_law_bent, f_law_bent, law_bent_i1, emb]
theorem pn_str (x : Str) (s : Stt) : m_parts_within a [.str x] s = .ok .non s := by
  simp [m_parts_within, f_parts_within, parts_within_i4]
theorem pn_int (x : Int) (s : Stt) : m_parts_within a [.int x] s = .ok .non s := by
  simp [m_parts_within, f_parts_within, parts_within_i4]
theorem pn_loc (m : Nat) (l : List D) (s : Stt) (h : s[m]? = some (.lst l)) : m_parts_within a [.loc m] s = .ok .non s := by
  simp [m_parts_within, f_parts_within, parts_within_i4, h]
theorem pn_3 (x y z : D) (s : Stt) : m_parts_within a [.tup [x, y, z]] s = .ok .non s := by
  simp [m_parts_within, f_parts_within, parts_within_i4]
theorem pn_wdt (b : Bool) (l : List D) (s : Stt) : m_parts_within a [.tup [.str (tx (wdc b)), .tup l]] s = .ok .non s := by
  cases b <;> simp [m_parts_within, f_parts_within, parts_within_i1, parts_within_i2, parts_within_i3, parts_within_i4, gT_run]
theorem pn_wd5 (b : Bool) (s : Stt) : m_parts_within a [.tup [.str (tx (wdc b)), .int 5]] s = .ok .non s := by
  cases b <;> simp [m_parts_within, f_parts_within, parts_within_i1, parts_within_i2, parts_within_i3, parts_within_i4, gT_run]
theorem pn_ro5 (b : Bool) (s : Stt) : m_parts_within a [.tup [.str (tx (roc b)), .int 5]] s = .ok .non s := by
  cases b <;> simp [m_parts_within, f_parts_within, parts_within_i1, parts_within_i2, parts_within_i3, parts_within_i4, gT_run]
theorem pn_ty5 (s : Stt) : m_parts_within a [.tup [.str (tx [116,121,112,101]), .int 5]] s = .ok .non s := by
  simp [m_parts_within, f_parts_within, parts_within_i1, parts_within_i2, parts_within_i3, parts_within_i4, gT_run, m_is_type_name, f_is_type_name, m_is_name, f_is_name, is_name_i1]
theorem pn_ro1 (b : Bool) (x : D) (s : Stt) : m_parts_within a [.tup [.str (tx (roc b)), .tup [x]]] s = .ok .non s := by
  cases b <;> simp [m_parts_within, f_parts_within, parts_within_i1, parts_within_i2, parts_within_i3, parts_within_i4, gT_run]
theorem pn_rol (b : Bool) (m : Nat) (l : List D) (s : Stt) (h : s[m]? = some (.lst l)) : m_parts_within a [.tup [.str (tx (roc b)), .loc m]] s = .ok .non s := by
  cases b <;> simp [m_parts_within, f_parts_within, parts_within_i1, parts_within_i2, parts_within_i3, parts_within_i4, gT_run, h]
theorem pn_row1 (s : Stt) : m_parts_within a [.tup [.str (tx [114,111,119])]] s = .ok .non s := by
  simp [m_parts_within, f_parts_within, parts_within_i1, parts_within_i2, parts_within_i3, parts_within_i4, gT_run]
theorem pn_row2 (x : D) (s : Stt) : m_parts_within a [.tup [.str (tx [114,111,119]), x]] s = .ok .non s := by
  simp [m_parts_within, f_parts_within, parts_within_i1, parts_within_i2, parts_within_i3, parts_within_i4, gT_run]
theorem pn_sg5 (k : Sg) (s : Stt) : m_parts_within a [.tup [.str (tx (sgc k)), .int 5]] s = .ok (.tup [.int 5]) s := by
  cases k <;> simp [m_parts_within, f_parts_within, parts_within_i1, parts_within_i2, parts_within_i3, parts_within_i4, gT_run]
theorem rej {v : D} {s : Stt} (h : ∀ J, m_parts_within a [v] (s ++ J) = .ok .non (s ++ J)) : ∃ J, m_is_content a [v] s = .ok (.bl false) (s ++ J) := isc_false a ⟨[], h _⟩
theorem rej_sg (k : Sg) (s : Stt) : ∃ J, m_is_content a [.tup [.str (tx (sgc k)), .int 5]] s = .ok (.bl false) (s ++ J) := isc_false2 a (w := .int 5) ⟨[], by rw [pn_sg5]⟩ fun J => ⟨J, by rw [pn_int]⟩
theorem bents (c : C) (st : Stt) : ∃ J n ds, m_law_bent a [emb c] st = .ok (.loc n) (st ++ J) ∧ (st ++ J)[n]? = some (.lst ds) ∧ ∀ v ∈ ds, ∀ K, ∃ J', m_is_content a [v] (st ++ J ++ K) = .ok (.bl false) (st ++ J ++ K ++ J') := by
  cases c with
  | wd b =>
    refine ⟨_, _, _, bent_wd a b st, by simp; rfl, fun v hv K => ?_⟩
    simp only [List.mem_cons, List.not_mem_nil, or_false] at hv
    rcases hv with rfl | rfl | rfl | rfl | rfl
    · exact rej a fun J => pn_wdt a _ _ _
    · exact rej a fun J => pn_wd5 a _ _
    · exact rej a fun J => pn_row1 a _
    · exact rej a fun J => pn_loc a _ _ _ (by simp; rfl)
    · exact rej a fun J => pn_str a _ _
  | ty x =>
    refine ⟨_, _, _, bent_ty a x st, by simp; rfl, fun v hv K => ?_⟩
    simp only [List.mem_cons, List.not_mem_nil, or_false] at hv
    rcases hv with rfl | rfl | rfl | rfl | rfl
    · exact rej a fun J => pn_3 a _ _ _ _
    · exact rej a fun J => pn_ty5 a _
    · exact rej a fun J => pn_row2 a _ _
    · exact rej a fun J => pn_loc a _ _ _ (by simp; rfl)
    · exact rej a fun J => pn_str a _ _
  | sg k p =>
    refine ⟨_, _, _, bent_sg a k p st, by simp; rfl, fun v hv K => ?_⟩
    simp only [List.mem_cons, List.not_mem_nil, or_false] at hv
    rcases hv with rfl | rfl | rfl | rfl | rfl
    · exact rej a fun J => pn_3 a _ _ _ _
    · exact rej_sg a _ _
    · exact rej a fun J => pn_row2 a _ _
    · exact rej a fun J => pn_loc a _ _ _ (by simp; rfl)
    · exact rej a fun J => pn_str a _ _
  | row2 o p q =>
    refine ⟨_, _, _, bent_row2 a o p q st, by simp; rfl, fun v hv K => ?_⟩
    simp only [List.mem_cons, List.not_mem_nil, or_false] at hv
    rcases hv with rfl | rfl | rfl | rfl | rfl | rfl | rfl
    · exact rej a fun J => pn_3 a _ _ _ _
    · exact rej a fun J => pn_ro5 a _ _
    · exact rej a fun J => pn_row2 a _ _
    · exact rej a fun J => pn_loc a _ _ _ (by simp; rfl)
    · exact rej a fun J => pn_str a _ _
    · exact rej a fun J => pn_ro1 a _ _ _
    · exact rej a fun J => pn_rol a _ _ _ _ (by simp; rfl)
  | row3 o p q r =>
    refine ⟨_, _, _, bent_row3 a o p q r st, by simp; rfl, fun v hv K => ?_⟩
    simp only [List.mem_cons, List.not_mem_nil, or_false] at hv
    rcases hv with rfl | rfl | rfl | rfl | rfl | rfl | rfl
    · exact rej a fun J => pn_3 a _ _ _ _
    · exact rej a fun J => pn_ro5 a _ _
    · exact rej a fun J => pn_row2 a _ _
    · exact rej a fun J => pn_loc a _ _ _ (by simp; rfl)
    · exact rej a fun J => pn_str a _ _
    · exact rej a fun J => pn_ro1 a _ _ _
    · exact rej a fun J => pn_rol a _ _ _ _ (by simp; rfl)
/-! ### the three words -/
theorem isc_char (s : Stt) : ∃ J, m_is_content a [.tup [.str (tx [116,121,112,101]), .str (tx [99,104,97,114])]] s = .ok (.bl false) (s ++ J) := by
  refine isc_false a ?_
  have h := all_in' [99,104,97,114] (by simp)
  simp at h
  simp [m_parts_within, f_parts_within, parts_within_i1, parts_within_i2, parts_within_i3, parts_within_i4, gT_run, m_is_type_name, f_is_type_name, m_is_name, f_is_name, is_name_i1, h]
theorem isc_chars (s : Stt) : ∃ J, m_is_content a [.tup [.str (tx [116,121,112,101]), .str (tx [99,104,97,114,115])]] s = .ok (.bl false) (s ++ J) := by
  refine isc_false a ?_
  have h := all_in' [99,104,97,114,115] (by simp)
  simp at h
  simp [m_parts_within, f_parts_within, parts_within_i1, parts_within_i2, parts_within_i3, parts_within_i4, gT_run, m_is_type_name, f_is_type_name, m_is_name, f_is_name, is_name_i1, h]
theorem isc_Ab (s : Stt) : ∃ J, m_is_content a [.tup [.str (tx [116,121,112,101]), .str (tx [65,98])]] s = .ok (.bl false) (s ++ J) := by
  refine isc_false a ?_
  simp [m_parts_within, f_parts_within, parts_within_i1, parts_within_i2, parts_within_i3, parts_within_i4, gT_run, m_is_type_name, f_is_type_name, m_is_name, f_is_name, is_name_i1]
end
end Law

set_option Elab.async false
set_option linter.all false
set_option maxRecDepth 100000
set_option maxHeartbeats 2000000
namespace Law
open PySem PySem.Spec PyProof.Rows L2 Rg
def nms : C → List Nm
  | .wd _ => [] | .ty x => [x] | .row2 _ p q => nms p ++ nms q | .row3 _ p q r => nms p ++ nms q ++ nms r | .sg _ p => nms p
def nmss (l : List C) : List Nm := (l.map nms).flatten
/-- kind and name of a node -/
def nkind : C → List Nat
  | .wd b => wdc b | .ty _ => [116,121,112,101] | .row2 o _ _ => roc o | .row3 o _ _ _ => roc o | .sg k _ => sgc k
def nname : C → List Nat
  | .ty x => nmc x | _ => []
/-- the names of the nodes that are types -/
def own : C → List Nm | .ty x => [x] | _ => []
theorem nms_kids (c : C) (x : Nm) : x ∈ nms c ↔ x ∈ own c ∨ x ∈ nmss (kids c) := by
  cases c <;> simp [nms, own, nmss, kids, or_assoc]
section
variable (a : Ads)
theorem emb_ix0 (d : C) (s : Stt) : oIx (emb d) (.int 0) s = some (.str (tx (nkind d)), s) := by cases d <;> simp [emb, nkind]
theorem emb_ix1 (x : Nm) (s : Stt) : oIx (emb (.ty x)) (.int 1) s = some (.str (tx (nmc x)), s) := by simp [emb]
/-- a node's tuple -/
def nodeD (c : C) (t : D) : D := .tup [.str (tx (nkind c)), .str (tx (nname c)), t]
theorem nodes_ok (c : C) (hc : szs [c] < 60) (st : Stt) : ∃ J n fs ts, m_nodes_of a [emb c] st = .ok (.loc n) (st ++ J) ∧ (st ++ J)[n]? = some (.lst (List.zipWith nodeD fs ts)) ∧ fs.length = ts.length ∧ fs.length < 60 ∧ ∀ x, x ∈ (fs.map own).flatten ↔ x ∈ nms c := by
  obtain ⟨ρ', st', h, J, fs, ts, h1, h2, h3, h4, x3, x4, x5, h5⟩ := sWhile_inv (c := nodes_of_wt1 a) (f := nodes_of_wb1 a)
    (fun k ρ s => ∃ J fs ts qs v3 v4 v5, fs.length + szs qs < 60 ∧ szs qs = k ∧ fs.length = ts.length ∧ (∀ x, x ∈ (fs.map own).flatten ∨ x ∈ nmss qs ↔ x ∈ nms c) ∧ s = st ++ .lst (List.zipWith nodeD fs ts) :: .lst ((fs ++ qs).map emb) :: J ∧ ρ = [some (emb c), some (.loc st.length), some (.loc (st.length + 1)), v3, v4, v5])
    (fun ρ s => ∃ J fs ts, s = st ++ .lst (List.zipWith nodeD fs ts) :: J ∧ fs.length = ts.length ∧ fs.length < 60 ∧ (∀ x, x ∈ (fs.map own).flatten ↔ x ∈ nms c) ∧ ∃ v3 v4 v5, ρ = [some (emb c), some (.loc st.length), some (.loc (st.length + 1)), v3, v4, v5]) (k := szs [c]) (ρ := [some (emb c), some (.loc st.length), some (.loc (st.length + 1)), none, none, none]) (st := st ++ [.lst [], .lst [emb c]])
    (fun k ρ s ⟨J, fs, ts, qs, v3, v4, v5, hb, hk, hl, hm, hs, hρ⟩ => by
      subst hs hρ
      cases qs with
      | nil =>
        left
        refine ⟨_, by simp [nodes_of_wt1, hl]; rfl, _, fs, ts, rfl, hl, by simp [szs] at hb; omega, by simpa [nmss] using hm, v3, v4, v5, rfl⟩
      | cons d qs =>
        right
        obtain ⟨J2, h2⟩ := ax (pw_emb a d)
        have hl2 : (kids d).length ≤ szs (kids d) := len_szs _
        have hl3 : qs.length ≤ szs qs := len_szs _
        have hs2 : (1 + szs (kids d)) + szs qs = k := by rw [← hk, ← sz_kids d]; simp [szs]
        have t1 : nodes_of_wt1 a [some (emb c), some (.loc st.length), some (.loc (st.length + 1)), v3, v4, v5] (st ++ .lst (List.zipWith nodeD fs ts) :: .lst ((fs ++ d :: qs).map emb) :: J) = .ok true (st ++ .lst (List.zipWith nodeD fs ts) :: .lst ((fs ++ d :: qs).map emb) :: J) := by
          simp [nodes_of_wt1, hl]; omega
        have hx : atI (fs.map emb ++ emb d :: qs.map emb) (ts.length : Int) = some (emb d) := by
          rw [← hl]; exact atI_lit (by rw [List.getElem?_append_right (by simp)]; simp)
        have hb2 : ∃ J' v3' v4' v5' t, nodes_of_wb1 a [some (emb c), some (.loc st.length), some (.loc (st.length + 1)), v3, v4, v5] (st ++ .lst (List.zipWith nodeD fs ts) :: .lst ((fs ++ d :: qs).map emb) :: J) = .nx [some (emb c), some (.loc st.length), some (.loc (st.length + 1)), v3', v4', v5'] (st ++ .lst (List.zipWith nodeD fs ts ++ [nodeD d t]) :: .lst (((fs ++ [d]) ++ (qs ++ kids d)).map emb) :: J') := by
          have b1 : fs.length + 1 ≤ 16777216 := by omega
          have b2 : ts.length < 16777216 := by omega
          have b3 : rgOk (ts.length + (qs.length + 1) : Int) (ts.length + (qs.length + 1) + (kids d).length : Int) := rgOk_of (by omega) (by omega) (by omega) (by omega)
          have b4 : ts.length + (qs.length + 1) + (kids d).length ≤ 16777216 := by omega
          cases d with
          | wd b => cases b <;> simp [nodes_of_wb1, hl, hx, h2, emb_ix0, nkind, mkRgT, b2, b3, b4, nodeD, nname]
          | ty x => simp [nodes_of_wb1, hl, hx, h2, emb_ix0, emb_ix1, nkind, mkRgT, b2, b3, b4, nodeD, nname]
          | row2 o p q => cases o <;> simp [nodes_of_wb1, hl, hx, h2, emb_ix0, nkind, mkRgT, b2, b3, b4, nodeD, nname]
          | row3 o p q r => cases o <;> simp [nodes_of_wb1, hl, hx, h2, emb_ix0, nkind, mkRgT, b2, b3, b4, nodeD, nname]
          | sg k p => cases k <;> simp [nodes_of_wb1, hl, hx, h2, emb_ix0, nkind, mkRgT, b2, b3, b4, nodeD, nname]
        obtain ⟨J', v3', v4', v5', t, hb2⟩ := hb2
        have z : List.zipWith nodeD (fs ++ [d]) (ts ++ [t]) = List.zipWith nodeD fs ts ++ [nodeD d t] := by rw [List.zipWith_append hl]; rfl
        rw [← z] at hb2
        refine ⟨_, t1, _, _, .inl hb2, szs (qs ++ kids d), ?_, J', fs ++ [d], ts ++ [t], qs ++ kids d, v3', v4', v5', ?_, rfl, by simp [hl], ?_, rfl, rfl⟩
        · simp [szs] at *; omega
        · simp [szs] at *; omega
        · intro x
          rw [← hm x]
          have := nms_kids d x
          simp [nmss] at *
          rw [this]
          constructor
          · rintro ((h | h) | (h | h)) <;> simp_all
          · rintro (h | (h | h) | h) <;> simp_all)
    (by omega) ⟨[], [], [], [c], none, none, none, by simpa using hc, rfl, rfl, fun x => by simp [nmss], rfl, rfl⟩
  subst h1
  refine ⟨.lst (List.zipWith nodeD fs ts) :: J, st.length, fs, ts, ?_, by simp, h2, h3, h4⟩
  have : st ++ [O.lst [], O.lst [emb c]] = st ++ [O.lst []] ++ [O.lst [emb c]] := by simp
  simp [m_nodes_of, f_nodes_of, nodes_of_w1, h, h5]
end
end Law

set_option Elab.async false
set_option linter.all false
set_option maxRecDepth 100000
set_option maxHeartbeats 2000000
namespace Law
open PySem PySem.Spec PyProof.Rows L2 Rg
theorem sort_perm {l m : List Str} (h : l.Perm m) : sortS l = sortS m :=
  sortS_is ((List.mergeSort_perm l leS).trans h) (List.pairwise_mergeSort leS_trans leS_total l)
theorem sort_eq {l m : List Str} (hl : l.Nodup) (hm : m.Nodup) (h : ∀ x, x ∈ l ↔ x ∈ m) : sortS l = sortS m := sort_perm ((List.perm_ext_iff_of_nodup hl hm).mpr h)
def nstr (l : List Nm) : List Str := l.map fun x => tx (nmc x)
section
variable (a : Ads)
theorem nmss_own_len (fs : List C) : ((fs.map own).flatten).length ≤ fs.length := by
  induction fs with
  | nil => simp
  | cons c fs ih =>
    have : (own c).length ≤ 1 := by cases c <;> simp [own]
    simp at *; omega
theorem names_ok (c : C) (hc : szs [c] < 60) (st : Stt) : ∃ J n l, m_names_in a [emb c] st = .ok (.loc n) (st ++ J) ∧ (st ++ J)[n]? = some (.lst ((sortS (dedT (nstr l))).map D.str)) ∧ ∀ x, x ∈ l ↔ x ∈ nms c := by
  obtain ⟨J, n, fs, ts, h1, h2, h3, h4, h5⟩ := nodes_ok a c hc st
  obtain ⟨st', acc, h6, h7, h8⟩ := compF_inv (L := (st ++ J).length) (ok := fun s => items s (.loc n) = some (List.zipWith nodeD fs ts)) (g := gT [1, 2, 3]) (t := xB (x2 oEq (xV 1) (xC (.str (tx [116,121,112,101]))))) (f := xV 2) (ρ := [some (emb c), none, none, none]) (its := List.zipWith nodeD fs ts)
    (fun i s acc => s = st ++ J ++ [.lst acc] ∧ acc = (nstr ((fs.take i).map own).flatten).map D.str)
    (fun i s acc hi ⟨hs, _⟩ => by subst hs; rw [items_at, at_old h2])
    (fun i d s acc hd ⟨hs, ha⟩ => by
      subst hs
      have hi : i < (List.zipWith nodeD fs ts).length := (List.getElem?_eq_some_iff.mp hd).1
      rw [List.length_zipWith, ← h3, Nat.min_self] at hi
      have hit : i < ts.length := by omega
      have hd' : d = nodeD fs[i] ts[i] := by
        rw [List.getElem?_zipWith, List.getElem?_eq_getElem hi, List.getElem?_eq_getElem hit] at hd
        simpa using hd.symm
      subst hd'
      have hl : acc.length < 16777216 := by
        have := nmss_own_len (fs.take i)
        rw [ha, List.length_map, nstr, List.length_map]
        have := List.length_take_le i fs
        omega
      have e : (((fs.take (i + 1)).map own).flatten) = ((fs.take i).map own).flatten ++ own fs[i] := by
        rw [List.take_succ_eq_append_getElem hi, List.map_append, List.flatten_append]; simp only [List.map_cons, List.map_nil, List.flatten_cons, List.flatten_nil, List.append_nil]
      refine ⟨_, by simp only [gT_run, nodeD]; rfl, ?_⟩
      rw [e, ha]
      cases hf : fs[i] with
      | wd b => exact ⟨false, _, by cases b <;> simp [nkind] <;> rfl, fun _ => by simp [own, nstr], fun h => nomatch h⟩
      | row2 b => exact ⟨false, _, by cases b <;> simp [nkind] <;> rfl, fun _ => by simp [own, nstr], fun h => nomatch h⟩
      | row3 b => exact ⟨false, _, by cases b <;> simp [nkind] <;> rfl, fun _ => by simp [own, nstr], fun h => nomatch h⟩
      | sg b => exact ⟨false, _, by cases b <;> simp [nkind] <;> rfl, fun _ => by simp [own, nstr], fun h => nomatch h⟩
      | ty x => 
        refine ⟨true, st ++ J ++ [.lst acc], by simp [nkind, ha], fun h => (nomatch h), fun _ => ⟨.str (tx (nmc x)), st ++ J ++ [.lst acc], by simp [nname], ?_, by rw [← ha]; simpa using hl, ?_⟩⟩
        · rw [lstAt_at, at_0, ha]
        · simp [own, nstr, ha, -List.append_assoc])
    (st := st ++ J ++ [.lst []]) ⟨rfl, by simp [nstr]⟩
  subst h7
  rw [List.length_zipWith, ← h3, Nat.min_self, List.take_length] at h8
  refine ⟨J ++ [.lst acc, .lst ((sortS (dedT (nstr (fs.map own).flatten))).map D.str)], st.length + (J.length + 1), (fs.map own).flatten, ?_, by simp, h5⟩
  have hl : (List.map own fs).flatten.length < 64 := by have := nmss_own_len fs; omega
  have ht : txts acc = some (nstr (fs.map own).flatten) := by
    rw [h8]
    have := txts_l ((fs.map own).flatten.map nmc)
    simpa [nstr, Function.comp_def] using this
  simp only [List.append_assoc, List.length_append] at h6
  have hl' : (nstr (List.map own fs).flatten).length < 64 := by simpa only [nstr, List.length_map] using hl
  generalize nstr (List.map own fs).flatten = w at *
  simp [-items_at, m_names_in, f_names_in, h1, h2, h6, ht, hl']
/-! ### the law's names -/
theorem ln_step (n : Nat) (p : C) (h : ∀ st : Stt, ∃ J m, m_law_names a n [emb p] st = .ok (.loc m) (st ++ J) ∧ (st ++ J)[m]? = some (.lst ((nstr (nms p)).map D.str))) (x : Option D) (f : Nat) (l : List D) (s : Stt)
    (hf : s[f]? = some (.lst l)) (hl : l.length + (nms p).length ≤ 16777216) : ∃ K f', law_names_fb1 a (m_law_names a n) [x, some (.loc f), some (emb p)] s = .nx [x, some (.loc f'), some (emb p)] (s ++ K) ∧ (s ++ K)[f']? = some (.lst (l ++ (nstr (nms p)).map D.str)) := by
  obtain ⟨J, m, h1, h2⟩ := h s
  refine ⟨J ++ [.lst (l ++ (nstr (nms p)).map D.str)], s.length + J.length, ?_, by simp⟩
  have hl2 : l.length + (nstr (nms p)).length ≤ 16777216 := by simpa [nstr] using hl
  simp [law_names_fb1, h1, at_old hf, h2, hl2]
theorem lnames_ok : ∀ (c : C) (n : Nat), dep c < n → (nms c).length < 1000 → ∀ st : Stt, ∃ J m, m_law_names a n [emb c] st = .ok (.loc m) (st ++ J) ∧ (st ++ J)[m]? = some (.lst ((nstr (nms c)).map D.str)) := by
  intro c
  induction c with
  | wd b =>
    intro n hn hl st
    obtain ⟨n, rfl⟩ : ∃ k, n = k + 1 := ⟨n - 1, by omega⟩
    cases b <;> (refine ⟨[.lst []], st.length, ?_, by simp [nms, nstr]⟩; simp [m_law_names, f_law_names, law_names_i1, law_names_i2, law_names_i3, emb])
  | ty x =>
    intro n hn hl st
    obtain ⟨n, rfl⟩ : ∃ k, n = k + 1 := ⟨n - 1, by omega⟩
    refine ⟨[.lst [.str (tx (nmc x))]], st.length, ?_, by simp [nms, nstr]⟩
    simp [m_law_names, f_law_names, law_names_i1, law_names_i2, law_names_i3, emb]
  | sg k p ih =>
    intro n hn hl st
    obtain ⟨n, rfl⟩ : ∃ k, n = k + 1 := ⟨n - 1, by simp only [dep] at hn; omega⟩
    simp only [dep] at hn
    obtain ⟨J, m, h1, h2⟩ := ih n (by omega) (by simpa [nms] using hl) (st ++ [.lst []])
    refine ⟨.lst [] :: J, m, ?_, by simpa [nms] using h2⟩
    cases k <;> simp [m_law_names, f_law_names, law_names_i1, law_names_i2, law_names_i3, emb, h1]
  | row2 o p q ih1 ih2 =>
    intro n hn hl st
    obtain ⟨n, rfl⟩ : ∃ k, n = k + 1 := ⟨n - 1, by simp only [dep] at hn; omega⟩
    simp only [dep] at hn
    simp only [nms, List.length_append] at hl
    obtain ⟨K1, f1, e1, g1⟩ := ln_step a n p (ih1 n (by omega) (by omega)) (some (emb (.row2 o p q))) st.length [] (st ++ [.lst []]) (by simp) (by simp; omega)
    obtain ⟨K2, f2, e2, g2⟩ := ln_step a n q (ih2 n (by omega) (by omega)) (some (emb (.row2 o p q))) f1 _ _ g1 (by simp [nstr]; omega)
    refine ⟨.lst [] :: (K1 ++ K2), f2, ?_, by simpa [nms, nstr] using g2⟩
    simp only [List.append_assoc, List.cons_append, List.nil_append, emb] at e1 e2
    cases o <;> (simp only [roc] at e1 e2; simp [m_law_names, f_law_names, law_names_i1, law_names_i2, law_names_i3, law_names_f1, emb, forF_cons, e1, e2])
  | row3 o p q r ih1 ih2 ih3 =>
    intro n hn hl st
    obtain ⟨n, rfl⟩ : ∃ k, n = k + 1 := ⟨n - 1, by simp only [dep] at hn; omega⟩
    simp only [dep] at hn
    simp only [nms, List.length_append] at hl
    obtain ⟨K1, f1, e1, g1⟩ := ln_step a n p (ih1 n (by omega) (by omega)) (some (emb (.row3 o p q r))) st.length [] (st ++ [.lst []]) (by simp) (by simp; omega)
    obtain ⟨K2, f2, e2, g2⟩ := ln_step a n q (ih2 n (by omega) (by omega)) (some (emb (.row3 o p q r))) f1 _ _ g1 (by simp [nstr]; omega)
    obtain ⟨K3, f3, e3, g3⟩ := ln_step a n r (ih3 n (by omega) (by omega)) (some (emb (.row3 o p q r))) f2 _ _ g2 (by simp [nstr]; omega)
    refine ⟨.lst [] :: (K1 ++ (K2 ++ K3)), f3, ?_, by simpa [nms, nstr] using g3⟩
    simp only [List.append_assoc, List.cons_append, List.nil_append, emb] at e1 e2 e3
    cases o <;> (simp only [roc] at e1 e2 e3; simp [m_law_names, f_law_names, law_names_i1, law_names_i2, law_names_i3, law_names_f1, emb, forF_cons, e1, e2, e3])
end
end Law

set_option Elab.async false
set_option linter.all false
set_option maxRecDepth 100000
set_option maxHeartbeats 2000000
namespace Law
open PySem PySem.Spec PyProof.Rows L2 Rg
/-! ### the dict of the names -/
theorem put_in (kvs : List (Key × D)) (k : Key) (v : D) (h : k ∈ kvs.map (·.1)) : (putD kvs k v).map (·.1) = kvs.map (·.1) := by
  unfold putD
  have h2 : (kvs.any fun kv => decide (kv.1 = k)) = true := by
    obtain ⟨p, hp, e⟩ := List.mem_map.mp h
    exact List.any_eq_true.mpr ⟨p, hp, by simpa using e⟩
  rw [if_pos h2, List.map_map]
  refine List.map_congr_left fun p _ => ?_
  show (if p.1 = k then (p.1, v) else p).1 = p.1
  split <;> rfl
theorem put_new (kvs : List (Key × D)) (k : Key) (v : D) (h : ¬ k ∈ kvs.map (·.1)) : (putD kvs k v).map (·.1) = kvs.map (·.1) ++ [k] := by
  unfold putD
  have h2 : ¬ (kvs.any fun kv => decide (kv.1 = k)) = true := fun z => by
    obtain ⟨p, hp, e⟩ := List.any_eq_true.mp z
    exact h (List.mem_map.mpr ⟨p, hp, by simpa using e⟩)
  rw [if_neg h2]
  simp
theorem merge_keys (v : D) : ∀ (l : List Str) (acc : List (Key × D)) (ks : List Str), acc.map (·.1) = ks.map Sum.inr → ks.Nodup →
    ∃ ms : List Str, ((l.map fun x => ((Sum.inr x : Key), v)).foldl (fun acc kv => putD acc kv.1 kv.2) acc).map (·.1) = ms.map Sum.inr ∧ ms.Nodup ∧ (∀ x, x ∈ ms ↔ x ∈ ks ∨ x ∈ l) ∧ ms.length ≤ ks.length + l.length
  | [], acc, ks, h, hn => ⟨ks, h, hn, fun x => by simp, by simp⟩
  | k :: l, acc, ks, h, hn => by
    by_cases hm : k ∈ ks
    · have hk := put_in acc (.inr k) v (by rw [h]; exact List.mem_map.mpr ⟨k, hm, rfl⟩)
      rw [h] at hk
      obtain ⟨ms, h1, h2, h3, h4⟩ := merge_keys v l _ ks hk hn
      refine ⟨ms, h1, h2, fun x => ?_, by simp; omega⟩
      rw [h3 x, List.mem_cons]
      constructor
      · rintro (z | z) <;> simp [z]
      · rintro (z | rfl | z) <;> simp_all
    · have hk := put_new acc (.inr k) v (by rw [h]; exact fun z => hm (by obtain ⟨y, hy, e⟩ := List.mem_map.mp z; cases e; exact hy))
      rw [h] at hk
      obtain ⟨ms, h1, h2, h3, h4⟩ := merge_keys v l (putD acc (.inr k) v) (ks ++ [k]) (by rw [hk]; simp) (by rw [List.nodup_append]; exact ⟨hn, by simp, fun x hx y hy e => by simp at hy; subst hy; subst e; exact hm hx⟩)
      refine ⟨ms, h1, h2, fun x => ?_, by simp at h4 ⊢; omega⟩
      rw [h3 x]; simp [or_assoc]
theorem pairs_l (v : D) : ∀ l : List Str, pairsD (l.map fun x => .tup [.str x, v]) = some (l.map fun x => ((Sum.inr x : Key), v))
  | [] => rfl
  | x :: l => by
    show ((keyD (.str x)).bind fun k => (pairsD (l.map _)).map ((k, v) :: ·)) = _
    rw [pairs_l v l]; rfl
section
variable (a : Ads)
/-- [(name, True) for name in names] -/
theorem pairs_run (l : List Str) (hl : l.length < 1000) (st : Stt) (n : Nat) (h : st[n]? = some (.lst (l.map D.str))) (x0 x1 x2' x3 x4 x5 : Option D) :
    compF st.length (fun s => items s (.loc n) = some (l.map D.str)) (gN 6) xYes (xTup (xCons (xV 6) (xCons (xC (.bl true)) (xNil)))) [x0, x1, x2', x3, x4, x5, none] (l.map D.str) (st ++ [.lst []]) = .ok () (st ++ [.lst (l.map fun x => .tup [.str x, .bl true])]) := by
  obtain ⟨st', acc, h6, h7, h8⟩ := compF_inv (L := st.length) (ok := fun s => items s (.loc n) = some (l.map D.str)) (g := gN 6) (t := xYes) (f := (xTup (xCons (xV 6) (xCons (xC (.bl true)) (xNil))))) (ρ := [x0, x1, x2', x3, x4, x5, none]) (its := l.map D.str)
    (fun i s acc => s = st ++ [.lst acc] ∧ acc = (l.take i).map fun x => D.tup [.str x, .bl true])
    (fun i s acc hi ⟨hs, _⟩ => by subst hs; rw [items_at, at_old h])
    (fun i d s acc hd ⟨hs, ha⟩ => by
      subst hs
      rw [List.getElem?_map] at hd
      obtain ⟨y, hy, rfl⟩ := Option.map_eq_some_iff.mp hd
      have hi : i < l.length := (List.getElem?_eq_some_iff.mp hy).1
      have hll : acc.length < 16777216 := by rw [ha, List.length_map, List.length_take]; omega
      refine ⟨_, rfl, true, _, rfl, (fun h => by cases h), fun _ => ⟨.tup [.str y, .bl true], st ++ [.lst acc], by simp, by simp, by simpa using hll, by simp, by rw [List.take_succ, hy, ha]; simp⟩⟩)
    (st := st ++ [.lst []]) ⟨rfl, by simp⟩
  rw [h6, h7, h8]
  simp [-List.map_take]
end
end Law

set_option Elab.async false
set_option linter.all false
set_option maxRecDepth 100000
set_option maxHeartbeats 2000000
namespace Law
open PySem PySem.Spec PyProof.Rows L2 Rg
/-! ### the printed form: 0 = at the top, 1 = in an or, 2 = in a seq, 3 = before a sign -/
def brk (ar : Nat) : C → Bool
  | .row2 true _ _ | .row3 true _ _ _ => ar != 0
  | .row2 false _ _ | .row3 false _ _ _ => ar != 0 && ar != 1
  | _ => false
def br (ar : Nat) (c : C) (t : List Nat) : List Nat := if brk ar c = true then 40 :: (t ++ [41]) else t
def roa : Bool → Nat | true => 1 | false => 2
def sep : Bool → List Nat | true => [32,124,32] | false => [44,32]
def txt : C → List Nat
  | .wd b => wdc b | .ty x => nmc x
  | .row2 o p q => br (roa o) p (txt p) ++ (sep o ++ br (roa o) q (txt q))
  | .row3 o p q r => br (roa o) p (txt p) ++ (sep o ++ (br (roa o) q (txt q) ++ (sep o ++ br (roa o) r (txt r))))
  | .sg k p => br 3 p (txt p) ++ sgn k
abbrev It := List Nat ⊕ C
def embI : It → D | .inl s => .str (tx s) | .inr c => emb c
def txtI : It → List Nat | .inl s => s | .inr c => txt c
def pbr (ar : Nat) (c : C) : List It := if brk ar c = true then [.inl [40], .inr c, .inl [41]] else [.inr c]
def pp : C → List It
  | .wd b => [.inl (wdc b)] | .ty x => [.inl (nmc x)]
  | .row2 o p q => pbr (roa o) p ++ (.inl (sep o) :: pbr (roa o) q)
  | .row3 o p q r => pbr (roa o) p ++ (.inl (sep o) :: (pbr (roa o) q ++ (.inl (sep o) :: pbr (roa o) r)))
  | .sg k p => pbr 3 p ++ [.inl (sgn k)]
def bw (ar : Nat) (c : C) : Nat := if brk ar c = true then 2 else 0
def cost : C → Nat
  | .wd _ => 2 | .ty _ => 2
  | .row2 o p q => 1 + (bw (roa o) p + cost p + (1 + (bw (roa o) q + cost q)))
  | .row3 o p q r => 1 + (bw (roa o) p + cost p + (1 + (bw (roa o) q + cost q + (1 + (bw (roa o) r + cost r)))))
  | .sg k p => 1 + (bw 3 p + cost p + 1)
def wI : It → Nat | .inl _ => 1 | .inr c => cost c
def wIs (l : List It) : Nat := (l.map wI).sum
def txtIs (l : List It) : List Nat := (l.map txtI).flatten
@[simp] theorem wIs_app (l m : List It) : wIs (l ++ m) = wIs l + wIs m := by simp [wIs]
@[simp] theorem wIs_cons (x : It) (m : List It) : wIs (x :: m) = wI x + wIs m := by simp [wIs]
@[simp] theorem wIs_nil : wIs [] = 0 := rfl
@[simp] theorem txtIs_app (l m : List It) : txtIs (l ++ m) = txtIs l ++ txtIs m := by simp [txtIs]
@[simp] theorem txtIs_cons (x : It) (m : List It) : txtIs (x :: m) = txtI x ++ txtIs m := by simp [txtIs]
@[simp] theorem txtIs_nil : txtIs [] = [] := rfl
@[simp] theorem wIs_pbr (ar : Nat) (c : C) : wIs (pbr ar c) = bw ar c + cost c := by unfold pbr bw; split <;> simp [wI]; omega
@[simp] theorem txt_pbr (ar : Nat) (c : C) : txtIs (pbr ar c) = br ar c (txt c) := by unfold pbr br; split <;> simp [txtI]
theorem cost_pp (c : C) : cost c = 1 + wIs (pp c) := by cases c <;> simp [cost, pp, wI]
theorem txt_pp (c : C) : txtIs (pp c) = txt c := by cases c <;> simp [txt, pp, txtI]
theorem cost_pos (c : C) : 1 ≤ cost c := by rw [cost_pp]; omega
theorem wI_pos (x : It) : 1 ≤ wI x := by cases x with | inl _ => exact Nat.le_refl _ | inr c => exact cost_pos c
theorem len_wIs : ∀ l : List It, l.length ≤ wIs l
  | [] => Nat.zero_le _
  | x :: l => by have := len_wIs l; have := wI_pos x; simp; omega
theorem bw_le (ar : Nat) (c : C) : bw ar c ≤ 2 := by unfold bw; split <;> omega
def cb : Nat → Nat | 0 => 2 | n + 1 => 3 + 3 * (2 + cb n)
theorem cb_ge : ∀ n, 2 ≤ cb n | 0 => Nat.le_refl _ | n + 1 => by simp [cb]; omega
theorem cost_le : ∀ (c : C) (n : Nat), dep c ≤ n → cost c ≤ cb n
  | .wd _, n, _ => cb_ge n
  | .ty _, n, _ => cb_ge n
  | .row2 _ p q, 0, h => by simp [dep] at h
  | .row3 _ p q r, 0, h => by simp [dep] at h
  | .sg _ p, 0, h => by simp [dep] at h
  | .row2 o p q, n + 1, h => by
    simp only [dep] at h
    have := cost_le p n (by omega); have := cost_le q n (by omega); have := bw_le (roa o) p; have := bw_le (roa o) q
    simp [cost, cb]; omega
  | .row3 o p q r, n + 1, h => by
    simp only [dep] at h
    have := cost_le p n (by omega); have := cost_le q n (by omega); have := cost_le r n (by omega); have := bw_le (roa o) p; have := bw_le (roa o) q; have := bw_le (roa o) r
    simp [cost, cb]; omega
  | .sg _ p, n + 1, h => by
    simp only [dep] at h
    have := cost_le p n (by omega); have := bw_le 3 p
    simp [cost, cb]; omega
theorem len_br (ar : Nat) (c : C) (t : List Nat) : (br ar c t).length = bw ar c + t.length := by unfold br bw; split <;> simp; omega
theorem txt_le : ∀ c : C, (txt c).length ≤ 8 * cost c
  | .wd b => by cases b <;> simp [txt, cost]
  | .ty x => by cases x <;> simp [txt, cost, nmc]
  | .row2 o p q => by have := txt_le p; have := txt_le q; have : (sep o).length ≤ 3 := by cases o <;> simp [sep]
                      simp [txt, cost, len_br]; omega
  | .row3 o p q r => by have := txt_le p; have := txt_le q; have := txt_le r; have : (sep o).length ≤ 3 := by cases o <;> simp [sep]
                        simp [txt, cost, len_br]; omega
  | .sg k p => by have := txt_le p
                  cases k <;> (simp [txt, cost, len_br]; omega)
section
variable (a : Ads)
/-- the word around, in print_content -/
def arw : Nat → List Nat → Prop := fun ar w => (ar = 1 ∧ w = [111,114]) ∨ (ar = 2 ∧ w = [115,101,113]) ∨ (ar = 3 ∧ ∃ k, w = sgc k)
theorem brk_ok (ar : Nat) (w : List Nat) (h : arw ar w) (c : C) (st : Stt) : m_bracketed a [emb c, .str (tx w)] st = .ok (.loc st.length) (st ++ [.lst ((pbr ar c).map embI)]) := by
  rcases h with ⟨rfl, rfl⟩ | ⟨rfl, rfl⟩ | ⟨rfl, k, rfl⟩
  · cases c with
    | wd b => cases b <;> simp [m_bracketed, f_bracketed, bracketed_i1, emb, pbr, brk, embI]
    | ty x => simp [m_bracketed, f_bracketed, bracketed_i1, emb, pbr, brk, embI]
    | row2 o _ _ => cases o <;> simp [m_bracketed, f_bracketed, bracketed_i1, emb, pbr, brk, embI]
    | row3 o _ _ _ => cases o <;> simp [m_bracketed, f_bracketed, bracketed_i1, emb, pbr, brk, embI]
    | sg k _ => cases k <;> simp [m_bracketed, f_bracketed, bracketed_i1, emb, pbr, brk, embI]
  · cases c with
    | wd b => cases b <;> simp [m_bracketed, f_bracketed, bracketed_i1, emb, pbr, brk, embI]
    | ty x => simp [m_bracketed, f_bracketed, bracketed_i1, emb, pbr, brk, embI]
    | row2 o _ _ => cases o <;> simp [m_bracketed, f_bracketed, bracketed_i1, emb, pbr, brk, embI]
    | row3 o _ _ _ => cases o <;> simp [m_bracketed, f_bracketed, bracketed_i1, emb, pbr, brk, embI]
    | sg k _ => cases k <;> simp [m_bracketed, f_bracketed, bracketed_i1, emb, pbr, brk, embI]
  · cases c with
    | wd b => cases b <;> simp [m_bracketed, f_bracketed, bracketed_i1, emb, pbr, brk, embI]
    | ty x => simp [m_bracketed, f_bracketed, bracketed_i1, emb, pbr, brk, embI]
    | row2 o _ _ => cases o <;> cases k <;> simp [m_bracketed, f_bracketed, bracketed_i1, emb, pbr, brk, embI]
    | row3 o _ _ _ => cases o <;> cases k <;> simp [m_bracketed, f_bracketed, bracketed_i1, emb, pbr, brk, embI]
    | sg k _ => cases k <;> simp [m_bracketed, f_bracketed, bracketed_i1, emb, pbr, brk, embI]
theorem pp_step (o : Bool) (c : C) (x1 x2' : Option D) (l : List D) (J st : Stt) (hl : l.length < 1000) (x : Option D) :
    ∃ K, printed_parts_fb1 a [x1, some (.str (tx (roc o))), some (.loc st.length), some (emb c)] (st ++ .lst l :: J) = .nx [x1, some (.str (tx (roc o))), some (.loc st.length), some (emb c)] (st ++ .lst ((if l.isEmpty then [] else l ++ [.str (tx (sep o))]) ++ (pbr (roa o) c).map embI) :: (J ++ K)) := by
  have h := brk_ok a (roa o) (roc o) (by cases o <;> simp [arw, roa]) c
  have h3 : (pbr (roa o) c).length ≤ 3 := by unfold pbr; split <;> simp
  have l1 : l.length < 16777216 := by omega
  have l2 : (pbr (roa o) c).length ≤ 16777216 := by omega
  have l3 : l.length + 1 + (pbr (roa o) c).length ≤ 16777216 := by omega
  cases l with
  | nil => cases o <;> (simp only [roc] at h; simp [printed_parts_fb1, printed_parts_i1, h, l2])
  | cons y l => cases o <;> (simp only [roc] at h; simp at l1 l3; simp [printed_parts_fb1, printed_parts_i1, h, l1, l3, sep])
theorem pp_ok (c : C) (st : Stt) : ∃ J n, m_printed_parts a [emb c] st = .ok (.loc n) (st ++ J) ∧ (st ++ J)[n]? = some (.lst ((pp c).map embI)) := by
  cases c with
  | wd b => cases b <;> simp [m_printed_parts, f_printed_parts, printed_parts_i4, emb, pp, embI] <;> exact ⟨_, _, ⟨rfl, rfl⟩, by simp⟩
  | ty x => simp [m_printed_parts, f_printed_parts, printed_parts_i4, printed_parts_i3, emb, pp, embI]; exact ⟨_, _, ⟨rfl, rfl⟩, by simp⟩
  | sg k p =>
    have h := brk_ok a 3 (sgc k) (.inr (.inr ⟨rfl, k, rfl⟩)) p
    have h3 : (pbr 3 p).length ≤ 3 := by unfold pbr; split <;> simp
    have l1 : (pbr 3 p).length + 1 ≤ 16777216 := by omega
    refine ⟨[.lst ((pbr 3 p).map embI), .lst [.str (tx (sgn k))], .lst ((pp (.sg k p)).map embI)], st.length + 2, ?_, by simp⟩
    cases k <;> (simp only [sgc] at h; simp [m_printed_parts, f_printed_parts, printed_parts_i4, printed_parts_i3, printed_parts_i2, emb, pp, embI, h, l1])
  | row2 o p q =>
    have hp : (pbr (roa o) p).length ≤ 3 := by unfold pbr; split <;> simp
    have hn : ∀ c, pbr (roa o) c ≠ [] := fun c => by unfold pbr; split <;> simp
    obtain ⟨K1, e1⟩ := pp_step a o p (some (emb (.row2 o p q))) none [] [] st (by simp) none
    obtain ⟨K2, e2⟩ := pp_step a o q (some (emb (.row2 o p q))) none ((pbr (roa o) p).map embI) K1 st (by simp; omega) none
    refine ⟨.lst ((pp (.row2 o p q)).map embI) :: (K1 ++ K2), st.length, ?_, by simp⟩
    simp [hn] at e1 e2
    simp only [emb] at e1 e2
    cases o <;> (simp only [roc] at e1 e2; simp [m_printed_parts, f_printed_parts, printed_parts_i4, printed_parts_i3, printed_parts_i2, printed_parts_f1, emb, pp, embI, forF_cons, e1, e2])
  | row3 o p q r =>
    have hp : ∀ c, (pbr (roa o) c).length ≤ 3 := fun c => by unfold pbr; split <;> simp
    have hn : ∀ c, pbr (roa o) c ≠ [] := fun c => by unfold pbr; split <;> simp
    have hp1 := hp p; have hp2 := hp q
    obtain ⟨K1, e1⟩ := pp_step a o p (some (emb (.row3 o p q r))) none [] [] st (by simp) none
    obtain ⟨K2, e2⟩ := pp_step a o q (some (emb (.row3 o p q r))) none ((pbr (roa o) p).map embI) K1 st (by simp; omega) none
    obtain ⟨K3, e3⟩ := pp_step a o r (some (emb (.row3 o p q r))) none ((pbr (roa o) p).map embI ++ [.str (tx (sep o))] ++ (pbr (roa o) q).map embI) (K1 ++ K2) st (by simp; omega) none
    refine ⟨.lst ((pp (.row3 o p q r)).map embI) :: (K1 ++ K2 ++ K3), st.length, ?_, by simp⟩
    simp [hn] at e1 e2 e3
    simp only [emb] at e1 e2 e3
    cases o <;> (simp only [roc] at e1 e2 e3; simp [m_printed_parts, f_printed_parts, printed_parts_i4, printed_parts_i3, printed_parts_i2, printed_parts_f1, emb, pp, embI, forF_cons, e1, e2, e3])
end
end Law

set_option Elab.async false
set_option linter.all false
set_option maxRecDepth 100000
set_option maxHeartbeats 2000000
namespace Law
open PySem PySem.Spec PyProof.Rows L2 Rg
section
variable (a : Ads)
theorem emb_nostr (c : C) (st : Stt) : oIsi "str" (emb c) st = some (.bl false, st) := by cases c <;> simp [emb]
theorem flat_len (ws : List (List Nat)) : (ws.map (·.length)).sum = ws.flatten.length := by simp [List.length_flatten]
theorem print_ok (c : C) (hc : cost c < 100000) (st : Stt) : ∃ J, m_print_content a [emb c] st = .ok (.str (tx (txt c))) (st ++ J) := by
  have hT := txt_le c
  obtain ⟨ρ', st', h, ws, J, hw, hs, hρ⟩ := sWhile_inv (c := print_content_wt1 a) (f := print_content_wb1 a)
    (fun k ρ s => ∃ (ws : List (List Nat)) (its : List It) (J : Stt) (v : Option D), ws.length + k ≤ cost c ∧ wIs its = k ∧ ws.flatten ++ txtIs its = txt c ∧ s = st ++ .lst (ws.map fun w => .str (tx w)) :: .lst ((its.map embI).reverse) :: J ∧ ρ = [some (emb c), some (.loc st.length), some (.loc (st.length + 1)), v])
    (fun ρ s => ∃ (ws : List (List Nat)) (J : Stt), ws.flatten = txt c ∧ s = st ++ .lst (ws.map fun w => .str (tx w)) :: J ∧ ∃ v, ρ = [some (emb c), some (.loc st.length), some (.loc (st.length + 1)), v]) (k := cost c) (ρ := [some (emb c), some (.loc st.length), some (.loc (st.length + 1)), none]) (st := st ++ [.lst [], .lst [emb c]])
    (fun k ρ s ⟨ws, its, J, v, hl, hk, ht, hs, hρ⟩ => by
      subst hs hρ
      cases its with
      | nil => left; exact ⟨st ++ .lst (ws.map fun w => .str (tx w)) :: .lst [] :: J, by simp [print_content_wt1], ws, .lst [] :: J, by simpa using ht, rfl, v, rfl⟩
      | cons it its =>
        right
        have l1 : ws.length < 16777216 := by have := wI_pos it; simp at hk; omega
        have t1 : print_content_wt1 a [some (emb c), some (.loc st.length), some (.loc (st.length + 1)), v] (st ++ .lst (ws.map fun w => .str (tx w)) :: .lst (((it :: its).map embI).reverse) :: J) = .ok true (st ++ .lst (ws.map fun w => .str (tx w)) :: .lst (((it :: its).map embI).reverse) :: J) := by
          simp [print_content_wt1]
        cases it with
        | inl x =>
          have e : print_content_wb1 a [some (emb c), some (.loc st.length), some (.loc (st.length + 1)), v] (st ++ .lst (ws.map fun w => .str (tx w)) :: .lst (((.inl x :: its).map embI).reverse) :: J) = .nx [some (emb c), some (.loc st.length), some (.loc (st.length + 1)), some (.str (tx x))] (st ++ .lst ((ws ++ [x]).map fun w => .str (tx w)) :: .lst ((its.map embI).reverse) :: J) := by
            simp [print_content_wb1, print_content_i1, l1, embI]
          exact ⟨_, t1, _, _, .inl e, wIs its, by simp [wI] at hk; omega, ws ++ [x], its, J, _, by simp [wI] at hk ⊢; omega, rfl, by simpa [txtI] using ht, rfl, rfl⟩
        | inr d =>
          have hsz : (its.length + (pp d).length) ≤ 16777216 := by
            have := len_wIs its; have := len_wIs (pp d); have := cost_pp d; simp [wI] at hk; omega
          have e : ∃ J', print_content_wb1 a [some (emb c), some (.loc st.length), some (.loc (st.length + 1)), v] (st ++ .lst (ws.map fun w => .str (tx w)) :: .lst (((.inr d :: its).map embI).reverse) :: J) = .nx [some (emb c), some (.loc st.length), some (.loc (st.length + 1)), some (emb d)] (st ++ .lst (ws.map fun w => .str (tx w)) :: .lst (((pp d ++ its).map embI).reverse) :: J') := by
            obtain ⟨K, n, h1, h2⟩ := pp_ok a d (st ++ .lst (ws.map fun w => .str (tx w)) :: .lst ((its.map embI).reverse) :: J)
            refine ⟨J ++ K ++ [.lst ((pp d).map embI).reverse], ?_⟩
            simp at h1 h2
            simp [-oIsi_run, print_content_wb1, print_content_i1, embI, emb_nostr, h1, h2, hsz]
          obtain ⟨J', e⟩ := e
          exact ⟨_, t1, _, _, .inl e, wIs (pp d ++ its), by have := cost_pp d; simp [wI] at hk ⊢; omega, ws, pp d ++ its, J', _, by have := cost_pp d; simp [wI] at hk ⊢; omega, rfl, by simpa [txtI, txt_pp] using ht, rfl, rfl⟩)
    (by omega) ⟨[], [.inr c], [], none, by simp, by simp [wI], by simp [txtI], by simp [embI], rfl⟩
  obtain ⟨v, hρ⟩ := hρ
  subst hs hρ
  have hl : (ws.map (·.length)).sum ≤ 16777216 := by rw [flat_len, hw]; omega
  have hj := join_l [] ws
  have hin : ∀ l : List (List Nat), (l.intersperse []).flatten = l.flatten := by
    intro l
    induction l with
    | nil => rfl
    | cons y l ih =>
      cases l with
      | nil => rfl
      | cons z l => simpa using ih
  rw [hin, hw] at hj
  have ht := txts_l ws
  refine ⟨.lst (ws.map fun w => .str (tx w)) :: J, ?_⟩
  simp [m_print_content, f_print_content, print_content_w1, h, ht, hj, Function.comp_def, hl]
end
end Law

set_option Elab.async false
set_option linter.all false
set_option maxRecDepth 100000
set_option maxHeartbeats 2000000
namespace Law
open PySem PySem.Spec PyProof.Rows L2 Rg
@[simp] theorem txts_nil : txts [] = some [] := rfl
@[simp] theorem txts_cons (x : Str) (r : List D) : txts (.str x :: r) = (txts r).map (x :: ·) := rfl
@[simp] theorem join2 (s x y : List Nat) : Txt.join ⟨s.toArray⟩ [⟨x.toArray⟩, ⟨y.toArray⟩] = ⟨(x ++ (s ++ y)).toArray⟩ := by
  have := join_l s [x, y]
  simpa using this
@[simp] theorem join3 (s x y z : List Nat) : Txt.join ⟨s.toArray⟩ [⟨x.toArray⟩, ⟨y.toArray⟩, ⟨z.toArray⟩] = ⟨(x ++ (s ++ (y ++ (s ++ z)))).toArray⟩ := by
  have := join_l s [x, y, z]
  simpa using this
@[simp] theorem br_wd (ar : Nat) (b : Bool) (t : List Nat) : br ar (.wd b) t = t := by simp [br, brk]
@[simp] theorem br_ty (ar : Nat) (b : Nm) (t : List Nat) : br ar (.ty b) t = t := by simp [br, brk]
@[simp] theorem br_sg (ar : Nat) (k : Sg) (p : C) (t : List Nat) : br ar (.sg k p) t = t := by simp [br, brk]
theorem br_row2 (ar : Nat) (o : Bool) (p q : C) (t : List Nat) : br ar (.row2 o p q) t = if (ar = 0 ∨ (o = false ∧ ar = 1)) then t else 40 :: (t ++ [41]) := by
  cases o <;> simp [br, brk] <;> (split <;> split <;> first | rfl | omega | simp_all)
theorem br_row3 (ar : Nat) (o : Bool) (p q r : C) (t : List Nat) : br ar (.row3 o p q r) t = if (ar = 0 ∨ (o = false ∧ ar = 1)) then t else 40 :: (t ++ [41]) := by
  cases o <;> simp [br, brk] <;> (split <;> split <;> first | rfl | omega | simp_all)
def arl : Nat → List Nat | 0 => [] | 1 => [111,114] | 2 => [115,101,113] | _ => [115,105,103,110]
theorem oGet_sg (k : Sg) (s : Stt) (n : Nat) (h : s[n]? = some (.dct (mergeD [(.inr ⟨#[115,116,97,114]⟩, .str ⟨#[42]⟩), (.inr ⟨#[112,108,117,115]⟩, .str ⟨#[43]⟩), (.inr ⟨#[109,97,121,98,101]⟩, .str ⟨#[63]⟩)]))) :
    oGet (.loc n) (.str (tx (sgc k))) s = some (.str (tx (sgn k)), s) := by
  unfold oGet
  rw [dctAt_at, h]
  cases k <;> simp [mergeD, putD, getD', keyD]
section
variable (a : Ads)
theorem lt2_true0 (n : Nat) (p q : C) (A B : List Nat) (Jp Jq : Stt → Stt) (hp : ∀ st, m_law_text a n [emb p, .str (tx [111,114])] st = .ok (.str (tx A)) (st ++ Jp st)) (hq : ∀ st, m_law_text a n [emb q, .str (tx [111,114])] st = .ok (.str (tx B)) (st ++ Jq st)) (l1 : A.length + B.length + 10 ≤ 16777216) (st : Stt) :
    ∃ J, m_law_text a (n + 1) [emb (.row2 true p q), .str (tx [])] st = .ok (.str (tx ((A ++ ([32,124,32] ++ B))))) (st ++ J) := by
  have k0 : ([A, B].map (·.length)).sum + [A, B].length * ([32,124,32] : List Nat).length ≤ 16777216 := by simp; omega
  have k1 : (tx [40]).length + (tx (A ++ ([32,124,32] ++ B))).length ≤ 16777216 := by simp; omega
  have k2 : (tx (40 :: (A ++ ([32,124,32] ++ B)))).length + (tx [41]).length ≤ 16777216 := by simp; omega
  simp at k0 k1 k2
  simp [m_law_text, f_law_text, law_text_i1, law_text_i2, law_text_i3, law_text_i4, emb, compF_cons, hp, hq, k0, k1, k2]
theorem lt3_true0 (n : Nat) (p q r : C) (A B E : List Nat) (Jp Jq Jr : Stt → Stt) (hp : ∀ st, m_law_text a n [emb p, .str (tx [111,114])] st = .ok (.str (tx A)) (st ++ Jp st)) (hq : ∀ st, m_law_text a n [emb q, .str (tx [111,114])] st = .ok (.str (tx B)) (st ++ Jq st)) (hr : ∀ st, m_law_text a n [emb r, .str (tx [111,114])] st = .ok (.str (tx E)) (st ++ Jr st)) (l1 : A.length + B.length + E.length + 15 ≤ 16777216) (st : Stt) :
    ∃ J, m_law_text a (n + 1) [emb (.row3 true p q r), .str (tx [])] st = .ok (.str (tx ((A ++ ([32,124,32] ++ (B ++ ([32,124,32] ++ E))))))) (st ++ J) := by
  have k0 : ([A, B, E].map (·.length)).sum + [A, B, E].length * ([32,124,32] : List Nat).length ≤ 16777216 := by simp; omega
  have k1 : (tx [40]).length + (tx (A ++ ([32,124,32] ++ (B ++ ([32,124,32] ++ E))))).length ≤ 16777216 := by simp; omega
  have k2 : (tx (40 :: (A ++ ([32,124,32] ++ (B ++ ([32,124,32] ++ E)))))).length + (tx [41]).length ≤ 16777216 := by simp; omega
  simp at k0 k1 k2
  simp [m_law_text, f_law_text, law_text_i1, law_text_i2, law_text_i3, law_text_i4, emb, compF_cons, hp, hq, hr, k0, k1, k2]
theorem lt2_true1 (n : Nat) (p q : C) (A B : List Nat) (Jp Jq : Stt → Stt) (hp : ∀ st, m_law_text a n [emb p, .str (tx [111,114])] st = .ok (.str (tx A)) (st ++ Jp st)) (hq : ∀ st, m_law_text a n [emb q, .str (tx [111,114])] st = .ok (.str (tx B)) (st ++ Jq st)) (l1 : A.length + B.length + 10 ≤ 16777216) (st : Stt) :
    ∃ J, m_law_text a (n + 1) [emb (.row2 true p q), .str (tx [111,114])] st = .ok (.str (tx (40 :: ((A ++ ([32,124,32] ++ B)) ++ [41])))) (st ++ J) := by
  have k0 : ([A, B].map (·.length)).sum + [A, B].length * ([32,124,32] : List Nat).length ≤ 16777216 := by simp; omega
  have k1 : (tx [40]).length + (tx (A ++ ([32,124,32] ++ B))).length ≤ 16777216 := by simp; omega
  have k2 : (tx (40 :: (A ++ ([32,124,32] ++ B)))).length + (tx [41]).length ≤ 16777216 := by simp; omega
  simp at k0 k1 k2
  simp [m_law_text, f_law_text, law_text_i1, law_text_i2, law_text_i3, law_text_i4, emb, compF_cons, hp, hq, k0, k1, k2]
theorem lt3_true1 (n : Nat) (p q r : C) (A B E : List Nat) (Jp Jq Jr : Stt → Stt) (hp : ∀ st, m_law_text a n [emb p, .str (tx [111,114])] st = .ok (.str (tx A)) (st ++ Jp st)) (hq : ∀ st, m_law_text a n [emb q, .str (tx [111,114])] st = .ok (.str (tx B)) (st ++ Jq st)) (hr : ∀ st, m_law_text a n [emb r, .str (tx [111,114])] st = .ok (.str (tx E)) (st ++ Jr st)) (l1 : A.length + B.length + E.length + 15 ≤ 16777216) (st : Stt) :
    ∃ J, m_law_text a (n + 1) [emb (.row3 true p q r), .str (tx [111,114])] st = .ok (.str (tx (40 :: ((A ++ ([32,124,32] ++ (B ++ ([32,124,32] ++ E)))) ++ [41])))) (st ++ J) := by
  have k0 : ([A, B, E].map (·.length)).sum + [A, B, E].length * ([32,124,32] : List Nat).length ≤ 16777216 := by simp; omega
  have k1 : (tx [40]).length + (tx (A ++ ([32,124,32] ++ (B ++ ([32,124,32] ++ E))))).length ≤ 16777216 := by simp; omega
  have k2 : (tx (40 :: (A ++ ([32,124,32] ++ (B ++ ([32,124,32] ++ E)))))).length + (tx [41]).length ≤ 16777216 := by simp; omega
  simp at k0 k1 k2
  simp [m_law_text, f_law_text, law_text_i1, law_text_i2, law_text_i3, law_text_i4, emb, compF_cons, hp, hq, hr, k0, k1, k2]
theorem lt2_true2 (n : Nat) (p q : C) (A B : List Nat) (Jp Jq : Stt → Stt) (hp : ∀ st, m_law_text a n [emb p, .str (tx [111,114])] st = .ok (.str (tx A)) (st ++ Jp st)) (hq : ∀ st, m_law_text a n [emb q, .str (tx [111,114])] st = .ok (.str (tx B)) (st ++ Jq st)) (l1 : A.length + B.length + 10 ≤ 16777216) (st : Stt) :
    ∃ J, m_law_text a (n + 1) [emb (.row2 true p q), .str (tx [115,101,113])] st = .ok (.str (tx (40 :: ((A ++ ([32,124,32] ++ B)) ++ [41])))) (st ++ J) := by
  have k0 : ([A, B].map (·.length)).sum + [A, B].length * ([32,124,32] : List Nat).length ≤ 16777216 := by simp; omega
  have k1 : (tx [40]).length + (tx (A ++ ([32,124,32] ++ B))).length ≤ 16777216 := by simp; omega
  have k2 : (tx (40 :: (A ++ ([32,124,32] ++ B)))).length + (tx [41]).length ≤ 16777216 := by simp; omega
  simp at k0 k1 k2
  simp [m_law_text, f_law_text, law_text_i1, law_text_i2, law_text_i3, law_text_i4, emb, compF_cons, hp, hq, k0, k1, k2]
theorem lt3_true2 (n : Nat) (p q r : C) (A B E : List Nat) (Jp Jq Jr : Stt → Stt) (hp : ∀ st, m_law_text a n [emb p, .str (tx [111,114])] st = .ok (.str (tx A)) (st ++ Jp st)) (hq : ∀ st, m_law_text a n [emb q, .str (tx [111,114])] st = .ok (.str (tx B)) (st ++ Jq st)) (hr : ∀ st, m_law_text a n [emb r, .str (tx [111,114])] st = .ok (.str (tx E)) (st ++ Jr st)) (l1 : A.length + B.length + E.length + 15 ≤ 16777216) (st : Stt) :
    ∃ J, m_law_text a (n + 1) [emb (.row3 true p q r), .str (tx [115,101,113])] st = .ok (.str (tx (40 :: ((A ++ ([32,124,32] ++ (B ++ ([32,124,32] ++ E)))) ++ [41])))) (st ++ J) := by
  have k0 : ([A, B, E].map (·.length)).sum + [A, B, E].length * ([32,124,32] : List Nat).length ≤ 16777216 := by simp; omega
  have k1 : (tx [40]).length + (tx (A ++ ([32,124,32] ++ (B ++ ([32,124,32] ++ E))))).length ≤ 16777216 := by simp; omega
  have k2 : (tx (40 :: (A ++ ([32,124,32] ++ (B ++ ([32,124,32] ++ E)))))).length + (tx [41]).length ≤ 16777216 := by simp; omega
  simp at k0 k1 k2
  simp [m_law_text, f_law_text, law_text_i1, law_text_i2, law_text_i3, law_text_i4, emb, compF_cons, hp, hq, hr, k0, k1, k2]
theorem lt2_true3 (n : Nat) (p q : C) (A B : List Nat) (Jp Jq : Stt → Stt) (hp : ∀ st, m_law_text a n [emb p, .str (tx [111,114])] st = .ok (.str (tx A)) (st ++ Jp st)) (hq : ∀ st, m_law_text a n [emb q, .str (tx [111,114])] st = .ok (.str (tx B)) (st ++ Jq st)) (l1 : A.length + B.length + 10 ≤ 16777216) (st : Stt) :
    ∃ J, m_law_text a (n + 1) [emb (.row2 true p q), .str (tx [115,105,103,110])] st = .ok (.str (tx (40 :: ((A ++ ([32,124,32] ++ B)) ++ [41])))) (st ++ J) := by
  have k0 : ([A, B].map (·.length)).sum + [A, B].length * ([32,124,32] : List Nat).length ≤ 16777216 := by simp; omega
  have k1 : (tx [40]).length + (tx (A ++ ([32,124,32] ++ B))).length ≤ 16777216 := by simp; omega
  have k2 : (tx (40 :: (A ++ ([32,124,32] ++ B)))).length + (tx [41]).length ≤ 16777216 := by simp; omega
  simp at k0 k1 k2
  simp [m_law_text, f_law_text, law_text_i1, law_text_i2, law_text_i3, law_text_i4, emb, compF_cons, hp, hq, k0, k1, k2]
theorem lt3_true3 (n : Nat) (p q r : C) (A B E : List Nat) (Jp Jq Jr : Stt → Stt) (hp : ∀ st, m_law_text a n [emb p, .str (tx [111,114])] st = .ok (.str (tx A)) (st ++ Jp st)) (hq : ∀ st, m_law_text a n [emb q, .str (tx [111,114])] st = .ok (.str (tx B)) (st ++ Jq st)) (hr : ∀ st, m_law_text a n [emb r, .str (tx [111,114])] st = .ok (.str (tx E)) (st ++ Jr st)) (l1 : A.length + B.length + E.length + 15 ≤ 16777216) (st : Stt) :
    ∃ J, m_law_text a (n + 1) [emb (.row3 true p q r), .str (tx [115,105,103,110])] st = .ok (.str (tx (40 :: ((A ++ ([32,124,32] ++ (B ++ ([32,124,32] ++ E)))) ++ [41])))) (st ++ J) := by
  have k0 : ([A, B, E].map (·.length)).sum + [A, B, E].length * ([32,124,32] : List Nat).length ≤ 16777216 := by simp; omega
  have k1 : (tx [40]).length + (tx (A ++ ([32,124,32] ++ (B ++ ([32,124,32] ++ E))))).length ≤ 16777216 := by simp; omega
  have k2 : (tx (40 :: (A ++ ([32,124,32] ++ (B ++ ([32,124,32] ++ E)))))).length + (tx [41]).length ≤ 16777216 := by simp; omega
  simp at k0 k1 k2
  simp [m_law_text, f_law_text, law_text_i1, law_text_i2, law_text_i3, law_text_i4, emb, compF_cons, hp, hq, hr, k0, k1, k2]
theorem lt2_false0 (n : Nat) (p q : C) (A B : List Nat) (Jp Jq : Stt → Stt) (hp : ∀ st, m_law_text a n [emb p, .str (tx [115,101,113])] st = .ok (.str (tx A)) (st ++ Jp st)) (hq : ∀ st, m_law_text a n [emb q, .str (tx [115,101,113])] st = .ok (.str (tx B)) (st ++ Jq st)) (l1 : A.length + B.length + 10 ≤ 16777216) (st : Stt) :
    ∃ J, m_law_text a (n + 1) [emb (.row2 false p q), .str (tx [])] st = .ok (.str (tx ((A ++ ([44,32] ++ B))))) (st ++ J) := by
  have k0 : ([A, B].map (·.length)).sum + [A, B].length * ([44,32] : List Nat).length ≤ 16777216 := by simp; omega
  have k1 : (tx [40]).length + (tx (A ++ ([44,32] ++ B))).length ≤ 16777216 := by simp; omega
  have k2 : (tx (40 :: (A ++ ([44,32] ++ B)))).length + (tx [41]).length ≤ 16777216 := by simp; omega
  simp at k0 k1 k2
  simp [m_law_text, f_law_text, law_text_i1, law_text_i2, law_text_i3, law_text_i4, emb, compF_cons, hp, hq, k0, k1, k2]
theorem lt3_false0 (n : Nat) (p q r : C) (A B E : List Nat) (Jp Jq Jr : Stt → Stt) (hp : ∀ st, m_law_text a n [emb p, .str (tx [115,101,113])] st = .ok (.str (tx A)) (st ++ Jp st)) (hq : ∀ st, m_law_text a n [emb q, .str (tx [115,101,113])] st = .ok (.str (tx B)) (st ++ Jq st)) (hr : ∀ st, m_law_text a n [emb r, .str (tx [115,101,113])] st = .ok (.str (tx E)) (st ++ Jr st)) (l1 : A.length + B.length + E.length + 15 ≤ 16777216) (st : Stt) :
    ∃ J, m_law_text a (n + 1) [emb (.row3 false p q r), .str (tx [])] st = .ok (.str (tx ((A ++ ([44,32] ++ (B ++ ([44,32] ++ E))))))) (st ++ J) := by
  have k0 : ([A, B, E].map (·.length)).sum + [A, B, E].length * ([44,32] : List Nat).length ≤ 16777216 := by simp; omega
  have k1 : (tx [40]).length + (tx (A ++ ([44,32] ++ (B ++ ([44,32] ++ E))))).length ≤ 16777216 := by simp; omega
  have k2 : (tx (40 :: (A ++ ([44,32] ++ (B ++ ([44,32] ++ E)))))).length + (tx [41]).length ≤ 16777216 := by simp; omega
  simp at k0 k1 k2
  simp [m_law_text, f_law_text, law_text_i1, law_text_i2, law_text_i3, law_text_i4, emb, compF_cons, hp, hq, hr, k0, k1, k2]
theorem lt2_false1 (n : Nat) (p q : C) (A B : List Nat) (Jp Jq : Stt → Stt) (hp : ∀ st, m_law_text a n [emb p, .str (tx [115,101,113])] st = .ok (.str (tx A)) (st ++ Jp st)) (hq : ∀ st, m_law_text a n [emb q, .str (tx [115,101,113])] st = .ok (.str (tx B)) (st ++ Jq st)) (l1 : A.length + B.length + 10 ≤ 16777216) (st : Stt) :
    ∃ J, m_law_text a (n + 1) [emb (.row2 false p q), .str (tx [111,114])] st = .ok (.str (tx ((A ++ ([44,32] ++ B))))) (st ++ J) := by
  have k0 : ([A, B].map (·.length)).sum + [A, B].length * ([44,32] : List Nat).length ≤ 16777216 := by simp; omega
  have k1 : (tx [40]).length + (tx (A ++ ([44,32] ++ B))).length ≤ 16777216 := by simp; omega
  have k2 : (tx (40 :: (A ++ ([44,32] ++ B)))).length + (tx [41]).length ≤ 16777216 := by simp; omega
  simp at k0 k1 k2
  simp [m_law_text, f_law_text, law_text_i1, law_text_i2, law_text_i3, law_text_i4, emb, compF_cons, hp, hq, k0, k1, k2]
theorem lt3_false1 (n : Nat) (p q r : C) (A B E : List Nat) (Jp Jq Jr : Stt → Stt) (hp : ∀ st, m_law_text a n [emb p, .str (tx [115,101,113])] st = .ok (.str (tx A)) (st ++ Jp st)) (hq : ∀ st, m_law_text a n [emb q, .str (tx [115,101,113])] st = .ok (.str (tx B)) (st ++ Jq st)) (hr : ∀ st, m_law_text a n [emb r, .str (tx [115,101,113])] st = .ok (.str (tx E)) (st ++ Jr st)) (l1 : A.length + B.length + E.length + 15 ≤ 16777216) (st : Stt) :
    ∃ J, m_law_text a (n + 1) [emb (.row3 false p q r), .str (tx [111,114])] st = .ok (.str (tx ((A ++ ([44,32] ++ (B ++ ([44,32] ++ E))))))) (st ++ J) := by
  have k0 : ([A, B, E].map (·.length)).sum + [A, B, E].length * ([44,32] : List Nat).length ≤ 16777216 := by simp; omega
  have k1 : (tx [40]).length + (tx (A ++ ([44,32] ++ (B ++ ([44,32] ++ E))))).length ≤ 16777216 := by simp; omega
  have k2 : (tx (40 :: (A ++ ([44,32] ++ (B ++ ([44,32] ++ E)))))).length + (tx [41]).length ≤ 16777216 := by simp; omega
  simp at k0 k1 k2
  simp [m_law_text, f_law_text, law_text_i1, law_text_i2, law_text_i3, law_text_i4, emb, compF_cons, hp, hq, hr, k0, k1, k2]
theorem lt2_false2 (n : Nat) (p q : C) (A B : List Nat) (Jp Jq : Stt → Stt) (hp : ∀ st, m_law_text a n [emb p, .str (tx [115,101,113])] st = .ok (.str (tx A)) (st ++ Jp st)) (hq : ∀ st, m_law_text a n [emb q, .str (tx [115,101,113])] st = .ok (.str (tx B)) (st ++ Jq st)) (l1 : A.length + B.length + 10 ≤ 16777216) (st : Stt) :
    ∃ J, m_law_text a (n + 1) [emb (.row2 false p q), .str (tx [115,101,113])] st = .ok (.str (tx (40 :: ((A ++ ([44,32] ++ B)) ++ [41])))) (st ++ J) := by
  have k0 : ([A, B].map (·.length)).sum + [A, B].length * ([44,32] : List Nat).length ≤ 16777216 := by simp; omega
  have k1 : (tx [40]).length + (tx (A ++ ([44,32] ++ B))).length ≤ 16777216 := by simp; omega
  have k2 : (tx (40 :: (A ++ ([44,32] ++ B)))).length + (tx [41]).length ≤ 16777216 := by simp; omega
  simp at k0 k1 k2
  simp [m_law_text, f_law_text, law_text_i1, law_text_i2, law_text_i3, law_text_i4, emb, compF_cons, hp, hq, k0, k1, k2]
theorem lt3_false2 (n : Nat) (p q r : C) (A B E : List Nat) (Jp Jq Jr : Stt → Stt) (hp : ∀ st, m_law_text a n [emb p, .str (tx [115,101,113])] st = .ok (.str (tx A)) (st ++ Jp st)) (hq : ∀ st, m_law_text a n [emb q, .str (tx [115,101,113])] st = .ok (.str (tx B)) (st ++ Jq st)) (hr : ∀ st, m_law_text a n [emb r, .str (tx [115,101,113])] st = .ok (.str (tx E)) (st ++ Jr st)) (l1 : A.length + B.length + E.length + 15 ≤ 16777216) (st : Stt) :
    ∃ J, m_law_text a (n + 1) [emb (.row3 false p q r), .str (tx [115,101,113])] st = .ok (.str (tx (40 :: ((A ++ ([44,32] ++ (B ++ ([44,32] ++ E)))) ++ [41])))) (st ++ J) := by
  have k0 : ([A, B, E].map (·.length)).sum + [A, B, E].length * ([44,32] : List Nat).length ≤ 16777216 := by simp; omega
  have k1 : (tx [40]).length + (tx (A ++ ([44,32] ++ (B ++ ([44,32] ++ E))))).length ≤ 16777216 := by simp; omega
  have k2 : (tx (40 :: (A ++ ([44,32] ++ (B ++ ([44,32] ++ E)))))).length + (tx [41]).length ≤ 16777216 := by simp; omega
  simp at k0 k1 k2
  simp [m_law_text, f_law_text, law_text_i1, law_text_i2, law_text_i3, law_text_i4, emb, compF_cons, hp, hq, hr, k0, k1, k2]
theorem lt2_false3 (n : Nat) (p q : C) (A B : List Nat) (Jp Jq : Stt → Stt) (hp : ∀ st, m_law_text a n [emb p, .str (tx [115,101,113])] st = .ok (.str (tx A)) (st ++ Jp st)) (hq : ∀ st, m_law_text a n [emb q, .str (tx [115,101,113])] st = .ok (.str (tx B)) (st ++ Jq st)) (l1 : A.length + B.length + 10 ≤ 16777216) (st : Stt) :
    ∃ J, m_law_text a (n + 1) [emb (.row2 false p q), .str (tx [115,105,103,110])] st = .ok (.str (tx (40 :: ((A ++ ([44,32] ++ B)) ++ [41])))) (st ++ J) := by
  have k0 : ([A, B].map (·.length)).sum + [A, B].length * ([44,32] : List Nat).length ≤ 16777216 := by simp; omega
  have k1 : (tx [40]).length + (tx (A ++ ([44,32] ++ B))).length ≤ 16777216 := by simp; omega
  have k2 : (tx (40 :: (A ++ ([44,32] ++ B)))).length + (tx [41]).length ≤ 16777216 := by simp; omega
  simp at k0 k1 k2
  simp [m_law_text, f_law_text, law_text_i1, law_text_i2, law_text_i3, law_text_i4, emb, compF_cons, hp, hq, k0, k1, k2]
theorem lt3_false3 (n : Nat) (p q r : C) (A B E : List Nat) (Jp Jq Jr : Stt → Stt) (hp : ∀ st, m_law_text a n [emb p, .str (tx [115,101,113])] st = .ok (.str (tx A)) (st ++ Jp st)) (hq : ∀ st, m_law_text a n [emb q, .str (tx [115,101,113])] st = .ok (.str (tx B)) (st ++ Jq st)) (hr : ∀ st, m_law_text a n [emb r, .str (tx [115,101,113])] st = .ok (.str (tx E)) (st ++ Jr st)) (l1 : A.length + B.length + E.length + 15 ≤ 16777216) (st : Stt) :
    ∃ J, m_law_text a (n + 1) [emb (.row3 false p q r), .str (tx [115,105,103,110])] st = .ok (.str (tx (40 :: ((A ++ ([44,32] ++ (B ++ ([44,32] ++ E)))) ++ [41])))) (st ++ J) := by
  have k0 : ([A, B, E].map (·.length)).sum + [A, B, E].length * ([44,32] : List Nat).length ≤ 16777216 := by simp; omega
  have k1 : (tx [40]).length + (tx (A ++ ([44,32] ++ (B ++ ([44,32] ++ E))))).length ≤ 16777216 := by simp; omega
  have k2 : (tx (40 :: (A ++ ([44,32] ++ (B ++ ([44,32] ++ E)))))).length + (tx [41]).length ≤ 16777216 := by simp; omega
  simp at k0 k1 k2
  simp [m_law_text, f_law_text, law_text_i1, law_text_i2, law_text_i3, law_text_i4, emb, compF_cons, hp, hq, hr, k0, k1, k2]
end
end Law

set_option Elab.async false
set_option linter.all false
set_option maxRecDepth 100000
set_option maxHeartbeats 2000000
namespace Law
open PySem PySem.Spec PyProof.Rows L2 Rg
section
variable (a : Ads)
theorem ltext_ok : ∀ (c : C) (n : Nat), dep c < n → cost c < 100000 → ∀ ar, ar ≤ 3 → ∀ st : Stt, ∃ J, m_law_text a n [emb c, .str (tx (arl ar))] st = .ok (.str (tx (br ar c (txt c)))) (st ++ J) := by
  intro c
  induction c with
  | wd b =>
    intro n hn hc ar har st
    obtain ⟨n, rfl⟩ : ∃ k, n = k + 1 := ⟨n - 1, by omega⟩
    cases b <;> simp [m_law_text, f_law_text, law_text_i1, law_text_i2, law_text_i3, law_text_i4, emb, txt]
  | ty x =>
    intro n hn hc ar har st
    obtain ⟨n, rfl⟩ : ∃ k, n = k + 1 := ⟨n - 1, by omega⟩
    simp [m_law_text, f_law_text, law_text_i1, law_text_i2, law_text_i3, law_text_i4, emb, txt]
  | sg k p ih =>
    intro n hn hc ar har st
    simp only [dep] at hn
    simp only [cost] at hc
    obtain ⟨n, rfl⟩ : ∃ k, n = k + 1 := ⟨n - 1, by omega⟩
    obtain ⟨J, h⟩ := ih n (by omega) (by omega) 3 (by omega) st
    have hg := oGet_sg k (st ++ (J ++ [.dct (mergeD [(.inr ⟨#[115,116,97,114]⟩, .str ⟨#[42]⟩), (.inr ⟨#[112,108,117,115]⟩, .str ⟨#[43]⟩), (.inr ⟨#[109,97,121,98,101]⟩, .str ⟨#[63]⟩)])])) (st.length + J.length) (by simp)
    have hl := len_br 3 p (txt p)
    have := txt_le p
    have hl2 : (br 3 p (txt p)).length + 1 ≤ 16777216 := by have := bw_le 3 p; omega
    simp only [arl] at h
    cases k <;> (simp only [sgc] at hg; simp [m_law_text, f_law_text, law_text_i1, law_text_i2, law_text_i3, law_text_i4, emb, txt, h, hg, hl2]) 
  | row2 o p q ih1 ih2 =>
    intro n hn hc ar har st
    simp only [dep] at hn
    simp only [cost] at hc
    obtain ⟨n, rfl⟩ : ∃ k, n = k + 1 := ⟨n - 1, by omega⟩
    have ho : roa o ≤ 3 := by cases o <;> simp [roa]
    obtain ⟨Jp, hp⟩ := ax (ih1 n (by omega) (by omega) (roa o) ho)
    obtain ⟨Jq, hq⟩ := ax (ih2 n (by omega) (by omega) (roa o) ho)
    have hlp := len_br (roa o) p (txt p); have := txt_le p; have := bw_le (roa o) p
    have hlq := len_br (roa o) q (txt q); have := txt_le q; have := bw_le (roa o) q
    have l1 : (br (roa o) p (txt p)).length + (br (roa o) q (txt q)).length + 10 ≤ 16777216 := by omega
    rw [br_row2]
    match o, ar, har with
    | true, 0, _ => exact lt2_true0 a n p q _ _ Jp Jq hp hq l1 st
    | true, 1, _ => exact lt2_true1 a n p q _ _ Jp Jq hp hq l1 st
    | true, 2, _ => exact lt2_true2 a n p q _ _ Jp Jq hp hq l1 st
    | true, 3, _ => exact lt2_true3 a n p q _ _ Jp Jq hp hq l1 st
    | false, 0, _ => exact lt2_false0 a n p q _ _ Jp Jq hp hq l1 st
    | false, 1, _ => exact lt2_false1 a n p q _ _ Jp Jq hp hq l1 st
    | false, 2, _ => exact lt2_false2 a n p q _ _ Jp Jq hp hq l1 st
    | false, 3, _ => exact lt2_false3 a n p q _ _ Jp Jq hp hq l1 st
  | row3 o p q r ih1 ih2 ih3 =>
    intro n hn hc ar har st
    simp only [dep] at hn
    simp only [cost] at hc
    obtain ⟨n, rfl⟩ : ∃ k, n = k + 1 := ⟨n - 1, by omega⟩
    have ho : roa o ≤ 3 := by cases o <;> simp [roa]
    obtain ⟨Jp, hp⟩ := ax (ih1 n (by omega) (by omega) (roa o) ho)
    obtain ⟨Jq, hq⟩ := ax (ih2 n (by omega) (by omega) (roa o) ho)
    obtain ⟨Jr, hr⟩ := ax (ih3 n (by omega) (by omega) (roa o) ho)
    have hlp := len_br (roa o) p (txt p); have := txt_le p; have := bw_le (roa o) p
    have hlq := len_br (roa o) q (txt q); have := txt_le q; have := bw_le (roa o) q
    have hlr := len_br (roa o) r (txt r); have := txt_le r; have := bw_le (roa o) r
    have l1 : (br (roa o) p (txt p)).length + (br (roa o) q (txt q)).length + (br (roa o) r (txt r)).length + 15 ≤ 16777216 := by omega
    rw [br_row3]
    match o, ar, har with
    | true, 0, _ => exact lt3_true0 a n p q r _ _ _ Jp Jq Jr hp hq hr l1 st
    | true, 1, _ => exact lt3_true1 a n p q r _ _ _ Jp Jq Jr hp hq hr l1 st
    | true, 2, _ => exact lt3_true2 a n p q r _ _ _ Jp Jq Jr hp hq hr l1 st
    | true, 3, _ => exact lt3_true3 a n p q r _ _ _ Jp Jq Jr hp hq hr l1 st
    | false, 0, _ => exact lt3_false0 a n p q r _ _ _ Jp Jq Jr hp hq hr l1 st
    | false, 1, _ => exact lt3_false1 a n p q r _ _ _ Jp Jq Jr hp hq hr l1 st
    | false, 2, _ => exact lt3_false2 a n p q r _ _ _ Jp Jq Jr hp hq hr l1 st
    | false, 3, _ => exact lt3_false3 a n p q r _ _ _ Jp Jq Jr hp hq hr l1 st
end
end Law

set_option Elab.async false
set_option linter.all false
set_option maxRecDepth 100000
set_option maxHeartbeats 2000000
namespace Law
open PySem PySem.Spec PyProof.Rows L2 Rg
/-- the tape -/
def Tp (ns : List Int) (i r s : Int) (rest : Stt) : Stt := .lst (ns.map D.int) :: .lst [.loc 0, .int i, .int r, .int s] :: rest
section
variable (a : Ads) {ns : List Int} {r i s : Int} {rest : Stt}
@[simp high] theorem tp_at0 : (Tp ns i r s rest)[0]? = some (.lst (ns.map D.int)) := (rfl)
@[simp high] theorem tp_at1 : (Tp ns i r s rest)[1]? = some (.lst [.loc 0, .int i, .int r, .int s]) := (rfl)
@[simp high] theorem tp_put1 (i' r' s' : Int) : (Tp ns i r s rest).set 1 (.lst [.loc 0, .int i', .int r', .int s']) = Tp ns i' r' s' rest := (rfl)
@[simp] theorem ixN_lit1 (n : Nat) : ixN (n + 2) 1 = some 1 := by unfold ixN; rw [if_pos (by omega), if_pos (by omega)]; rfl
@[simp] theorem ixN_lit2 (n : Nat) : ixN (n + 3) 2 = some 2 := by unfold ixN; rw [if_pos (by omega), if_pos (by omega)]; rfl
@[simp] theorem ixN_lit3 (n : Nat) : ixN (n + 4) 3 = some 3 := by unfold ixN; rw [if_pos (by omega), if_pos (by omega)]; rfl
@[simp high] theorem tp_ix0 : oIx (.loc 1) (.int 0) (Tp ns i r s rest) = some (.loc 0, Tp ns i r s rest) := (rfl)
@[simp high] theorem tp_ix1 : oIx (.loc 1) (.int 1) (Tp ns i r s rest) = some (.int i, Tp ns i r s rest) := (rfl)
@[simp high] theorem tp_ix2 : oIx (.loc 1) (.int 2) (Tp ns i r s rest) = some (.int r, Tp ns i r s rest) := (rfl)
@[simp high] theorem tp_ix3 : oIx (.loc 1) (.int 3) (Tp ns i r s rest) = some (.int s, Tp ns i r s rest) := (rfl)
@[simp high] theorem tp_ixL1 : oIxL (.loc 1) (.int 1) (Tp ns i r s rest) = some (.int i, Tp ns i r s rest) := (rfl)
@[simp high] theorem tp_len0 : fLen [.loc 0] (Tp ns i r s rest) = some (.int ns.length, Tp ns i r s rest) := by
  rw [fLen_of (ds := ns.map D.int) (items_loc rfl), List.length_map]
@[simp high] theorem tp_set1 (v : Int) (ρ : En) : setL (.loc 1) (.int 1) (.int v) ρ (Tp ns i r s rest) = .nx ρ (Tp ns v r s rest) := (rfl)
@[simp high] theorem tp_set2 (v : Int) (ρ : En) : setL (.loc 1) (.int 2) (.int v) ρ (Tp ns i r s rest) = .nx ρ (Tp ns i v s rest) := (rfl)
@[simp high] theorem tp_set3 (v : Int) (ρ : En) : setL (.loc 1) (.int 3) (.int v) ρ (Tp ns i r s rest) = .nx ρ (Tp ns i r v rest) := (rfl)
theorem tp_app (J : Stt) : Tp ns i r s rest ++ J = Tp ns i r s (rest ++ J) := rfl
theorem tp_at (n : Nat) : (Tp ns i r s rest)[n + 2]? = rest[n]? := rfl
theorem tp_len : (Tp ns i r s rest).length = rest.length + 2 := rfl
theorem tp_cell' {x : Int} (h0 : 0 ≤ i) (h : ns[i.toNat]? = some x) : atI (ns.map D.int) i = some (.int x) := atI_of h0 (by rw [List.getElem?_map, h]; rfl)
theorem tp_cell {x : Int} (h0 : 0 ≤ i) (h : ns[i.toNat]? = some x) : oIx (.loc 0) (.int i) (Tp ns i r s rest) = some (.int x, Tp ns i r s rest) :=
  oIx_of (ds := ns.map D.int) (items_loc rfl) (atI_of h0 (by rw [List.getElem?_map, h]; rfl))
@[simp] theorem oI_any (g : Int → Int → D) (i j : Int) (st : Stt) : oI CAny g (.int i) (.int j) st = some (g i j, st) := (rfl)
@[simp] theorem pow18 (st : Stt) : oPow (.int 10) (.int 18) st = some (.int 1000000000000000000, st) := by
  have : (10 : Int) ^ (18 : Nat) = 1000000000000000000 := by decide
  show (if CPow 10 18 then some (D.int (10 ^ (18 : Int).toNat), st) else none) = _
  rw [if_pos (by decide)]
  rfl
theorem next_i2 (many : Int) (h0 : 0 ≤ i) : ∃ c i' : Int, 0 ≤ c ∧ 0 ≤ i' ∧ law_next_i2 a [some (.loc 1), some (.int many), some (.int 0), some (.int 0)] (Tp ns i 0 s rest) = .nx [some (.loc 1), some (.int many), some (.int 0), some (.int c)] (Tp ns i' 0 s rest) := by
  by_cases h : i < ns.length
  · obtain ⟨x, hx⟩ : ∃ x, ns[i.toNat]? = some x := ⟨ns[i.toNat]'(by omega), List.getElem?_eq_getElem (by omega)⟩
    refine ⟨if x < 0 then -x else x, i + 1, by split <;> omega, by omega, ?_⟩
    simp [law_next_i2, h, tp_cell h0 hx, tp_cell' h0 hx]
  · exact ⟨0, i, by omega, h0, by simp [law_next_i2, h]⟩
theorem m48 (s : Int) (st : Stt) : oMulA (.int s) (.int 48271) st = some (.int (s * 48271), st) := oMulA_r ⟨by decide, by decide⟩ st
theorem m69 (s : Int) (st : Stt) : oMulA (.int s) (.int 69621) st = some (.int (s * 69621), st) := oMulA_r ⟨by decide, by decide⟩ st
theorem m16 (s : Int) (st : Stt) : oMulA (.int s) (.int 16807) st = some (.int (s * 16807), st) := oMulA_r ⟨by decide, by decide⟩ st
theorem md (s : Int) (st : Stt) : oMod (.int s) (.int 2147483647) st = some (.int (s % 2147483647), st) := oMod_i (by decide) st
theorem d7 (s : Int) (st : Stt) : oDiv (.int s) (.int 7) st = some (.int (s / 7), st) := oDiv_i (by decide) (by decide) st
theorem next_ok (many : Int) (hi : 0 ≤ i) (hr : 0 ≤ r) (h0 : 0 < many) (h1 : many < 1073741824) :
    ∃ v i' r' s', 0 ≤ v ∧ v < many ∧ 0 ≤ i' ∧ 0 ≤ r' ∧ m_law_next a [.loc 1, .int many] (Tp ns i r s rest) = .ok (.int v) (Tp ns i' r' s' rest) := by
  have m0 : ∀ x : Int, 0 ≤ x % many := fun x => Int.emod_nonneg _ (by omega)
  have m1 : ∀ x : Int, x % many < many := fun x => Int.emod_lt_of_pos _ h0
  by_cases hr0 : 0 < r
  · refine ⟨r % many, i, r / many, s, m0 _, m1 _, hi, Int.ediv_nonneg hr (by omega), ?_⟩
    simp [m_law_next, f_law_next, law_next_i3, hr0, oDiv_i h0 h1, oMod_i h0]
  · have : r = 0 := by omega
    subst this
    obtain ⟨c, i', hc, hi', e2⟩ := next_i2 a (ns := ns) (s := s) (rest := rest) many hi
    by_cases hb : 1000000000000000000 ≤ c
    · refine ⟨c % many, i', c / many, s, m0 _, m1 _, hi', Int.ediv_nonneg hc (by omega), ?_⟩
      simp [m_law_next, f_law_next, law_next_i3, e2, law_next_i1, hb, oDiv_i h0 h1, oMod_i h0]
    · refine ⟨((s * 48271 + c * 69621 + 11) % 2147483647 * 16807 % 2147483647 / 7) % many, i', 0, (s * 48271 + c * 69621 + 11) % 2147483647, m0 _, m1 _, hi', by omega, ?_⟩
      simp [m_law_next, f_law_next, law_next_i3, e2, law_next_i1, hb, m48, m69, m16, md, d7, oMod_i h0]
end
end Law

set_option Elab.async false
set_option linter.all false
set_option maxRecDepth 100000
set_option maxHeartbeats 2000000
namespace Law
open PySem PySem.Spec PyProof.Rows L2 Rg
def NMD : List D := [.str (tx [97]), .str (tx [98]), .str (tx [99,49]), .str (tx [108,111,110,103,110,97,109,101])]
def Tq (ns : List Int) (i r s : Int) (Z : Stt) : Stt := Tp ns i r s (.lst NMD :: Z)
section
variable (a : Ads) {ns : List Int} {r i s : Int} {Z : Stt}
theorem tq_app (J : Stt) : Tq ns i r s Z ++ J = Tq ns i r s (Z ++ J) := rfl
theorem tq_len : (Tq ns i r s Z).length = Z.length + 3 := rfl
@[simp high] theorem tq_at2 : (Tq ns i r s Z)[2]? = some (.lst NMD) := (rfl)
theorem tq_at (n : Nat) : (Tq ns i r s Z)[n + 3]? = Z[n]? := rfl
theorem tq_set (n : Nat) (x : O) : (Tq ns i r s Z).set (n + 3) x = Tq ns i r s (Z.set n x) := rfl
theorem nextq (many : Int) (hi : 0 ≤ i) (hr : 0 ≤ r) (h0 : 0 < many) (h1 : many < 1073741824) :
    ∃ v i' r' s', 0 ≤ v ∧ v < many ∧ 0 ≤ i' ∧ 0 ≤ r' ∧ m_law_next a [.loc 1, .int many] (Tq ns i r s Z) = .ok (.int v) (Tq ns i' r' s' Z) := next_ok a many hi hr h0 h1
theorem eq_nil {S : Stt} {n : Nat} (h : S[2]? = some (.lst NMD)) (h2 : S[n]? = some (.lst [])) : oEq (.loc 2) (.loc n) S = some (.bl false, S) := by
  have e1 : toD S 60 (.loc 2) = some (.list [.str (tx [97]), .str (tx [98]), .str (tx [99,49]), .str (tx [108,111,110,103,110,97,109,101])]) := by
    show (match S[2]? with | some (.lst ds) => (ds.mapM (toD S 59)).map PyData.list | _ => none) = _
    rw [h]
    simp [NMD, toD_str, strOk_l]
  have e2 : toD S 60 (.loc n) = some (.list []) := by
    show (match S[n]? with | some (.lst ds) => (ds.mapM (toD S 59)).map PyData.list | _ => none) = _
    rw [h2]
    rfl
  unfold oEq deq
  rw [e1, e2]
  rfl
theorem atom_ok (self : Fn) (d v : Int) (hi : 0 ≤ i) (hr : 0 ≤ r) (hd : d = 0 ∨ v < 3) :
    ∃ c i' r' s' J, dep c = 0 ∧ 0 ≤ i' ∧ 0 ≤ r' ∧ law_content_i4 a self [some (.loc 1), some (.loc 2), some (.int d), some (.int v), none, none] (Tq ns i r s Z) = .rt (emb c) (Tq ns i' r' s' (Z ++ J)) := by
  have hc : (if decide (d = 0) = true then R.ok true (Tq ns i r s Z) else R.ok (decide (v < 3)) (Tq ns i r s Z)) = R.ok true (Tq ns i r s Z) := by
    rcases hd with h | h
    · simp [h]
    · by_cases h0 : d = 0 <;> simp [h0, h]
  obtain ⟨v1, i1, r1, s1, a1, a2, a3, a4, e1⟩ := nextq a (ns := ns) (s := s) (Z := Z ++ [.lst []]) 4 hi hr (by omega) (by omega)
  have en : oEq (.loc 2) (.loc (Z.length + 3)) (Tq ns i r s (Z ++ [.lst []])) = some (.bl false, Tq ns i r s (Z ++ [.lst []])) := eq_nil (by simp) (by rw [tq_at]; simp)
  by_cases hv : v1 = 0
  · obtain ⟨v2, i2, r2, s2, b1, b2, b3, b4, e2⟩ := nextq a (ns := ns) (s := s1) (Z := Z ++ [.lst []]) 3 a3 a4 (by omega) (by omega)
    have : v2 = 0 ∨ v2 = 1 ∨ v2 = 2 := by omega
    rcases this with rfl | rfl | rfl
    · exact ⟨.wd true, i2, r2, s2, [.lst []], rfl, b3, b4, by
        simp only [law_content_i4, sIf_run, xOr_run, xB_run, x2_run, xV_2, xV_3, xC_run, R.bind_ok, oEq_i, oLt_i, R.of_some, isB_bl, hc]
        simp [law_content_i3, tq_app, tq_len, en, e1, hv, e2, emb]⟩
    · exact ⟨.wd true, i2, r2, s2, [.lst []], rfl, b3, b4, by
        simp only [law_content_i4, sIf_run, xOr_run, xB_run, x2_run, xV_2, xV_3, xC_run, R.bind_ok, oEq_i, oLt_i, R.of_some, isB_bl, hc]
        simp [law_content_i3, tq_app, tq_len, en, e1, hv, e2, emb]⟩
    · exact ⟨.wd false, i2, r2, s2, [.lst []], rfl, b3, b4, by
        simp only [law_content_i4, sIf_run, xOr_run, xB_run, x2_run, xV_2, xV_3, xC_run, R.bind_ok, oEq_i, oLt_i, R.of_some, isB_bl, hc]
        simp [law_content_i3, tq_app, tq_len, en, e1, hv, e2, emb]⟩
  · obtain ⟨v2, i2, r2, s2, b1, b2, b3, b4, e2⟩ := nextq a (ns := ns) (s := s1) (Z := Z ++ [.lst []]) 4 a3 a4 (by omega) (by omega)
    have hx : ∃ x, atI NMD v2 = some (.str (tx (nmc x))) := by
      have : v2 = 0 ∨ v2 = 1 ∨ v2 = 2 ∨ v2 = 3 := by omega
      rcases this with rfl | rfl | rfl | rfl
      · exact ⟨.a, by simp [NMD, nmc]⟩
      · exact ⟨.b, by simp [NMD, nmc]⟩
      · exact ⟨.c, by simp [NMD, nmc]⟩
      · exact ⟨.l, by simp [NMD, nmc]⟩
    obtain ⟨x, hx⟩ := hx
    have hl : (NMD.length : Int) = 4 := rfl
    exact ⟨.ty x, i2, r2, s2, [.lst []], rfl, b3, b4, by
        simp only [law_content_i4, sIf_run, xOr_run, xB_run, x2_run, xV_2, xV_3, xC_run, R.bind_ok, oEq_i, oLt_i, R.of_some, isB_bl, hc]
        simp [law_content_i3, tq_app, tq_len, en, e1, hv, e2, emb, hl, hx]⟩
/-- what is promised of one call with the depth d -/
def CSp (self : Fn) (d : Nat) : Prop := ∀ (ns : List Int) (i r s : Int) (Z : Stt), 0 ≤ i → 0 ≤ r → ∃ c i' r' s' J, dep c ≤ d ∧ 0 ≤ i' ∧ 0 ≤ r' ∧ self [.loc 1, .loc 2, .int d] (Tq ns i r s Z) = .ok (emb c) (Tq ns i' r' s' (Z ++ J))
theorem comp_ok (self : Fn) (d : Nat) (h : CSp self d) (many : Nat) (hm : many < 100) (hi : 0 ≤ i) (hr : 0 ≤ r) (x3 x4 : Option D) :
    ∃ (cs : List C) (i' r' s' : Int) (J : Stt), cs.length = many ∧ (∀ c ∈ cs, dep c ≤ d) ∧ 0 ≤ i' ∧ 0 ≤ r' ∧ compF (Z.length + 3) (fun _ => True) (gN 5) xYes (xFn self (xCons (xV 0) (xCons (xV 1) (xCons (x2 oSub (xV 2) (xC (.int 1))) xNil)))) [some (.loc 1), some (.loc 2), some (.int (d + 1)), x3, x4, none] (intsD 0 many) (Tq ns i r s (Z ++ [.lst []])) = .ok () (Tq ns i' r' s' (Z ++ .lst (cs.map emb) :: J)) := by
  have hlen : (intsD 0 many).length = many := by simp [intsD]
  obtain ⟨st', acc, h6, cs, i', r', s', J, h7, h8, h9, h10, h11, h12⟩ := compF_inv (L := Z.length + 3) (ok := fun _ => True) (g := gN 5) (t := xYes) (f := (xFn self (xCons (xV 0) (xCons (xV 1) (xCons (x2 oSub (xV 2) (xC (.int 1))) xNil))))) (ρ := [some (.loc 1), some (.loc 2), some (.int (d + 1)), x3, x4, none]) (its := intsD 0 many)
    (fun k st acc => ∃ (cs : List C) (i' r' s' : Int) (J : Stt), acc = cs.map emb ∧ cs.length = k ∧ (∀ c ∈ cs, dep c ≤ d) ∧ 0 ≤ i' ∧ 0 ≤ r' ∧ st = Tq ns i' r' s' (Z ++ .lst acc :: J))
    (fun _ _ _ _ _ => trivial)
    (fun k y st acc hk ⟨cs, i', r', s', J, h1, h2, h3, h4, h5, h6⟩ => by
      subst h6
      obtain ⟨c, i2, r2, s2, J2, g1, g2, g3, g4⟩ := h ns i' r' s' (Z ++ .lst acc :: J) h4 h5
      have hkl : k < many := by have := (List.getElem?_eq_some_iff.mp hk).1; omega
      have hl : acc.length < 16777216 := by rw [h1, List.length_map]; omega
      have e : ((d : Int) + 1 - 1) = d := by omega
      refine ⟨_, rfl, true, _, rfl, (fun h => by cases h), fun _ => ⟨emb c, Tq ns i2 r2 s2 (Z ++ .lst acc :: (J ++ J2)), by simp [e, g4], ?_, by simpa using hl, cs ++ [c], i2, r2, s2, J ++ J2, by simp [h1], by simp [h2], ?_, g2, g3, ?_⟩⟩
      · rw [lstAt_at, tq_at]; simp
      · intro x hx
        rcases List.mem_append.mp hx with hx | hx
        · exact h3 x hx
        · simp at hx; subst hx; exact g1
      · rw [tq_set]; simp)
    (st := Tq ns i r s (Z ++ [.lst []])) ⟨[], i, r, s, [], rfl, rfl, (fun _ h => by cases h), hi, hr, rfl⟩
  rw [hlen] at h8
  refine ⟨cs, i', r', s', J, h8, h9, h10, h11, ?_⟩
  rw [h6, h12, h7]
theorem wkRange_ok {j : Int} (h0 : 0 ≤ j) (h1 : j ≤ 1000000) (st : Stt) : wkRange [.int j] st = .ok ⟨intsD 0 j.toNat, fun _ => True⟩ st := if_pos ⟨by omega, by omega⟩
theorem content_zero (self : Fn) : CSp (runB 6 (f_law_content a self)) 0 := by
    intro ns i r s Z hi hr
    obtain ⟨v, i1, r1, s1, a1, a2, a3, a4, e1⟩ := nextq a (ns := ns) (s := s) (Z := Z) 10 hi hr (by omega) (by omega)
    obtain ⟨c, i2, r2, s2, J, b1, b2, b3, e2⟩ := atom_ok a (ns := ns) (s := s1) (Z := Z) self 0 v a3 a4 (.inl rfl)
    refine ⟨c, i2, r2, s2, J, by omega, b2, b3, ?_⟩
    simp [f_law_content, e1, e2]
theorem content_step (self : Fn) (d : Nat) (ih : CSp self d) : CSp (runB 6 (f_law_content a self)) (d + 1) := by
    intro ns i r s Z hi hr
    obtain ⟨v, i1, r1, s1, a1, a2, a3, a4, e1⟩ := nextq a (ns := ns) (s := s) (Z := Z) 10 hi hr (by omega) (by omega)
    by_cases hv : v < 3
    · obtain ⟨c, i2, r2, s2, J, b1, b2, b3, e2⟩ := atom_ok a (ns := ns) (s := s1) (Z := Z) self (d + 1) v a3 a4 (.inr hv)
      refine ⟨c, i2, r2, s2, J, by omega, b2, b3, ?_⟩
      simp [f_law_content, e1, e2]
    · have h4 : law_content_i4 a self [some (.loc 1), some (.loc 2), some (.int (d + 1)), some (.int v), none, none] (Tq ns i1 r1 s1 Z) = .nx [some (.loc 1), some (.loc 2), some (.int (d + 1)), some (.int v), none, none] (Tq ns i1 r1 s1 Z) := by
        have : ¬ ((d : Int) + 1 = 0) := by omega
        simp [law_content_i4, this, hv]
      by_cases h8 : v < 8
      · obtain ⟨w, i2, r2, s2, c1, c2, c3, c4, e3⟩ := nextq a (ns := ns) (s := s1) (Z := Z) 2 a3 a4 (by omega) (by omega)
        obtain ⟨cs, i3, r3, s3, J, d1, d2, d3, d4, e4⟩ := comp_ok (ns := ns) (s := s2) (Z := Z) self d ih (2 + w).toNat (by omega) c3 c4 (some (.int v)) (some (.int (2 + w)))
        have hlen := tq_len (ns := ns) (i := i2) (r := r2) (s := s2) (Z := Z)
        have hget : (Tq ns i3 r3 s3 (Z ++ O.lst (List.map emb cs) :: J))[Z.length + 3]? = some (.lst (cs.map emb)) := by rw [tq_at]; simp
        have l3 : cs.length = 2 ∨ cs.length = 3 := by omega
        have hw := wkRange_ok (j := 2 + w) (by omega) (by omega)
        have hfin : ∀ o : Bool, ∃ c, dep c ≤ d + 1 ∧ emb c = .tup [.str (tx (roc o)), .tup (cs.map emb)] := by
          intro o
          match cs, l3, d2 with
          | [p, q], _, d2 => exact ⟨.row2 o p q, by have := d2 p (by simp); have := d2 q (by simp); simp [dep]; omega, by simp [emb]⟩
          | [p, q, t], _, d2 => exact ⟨.row3 o p q t, by have := d2 p (by simp); have := d2 q (by simp); have := d2 t (by simp); simp [dep]; omega, by simp [emb]⟩
        by_cases h6 : v < 6
        · obtain ⟨c, f1, f2⟩ := hfin false
          refine ⟨c, i3, r3, s3, .lst (cs.map emb) :: J, f1, d3, d4, ?_⟩
          rw [f2]
          simp [f_law_content, e1, h4, law_content_i2, h6, e3, hw, tq_app, hlen, hget, e4]
        · obtain ⟨c, f1, f2⟩ := hfin true
          refine ⟨c, i3, r3, s3, .lst (cs.map emb) :: J, f1, d3, d4, ?_⟩
          rw [f2]
          simp [f_law_content, e1, h4, law_content_i1, law_content_i2, h6, h8, e3, hw, tq_app, hlen, hget, e4]
      · obtain ⟨w, i2, r2, s2, c1, c2, c3, c4, e3⟩ := nextq a (ns := ns) (s := s1) (Z := Z) 3 a3 a4 (by omega) (by omega)
        obtain ⟨c, i3, r3, s3, J, d1, d3, d4, e4⟩ := ih ns i2 r2 s2 Z c3 c4
        have h6 : ¬ v < 6 := by omega
        have e : ((d : Int) + 1 - 1) = d := by omega
        have hk : ∃ k, atI [D.str (tx [115,116,97,114]), .str (tx [112,108,117,115]), .str (tx [109,97,121,98,101])] w = some (.str (tx (sgc k))) := by
          have : w = 0 ∨ w = 1 ∨ w = 2 := by omega
          rcases this with rfl | rfl | rfl
          · exact ⟨.s, by simp⟩
          · exact ⟨.p, by simp⟩
          · exact ⟨.m, by simp⟩
        obtain ⟨k, hk⟩ := hk
        refine ⟨.sg k c, i3, r3, s3, J, by simp [dep]; omega, d3, d4, ?_⟩
        simp [f_law_content, e1, h4, law_content_i1, law_content_i2, h6, h8, e3, hk, e, e4, emb]
theorem content_ok : ∀ d : Nat, CSp (m_law_content a (d + 1)) d
  | 0 => content_zero a _
  | d + 1 => content_step a _ d (content_ok d)
end
end Law

set_option Elab.async false
set_option linter.all false
set_option maxRecDepth 100000
set_option maxHeartbeats 2000000
namespace Law
open PySem PySem.Spec PyProof.Rows L2 Rg
abbrev NS : List Nat := [97, 98, 99, 100, 101, 102, 103, 104, 105, 106, 107, 108, 109, 110, 111, 112, 113, 114, 115, 116, 117, 118, 119, 120, 121, 122, 48, 49, 50, 51, 52, 53, 54, 55, 56, 57]
def isN (c : Nat) : Bool := decide (c ∈ NS)
inductive Lex : List Nat → List (List Nat) → Prop
  | nil : Lex [] []
  | sp {t ws} : Lex t ws → Lex (32 :: t) ws
  | sym {c t ws} : isN c = false → c ≠ 32 → c < 1000 → Lex t ws → Lex (c :: t) ([c] :: ws)
  | name {x n t ws} : isN x = true → (∀ c ∈ n, isN c = true) → (∀ c, t.head? = some c → isN c = false) → Lex t ws → Lex (x :: (n ++ t)) ((x :: n) :: ws)
def wdD (w : List Nat) (p : Int) : D := .tup [.str (tx w), .int p]
theorem atI_mid {l1 t : List Nat} {c : Nat} : atI (l1 ++ c :: t) (l1.length : Int) = some c := atI_lit (by simp)
theorem cut_mid (l1 n t : List Nat) : cutS (tx (l1 ++ (n ++ t))) (some (l1.length : Int)) (some ((l1.length : Int) + (n.length : Int))) = tx n := by
  unfold cutS
  have h1 : (tx (l1 ++ (n ++ t))).length = l1.length + (n.length + t.length) := by simp
  have e1 : HT.sIx (tx (l1 ++ (n ++ t))).length 0 (some (l1.length : Int)) = l1.length := by
    rw [HT.sIx_nat, h1]; omega
  have e2 : HT.sIx (tx (l1 ++ (n ++ t))).length (tx (l1 ++ (n ++ t))).length (some ((l1.length : Int) + (n.length : Int))) = l1.length + n.length := by
    rw [show ((l1.length : Int) + (n.length : Int)) = ((l1.length + n.length : Nat) : Int) by omega, HT.sIx_nat, h1]; omega
  rw [e1, e2]
  simp
section
variable (a : Ads)
theorem oI_any' (g : Int → Int → D) (i j : Int) (st : Stt) : oI CAny g (.int i) (.int j) st = some (g i j, st) := (rfl)
theorem in_ns (c : Nat) (st : Stt) : oIn (.str ⟨#[c]⟩) (.str ⟨#[97, 98, 99, 100, 101, 102, 103, 104, 105, 106, 107, 108, 109, 110, 111, 112, 113, 114, 115, 116, 117, 118, 119, 120, 121, 122, 48, 49, 50, 51, 52, 53, 54, 55, 56, 57]⟩) st = some (.bl (isN c), st) := (rfl)
/-- the signs of a name are passed -/
theorem name_run (l1 n t : List Nat) (x : Nat) (hl : (l1 ++ (x :: n ++ t)).length < 1000000) (hn : ∀ c ∈ n, isN c = true) (ht : ∀ c, t.head? = some c → isN c = false) (v1 v2 : Option D) (s : Stt) :
    words_of_w1 a [some (.str (tx (l1 ++ (x :: n ++ t)))), v1, v2, some (.int ((l1.length : Int) + 1))] s = .nx [some (.str (tx (l1 ++ (x :: n ++ t)))), v1, v2, some (.int ((l1.length : Int) + ((n.length : Int) + 1)))] s := by
  obtain ⟨ρ', st', h, h2, h3⟩ := sWhile_inv (c := words_of_wt1 a) (f := words_of_wb1 a)
    (fun k ρ s' => s' = s ∧ ∃ n1 n2 : List Nat, n = n1 ++ n2 ∧ n2.length = k ∧ ρ = [some (.str (tx (l1 ++ (x :: n ++ t)))), v1, v2, some (.int ((l1.length : Int) + ((n1.length : Int) + 1)))])
    (fun ρ s' => s' = s ∧ ρ = [some (.str (tx (l1 ++ (x :: n ++ t)))), v1, v2, some (.int ((l1.length : Int) + ((n.length : Int) + 1)))]) (k := n.length) (ρ := [some (.str (tx (l1 ++ (x :: n ++ t)))), v1, v2, some (.int ((l1.length : Int) + 1))]) (st := s)
    (fun k ρ s' ⟨hs, n1, n2, he, hk, hρ⟩ => by
      subst hs hρ
      have hlen : (l1 ++ (x :: n ++ t)).length = l1.length + (n1.length + (n2.length + t.length) + 1) := by subst he; simp
      have b0 : (l1 ++ (x :: n ++ t)).length ≤ 16777216 := by omega
      cases n2 with
      | nil =>
        left
        have hnn : n1 = n := by simpa using he.symm
        subst hnn
        refine ⟨s', ?_, rfl, rfl⟩
        cases t with
        | nil =>
          have : ¬ ((l1.length : Int) + ((n1.length : Int) + 1) < ((l1 ++ (x :: n1 ++ [])).length : Int)) := by simp
          simp only [words_of_wt1, xAnd_run, xB_run, x2_run, xCall_run, xCons_run, xNil_run, xV_3, xV_0, R.bind_ok, fLen_str, len_l, szl, if_pos b0, R.of_some, oLt_i, isB_bl, decide_eq_false this]
          rfl
        | cons y t =>
          have h0 := ht y rfl
          have : ((l1.length : Int) + ((n1.length : Int) + 1) < ((l1 ++ (x :: n1 ++ y :: t)).length : Int)) := by simp; omega
          have e : atI (l1 ++ (x :: n1 ++ y :: t)) ((l1.length : Int) + ((n1.length : Int) + 1)) = some y := by
            have := atI_mid (l1 := l1 ++ x :: n1) (t := t) (c := y)
            simpa using this
          simp only [words_of_wt1, xAnd_run, xB_run, x2_run, xCall_run, xCons_run, xNil_run, xV_3, xV_0, xC_run, R.bind_ok, fLen_str, len_l, cps_l, szl, if_pos b0, R.of_some, oLt_i, isB_bl, decide_eq_true this, oIx_str, e, Option.map_some, in_ns, lit_14, h0, if_true]
      | cons y n2 =>
        right
        have hy : isN y = true := hn y (by rw [he]; simp)
        have : ((l1.length : Int) + ((n1.length : Int) + 1) < ((l1 ++ (x :: n ++ t)).length : Int)) := by rw [hlen]; simp; omega
        have e : atI (l1 ++ (x :: n ++ t)) ((l1.length : Int) + ((n1.length : Int) + 1)) = some y := by
          have := atI_mid (l1 := l1 ++ x :: n1) (t := n2 ++ t) (c := y)
          rw [he]
          simpa using this
        refine ⟨s', ?_, [some (.str (tx (l1 ++ (x :: n ++ t)))), v1, v2, some (.int ((l1.length : Int) + (((n1 ++ [y]).length : Int) + 1)))], s', .inl ?_, n2.length, by simp at hk; omega, rfl, n1 ++ [y], n2, by simp [he], rfl, rfl⟩
        · simp only [words_of_wt1, xAnd_run, xB_run, x2_run, xCall_run, xCons_run, xNil_run, xV_3, xV_0, xC_run, R.bind_ok, fLen_str, len_l, cps_l, szl, if_pos b0, R.of_some, oLt_i, isB_bl, decide_eq_true this, oIx_str, e, Option.map_some, in_ns, lit_14, hy, if_true]
        · simp [words_of_wb1, oI_any', Int.add_assoc])
    (by simp at hl; omega) ⟨rfl, [], n, rfl, rfl, by simp⟩
  rw [h2, h3] at h
  exact h
theorem name_mem {c : Nat} (h : isN c = true) : c ≠ 32 := by rintro rfl; revert h; decide
theorem name_lt {c : Nat} (h : isN c = true) : c < 1000 := by
  have h : c ∈ NS := of_decide_eq_true h
  have : ∀ x ∈ NS, x < 1000 := by decide
  exact this c h
theorem words_ok (l : List Nat) (ws : List (List Nat)) (hx : Lex l ws) (hl : l.length < 1000000) (st : Stt) :
    ∃ ps : List Int, ps.length = ws.length ∧ m_words_of a [.str (tx l)] st = .ok (.loc st.length) (st ++ [.lst (List.zipWith wdD ws ps)]) := by
  have b0 : l.length ≤ 16777216 := by omega
  obtain ⟨ρ', st', h, ps, v3, hp, hs, hρ⟩ := sWhile_inv (c := words_of_wt2 a) (f := words_of_wb2 a)
    (fun k ρ s => ∃ (l1 l2 : List Nat) (w1 w2 : List (List Nat)) (ps : List Int) (v3 : Option D), l = l1 ++ l2 ∧ ws = w1 ++ w2 ∧ Lex l2 w2 ∧ l2.length = k ∧ ps.length = w1.length ∧ w1.length ≤ l1.length ∧ s = st ++ [.lst (List.zipWith wdD w1 ps)] ∧ ρ = [some (.str (tx l)), some (.loc st.length), some (.int l1.length), v3])
    (fun ρ s => ∃ (ps : List Int) (v3 : Option D), ps.length = ws.length ∧ s = st ++ [.lst (List.zipWith wdD ws ps)] ∧ ρ = [some (.str (tx l)), some (.loc st.length), some (.int l.length), v3]) (k := l.length) (ρ := [some (.str (tx l)), some (.loc st.length), some (.int 0), none]) (st := st ++ [.lst []])
    (fun k ρ s ⟨l1, l2, w1, w2, ps, v3, h1, h2, h3, h4, h5, h6, hs, hρ⟩ => by
      subst hs hρ
      have hstep : ∀ (w : List Nat) (p : Int), List.zipWith wdD (w1 ++ [w]) (ps ++ [p]) = List.zipWith wdD w1 ps ++ [wdD w p] := fun w p => by rw [List.zipWith_append h5.symm]; rfl
      have b1 : (List.zipWith wdD w1 ps).length < 16777216 := by
        have : l.length = l1.length + l2.length := by rw [h1]; simp
        rw [List.length_zipWith]; omega
      have b2 : w1.length < 16777216 ∨ ps.length < 16777216 := by
        have : l.length = l1.length + l2.length := by rw [h1]; simp
        left; omega
      cases h3 with
      | nil =>
        left
        rw [List.append_nil] at h1 h2
        subst h1 h2
        exact ⟨st ++ [.lst (List.zipWith wdD ws ps)], by simp [words_of_wt2, b0], ps, v3, h5, rfl, rfl⟩
      | @sp t _ h3 =>
        right
        have hlt : ((l1.length : Int) < (l.length : Int)) := by rw [h1]; simp <;> omega
        have e : atI l (l1.length : Int) = some 32 := by rw [h1]; exact atI_mid
        have hn : isN 32 = false := by decide
        refine ⟨_, by simp [words_of_wt2, b0, hlt]; rfl, [some (.str (tx l)), some (.loc st.length), some (.int ((l1 ++ [32]).length : Int)), some (.int ((l1.length : Int) + 1))], st ++ [.lst (List.zipWith wdD w1 ps)], .inl ?_, t.length, by simp at h4; omega, l1 ++ [32], t, w1, w2, ps, _, by simp [h1], h2, h3, rfl, h5, by simp; omega, rfl, rfl⟩
        simp [-oIn_run, words_of_wb2, words_of_i2, words_of_i1, b0, e, in_ns, hn]
      | @sym c t w2 hc hc2 hc3 h3 =>
        right
        have hlt : ((l1.length : Int) < (l.length : Int)) := by rw [h1]; simp <;> omega
        have e : atI l (l1.length : Int) = some c := by rw [h1]; exact atI_mid
        have hcut : cutS ⟨l.toArray⟩ (some (l1.length : Int)) (some ((l1.length : Int) + 1)) = tx [c] := by
          have := cut_mid l1 [c] t
          rw [h1]; simpa using this
        refine ⟨_, by simp [words_of_wt2, b0, hlt]; rfl, [some (.str (tx l)), some (.loc st.length), some (.int ((l1 ++ [c]).length : Int)), some (.int ((l1.length : Int) + 1))], st ++ [.lst (List.zipWith wdD (w1 ++ [[c]]) (ps ++ [(l1.length : Int) + 1]))], .inl ?_, t.length, by simp at h4; omega, l1 ++ [c], t, w1 ++ [[c]], w2, ps ++ [(l1.length : Int) + 1], _, by simp [h1], by simp [h2], h3, rfl, by simp [h5], by simp; omega, rfl, rfl⟩
        rw [hstep]
        have hc4 : c < 1114112 := by omega
        generalize List.zipWith wdD w1 ps = W at *
        simp [-oIn_run, words_of_wb2, words_of_i2, words_of_i1, b0, e, in_ns, hc, hc2, hc4, hcut, b1, wdD]
      | @name x n t w2 hx hn ht h3 =>
        right
        have hlt : ((l1.length : Int) < (l.length : Int)) := by rw [h1]; simp <;> omega
        have e : atI l (l1.length : Int) = some x := by rw [h1]; exact atI_mid
        have hcut : cutS ⟨l.toArray⟩ (some (l1.length : Int)) (some ((l1.length : Int) + ((n.length : Int) + 1))) = tx (x :: n) := by
          have := cut_mid l1 (x :: n) t
          rw [h1]; simpa using this
        have hx2 := name_mem hx
        have hx4 : x < 1114112 := by have := name_lt hx; omega
        have hr : ∀ (v1 v2 : Option D) (s : Stt), words_of_w1 a [some (.str (tx l)), v1, v2, some (.int ((l1.length : Int) + 1))] s = .nx [some (.str (tx l)), v1, v2, some (.int ((l1.length : Int) + ((n.length : Int) + 1)))] s := by
          intro v1 v2 s
          have := name_run a l1 n t x (by rw [← List.cons_append] at h1; rw [← h1]; exact hl) hn ht v1 v2 s
          rw [h1]; simpa using this
        refine ⟨_, by simp [words_of_wt2, b0, hlt]; rfl, [some (.str (tx l)), some (.loc st.length), some (.int ((l1 ++ x :: n).length : Int)), some (.int ((l1.length : Int) + ((n.length : Int) + 1)))], st ++ [.lst (List.zipWith wdD (w1 ++ [x :: n]) (ps ++ [(l1.length : Int) + 1]))], .inl ?_, t.length, by simp at h4; omega, l1 ++ x :: n, t, w1 ++ [x :: n], w2, ps ++ [(l1.length : Int) + 1], _, by simp [h1], by simp [h2], h3, rfl, by simp [h5], by simp; omega, rfl, rfl⟩
        rw [hstep]
        generalize List.zipWith wdD w1 ps = W at *
        simp [-oIn_run, words_of_wb2, words_of_i2, words_of_i1, b0, e, in_ns, hx, hx2, hx4, hr, hcut, b1, wdD])
    (by omega) ⟨[], l, [], ws, [], none, rfl, rfl, hx, rfl, rfl, Nat.le_refl _, rfl, rfl⟩
  subst hs
  exact ⟨ps, hp, by simp [m_words_of, f_words_of, words_of_w2, h, hρ]⟩
end
end Law

set_option Elab.async false
set_option linter.all false
set_option maxRecDepth 100000
set_option maxHeartbeats 2000000
namespace Law
open PySem PySem.Spec PyProof.Rows L2 Rg
def sepw : Bool → List Nat | true => [124] | false => [44]
def bwr (ar : Nat) (c : C) (w : List (List Nat)) : List (List Nat) := if brk ar c = true then [40] :: (w ++ [[41]]) else w
def wrd : C → List (List Nat)
  | .wd b => [wdc b] | .ty x => [nmc x]
  | .row2 o p q => bwr (roa o) p (wrd p) ++ (sepw o :: bwr (roa o) q (wrd q))
  | .row3 o p q r => bwr (roa o) p (wrd p) ++ (sepw o :: (bwr (roa o) q (wrd q) ++ (sepw o :: bwr (roa o) r (wrd r))))
  | .sg k p => bwr 3 p (wrd p) ++ [sgn k]
def HN (t : List Nat) : Prop := ∀ c, t.head? = some c → isN c = false
theorem hn_cons {c : Nat} {t : List Nat} (h : isN c = false) : HN (c :: t) := fun x hx => by cases hx; exact h
theorem lex_sep {t : List Nat} {ws : List (List Nat)} (o : Bool) (h : Lex t ws) : Lex (sep o ++ t) (sepw o :: ws) ∧ HN (sep o ++ t) := by
  cases o
  · exact ⟨.sym (by decide) (by decide) (by decide) (.sp h), hn_cons (by decide)⟩
  · exact ⟨.sp (.sym (by decide) (by decide) (by decide) (.sp h)), hn_cons (by decide)⟩
theorem lex_br {t : List Nat} {ws : List (List Nat)} (ar : Nat) (c : C) (ih : ∀ {t ws}, Lex t ws → HN t → Lex (txt c ++ t) (wrd c ++ ws)) (h : Lex t ws) (hn : HN t) : Lex (br ar c (txt c) ++ t) (bwr ar c (wrd c) ++ ws) := by
  unfold br bwr
  split
  · have h2 : Lex (41 :: t) ([41] :: ws) := .sym (by decide) (by decide) (by decide) h
    have h3 := ih h2 (hn_cons (by decide))
    have h4 : Lex (40 :: (txt c ++ 41 :: t)) ([40] :: (wrd c ++ [41] :: ws)) := .sym (by decide) (by decide) (by decide) h3
    simpa using h4
  · exact ih h hn
theorem lex_txt : ∀ (c : C) {t : List Nat} {ws : List (List Nat)}, Lex t ws → HN t → Lex (txt c ++ t) (wrd c ++ ws)
  | .wd true, t, ws, h, hn => .name (n := [104,97,114,115]) (by decide) (by decide) hn h
  | .wd false, t, ws, h, hn => .name (n := [109,112,116,121]) (by decide) (by decide) hn h
  | .ty .a, t, ws, h, hn => .name (n := []) (by decide) (by decide) hn h
  | .ty .b, t, ws, h, hn => .name (n := []) (by decide) (by decide) hn h
  | .ty .c, t, ws, h, hn => .name (n := [49]) (by decide) (by decide) hn h
  | .ty .l, t, ws, h, hn => .name (n := [111,110,103,110,97,109,101]) (by decide) (by decide) hn h
  | .sg k p, t, ws, h, hn => by
    have h1 : Lex (sgn k ++ t) (sgn k :: ws) ∧ HN (sgn k ++ t) := by
      cases k <;> exact ⟨.sym (by decide) (by decide) (by decide) h, hn_cons (by decide)⟩
    have := lex_br 3 p (fun h hn => lex_txt p h hn) h1.1 h1.2
    simpa [txt, wrd] using this
  | .row2 o p q, t, ws, h, hn => by
    have h1 := lex_br (roa o) q (fun h hn => lex_txt q h hn) h hn
    have h2 := lex_sep o h1
    have h3 := lex_br (roa o) p (fun h hn => lex_txt p h hn) h2.1 h2.2
    simpa [txt, wrd] using h3
  | .row3 o p q r, t, ws, h, hn => by
    have h1 := lex_br (roa o) r (fun h hn => lex_txt r h hn) h hn
    have h2 := lex_sep o h1
    have h3 := lex_br (roa o) q (fun h hn => lex_txt q h hn) h2.1 h2.2
    have h4 := lex_sep o h3
    have h5 := lex_br (roa o) p (fun h hn => lex_txt p h hn) h4.1 h4.2
    simpa [txt, wrd] using h5
/-! ### the text made wider -/
abbrev SY : List Nat := [40, 41, 44, 124, 42, 43, 63]
inductive Wid : List Nat → List Nat → Prop
  | nil : Wid [] []
  | sym {c t t'} (i j : Nat) : c ∈ SY → Wid t t' → Wid (c :: t) (List.replicate i 32 ++ (c :: (List.replicate j 32 ++ t')))
  | oth {c t t'} : c ∉ SY → Wid t t' → Wid (c :: t) (c :: t')
theorem Wid.app {a a' b b' : List Nat} (h : Wid a a') (k : Wid b b') : Wid (a ++ b) (a' ++ b') := by
  induction h with
  | nil => exact k
  | sym i j hc _ ih => have := Wid.sym i j hc ih; simpa using this
  | oth hc _ ih => exact Wid.oth hc ih
theorem lex_sps {t : List Nat} {ws : List (List Nat)} (h : Lex t ws) : ∀ i : Nat, Lex (List.replicate i 32 ++ t) ws
  | 0 => h
  | i + 1 => .sp (lex_sps h i)
theorem not_sy {c : Nat} (h : isN c = true) : c ∉ SY := by
  have h : c ∈ NS := of_decide_eq_true h
  have : ∀ x ∈ NS, x ∉ SY := by decide
  exact this c h
theorem wid_name : ∀ (n : List Nat) {t l : List Nat}, (∀ c ∈ n, isN c = true) → Wid (n ++ t) l → ∃ t', l = n ++ t' ∧ Wid t t'
  | [], t, l, _, h => ⟨l, rfl, h⟩
  | c :: n, t, l, hn, h => by
    have hc := not_sy (hn c (by simp))
    cases h with
    | sym i j h1 _ => exact absurd h1 hc
    | oth _ h2 =>
      obtain ⟨t', e, w⟩ := wid_name n (fun x hx => hn x (by simp [hx])) h2
      exact ⟨t', by rw [e]; rfl, w⟩
theorem wid_hn {t t' : List Nat} (h : Wid t t') (k : HN t) : HN t' := by
  cases h with
  | nil => exact k
  | sym i j hc _ =>
    cases i with
    | zero => exact hn_cons (k _ rfl)
    | succ i => exact hn_cons (by decide)
  | oth _ _ => exact hn_cons (k _ rfl)
theorem lex_wid {t : List Nat} {ws : List (List Nat)} (h : Lex t ws) : ∀ {t' : List Nat}, Wid t t' → Lex t' ws := by
  induction h with
  | nil => intro t' w; cases w; exact .nil
  | sp _ ih =>
    intro t' w
    cases w with
    | sym i j hc _ => exact absurd hc (by decide)
    | oth _ w => exact .sp (ih w)
  | sym h1 h2 h3 _ ih =>
    intro t' w
    cases w with
    | sym i j hc w => exact lex_sps (.sym h1 h2 h3 (lex_sps (ih w) j)) i
    | oth _ w => exact .sym h1 h2 h3 (ih w)
  | @name x n t ws hx hn ht _ ih =>
    intro t' w
    have : Wid ((x :: n) ++ t) t' := w
    obtain ⟨u, rfl, w2⟩ := wid_name (x :: n) (fun c hc => by rcases List.mem_cons.mp hc with rfl | hc; exact hx; exact hn c hc) this
    exact .name hx hn (wid_hn w2 ht) (ih w2)
theorem lex_end {t : List Nat} {ws : List (List Nat)} (h : Lex t ws) (k : Nat) : Lex (t ++ List.replicate k 32) ws := by
  induction h with
  | nil => simpa using lex_sps Lex.nil k
  | sp _ ih => exact .sp ih
  | sym h1 h2 h3 _ ih => exact .sym h1 h2 h3 ih
  | @name x n t ws hx hn ht _ ih =>
    have := Lex.name (x := x) (n := n) (t := t ++ List.replicate k 32) hx hn (by
      cases t with
      | nil => cases k with
        | zero => exact ht
        | succ k => exact hn_cons (by decide)
      | cons y t => exact hn_cons (ht y rfl)) ih
    simpa using this
section
variable (a : Ads) {ns : List Int} {r i s : Int} {Z : Stt}
theorem sp_mul (v : Int) (h0 : 0 ≤ v) (h3 : v < 3) (st : Stt) : oMulA (.str ⟨#[32]⟩) (.int v) st = some (.str (tx (List.replicate v.toNat 32)), st) := by
  have : v = 0 ∨ v = 1 ∨ v = 2 := by omega
  rcases this with rfl | rfl | rfl <;> rfl
theorem wide_ok (l : List Nat) (hl : l.length < 100000) (hi : 0 ≤ i) (hr : 0 ≤ r) :
    ∃ i' r' s' v w k, 0 ≤ i' ∧ 0 ≤ r' ∧ Wid l w ∧ w.length ≤ 5 * l.length ∧ v < 3 ∧ k < 3 ∧ m_law_wide a [.loc 1, .str (tx l)] (Tq ns i r s Z) = .ok (.str (tx (List.replicate v 32 ++ (w ++ List.replicate k 32)))) (Tq ns i' r' s' Z) := by
  obtain ⟨v, i1, r1, s1, a1, a2, a3, a4, e1⟩ := nextq a (ns := ns) (s := s) (Z := Z) 2 hi hr (by omega) (by omega)
  obtain ⟨ρ', st', h1, w, i2, r2, s2, x3, h2, h3, h4, h5, h6, h7⟩ := forF_inv (ok := fun _ => True) (g := gN 3) (f := law_wide_fb1 a) (its := l.map fun c => D.str ⟨#[c]⟩)
    (fun k ρ st => ∃ (w : List Nat) (i' r' s' : Int) (x3 : Option D), Wid (l.take k) w ∧ w.length ≤ 5 * k ∧ 0 ≤ i' ∧ 0 ≤ r' ∧ st = Tq ns i' r' s' Z ∧ ρ = [some (.loc 1), some (.str (tx l)), some (.str (tx (List.replicate v.toNat 32 ++ w))), x3])
    (fun _ _ _ _ _ => trivial)
    (fun k d ρ st hd ⟨w, i', r', s', x3, h1, h2, h3, h4, h5, h6⟩ => by
      subst h5 h6
      rw [List.getElem?_map] at hd
      obtain ⟨c, hc, rfl⟩ := Option.map_eq_some_iff.mp hd
      have hk : k < l.length := (List.getElem?_eq_some_iff.mp hc).1
      have htk : l.take (k + 1) = l.take k ++ [c] := by rw [List.take_succ, hc]; rfl
      have hv3 : v.toNat < 3 := by omega
      refine ⟨_, rfl, ?_⟩
      by_cases hs : c ∈ SY
      · obtain ⟨u, i3, r3, s3, b1, b2, b3, b4, e2⟩ := nextq a (ns := ns) (s := s') (Z := Z) 3 h3 h4 (by omega) (by omega)
        obtain ⟨u2, i4, r4, s4, c1, c2, c3, c4, e3⟩ := nextq a (ns := ns) (s := s3) (Z := Z) 3 b3 b4 (by omega) (by omega)
        refine ⟨[some (.loc 1), some (.str (tx l)), some (.str (tx (List.replicate v.toNat 32 ++ (w ++ (List.replicate u.toNat 32 ++ (c :: (List.replicate u2.toNat 32 ++ []))))))), some (.str ⟨#[c]⟩)], Tq ns i4 r4 s4 Z, .inl ?_, w ++ (List.replicate u.toNat 32 ++ (c :: (List.replicate u2.toNat 32 ++ []))), i4, r4, s4, _, by rw [htk]; exact h1.app (.sym _ _ hs .nil), by simp; omega, c3, c4, rfl, rfl⟩
        have l1 : v.toNat + w.length + u.toNat ≤ 16777216 := by omega
        have l2 : v.toNat + (w.length + u.toNat) ≤ 16777215 := by omega
        have l3 : v.toNat + (w.length + (u.toNat + 1)) + u2.toNat ≤ 16777216 := by omega
        have hs' : decide (c ∈ SY) = true := by simpa using hs
        have hin : ∀ st, oIn (.str ⟨#[c]⟩) (.str ⟨#[40, 41, 44, 124, 42, 43, 63]⟩) st = some (.bl true, st) := fun st => by
          show some (D.bl (decide (c ∈ SY)), st) = _
          rw [hs']
        simp [-oIn_run, law_wide_fb1, law_wide_i1, hin, e2, e3, sp_mul u b1 b2, sp_mul u2 c1 c2, l1, l2, l3]
      · refine ⟨[some (.loc 1), some (.str (tx l)), some (.str (tx (List.replicate v.toNat 32 ++ (w ++ [c])))), some (.str ⟨#[c]⟩)], Tq ns i' r' s' Z, .inl ?_, w ++ [c], i', r', s', _, by rw [htk]; exact h1.app (.oth hs .nil), by simp; omega, h3, h4, rfl, rfl⟩
        have l1 : v.toNat + w.length ≤ 16777215 := by omega
        have hs' : decide (c ∈ SY) = false := by simpa using hs
        have hin : ∀ st, oIn (.str ⟨#[c]⟩) (.str ⟨#[40, 41, 44, 124, 42, 43, 63]⟩) st = some (.bl false, st) := fun st => by
          show some (D.bl (decide (c ∈ SY)), st) = _
          rw [hs']
        simp [-oIn_run, law_wide_fb1, law_wide_i1, hin, l1])
    (ρ := [some (.loc 1), some (.str (tx l)), some (.str (tx (List.replicate v.toNat 32))), none]) (st := Tq ns i1 r1 s1 Z) ⟨[], i1, r1, s1, none, .nil, by simp, a3, a4, rfl, by simp⟩
  obtain ⟨u, i4, r4, s4, c1, c2, c3, c4, e3⟩ := nextq a (ns := ns) (s := s2) (Z := Z) 2 h4 h5 (by omega) (by omega)
  rw [List.length_map] at h2 h3
  rw [List.take_length] at h2
  refine ⟨i4, r4, s4, v.toNat, w, u.toNat, c3, c4, h2, h3, by omega, by omega, ?_⟩
  have l1 : v.toNat + w.length + u.toNat ≤ 16777216 := by omega
  subst h6 h7
  simp [m_law_wide, f_law_wide, law_wide_f1, e1, sp_mul v a1 (by omega), h1, e3, sp_mul u c1 (by omega), l1]
end
end Law

set_option Elab.async false
set_option linter.all false
set_option maxRecDepth 100000
set_option maxHeartbeats 2000000
namespace Law
open PySem PySem.Spec PyProof.Rows L2 Rg
@[simp] theorem lit_choices : Str.ofString "choices" = ⟨#[99,104,111,105,99,101,115]⟩ := by decide +kernel
@[simp] theorem lit_content : Str.ofString "content" = ⟨#[99,111,110,116,101,110,116]⟩ := by decide +kernel
@[simp] theorem lit_end_row : Str.ofString "end_row" = ⟨#[101,110,100,95,114,111,119]⟩ := by decide +kernel
abbrev CHS : Str := ⟨#[99,104,111,105,99,101,115]⟩
abbrev RWS : Str := ⟨#[114,111,119]⟩
def joinD (k : List Nat) : List D → D
  | [x] => x
  | xs => .tup [.str (tx k), .tup xs]
def contD (ch row : List D) : D := joinD [111,114] (ch ++ [joinD [115,101,113] row])
section
variable (a : Ads)
theorem mk_level (ρ : En) (st : Stt) : xMake a.c_Level (m_Level_init a) xNil ρ st = .ok (.loc st.length) (st ++ [.ins a.c_Level [(CHS, .loc (st.length + 1)), (RWS, .loc (st.length + 2))], .lst [], .lst []]) := by
  simp [mkIns, m_Level_init, f_Level_init, putFD]
theorem joined_ok (k : List Nat) (n : Nat) (xs : List D) (st : Stt) (h : st[n]? = some (.lst xs)) (hl : xs.length < 100) : m_joined a [.str (tx k), .loc n] st = .ok (joinD k xs) st := by
  match xs, h, hl with
  | [], h, _ => simp [m_joined, f_joined, h, joinD]
  | [x], h, _ => simp [m_joined, f_joined, h, joinD]
  | x :: y :: xs, h, hl =>
    have : ¬ ((xs.length : Int) + 1 + 1 = 1) := by omega
    simp [m_joined, f_joined, h, joinD, this]
theorem content_ok' (l c r : Nat) (ch row : List D) (st : Stt) (h : st[l]? = some (.ins a.c_Level [(CHS, .loc c), (RWS, .loc r)])) (hc : st[c]? = some (.lst ch)) (hr : st[r]? = some (.lst row)) (h1 : ch.length < 50) (h2 : row.length < 50) :
    ∃ J, m_Level_content a [.loc l] st = .ok (contD ch row) (st ++ J) := by
  have e1 := joined_ok a [115,101,113] r row st hr (by omega)
  have l1 : ch.length + 1 ≤ 16777216 := by omega
  have e2 := joined_ok a [111,114] (st.length + 1) (ch ++ [joinD [115,101,113] row]) (st ++ [.lst [joinD [115,101,113] row], .lst (ch ++ [joinD [115,101,113] row])]) (by simp) (by simp; omega)
  have hc' := at_old hc [.lst [joinD [115,101,113] row]]
  simp [m_Level_content, f_Level_content, h, e1, hc', e2, l1, List.lookup, contD]
theorem end_row_ok (l c r : Nat) (ch row : List D) (st : Stt) (h : st[l]? = some (.ins a.c_Level [(CHS, .loc c), (RWS, .loc r)])) (hc : st[c]? = some (.lst ch)) (hr : st[r]? = some (.lst row)) (h1 : ch.length < 50) (h2 : row.length < 50) (hlc : l ≠ c) :
    m_Level_end_row a [.loc l] st = .ok .non ((st.set c (.lst (ch ++ [joinD [115,101,113] row])) ++ [O.lst []]).set l (.ins a.c_Level [(CHS, .loc c), (RWS, .loc st.length)])) := by
  have e1 := joined_ok a [115,101,113] r row st hr (by omega)
  have l1 : ch.length < 16777216 := by omega
  have hl : l < st.length := (List.getElem?_eq_some_iff.mp h).1
  have h' : (st.set c (.lst (ch ++ [joinD [115,101,113] row])) ++ [.lst []])[l]? = some (.ins a.c_Level [(CHS, .loc c), (RWS, .loc r)]) := by
    refine at_old ?_ _
    rw [List.getElem?_set_ne (Ne.symm hlc)]; exact h
  simp [m_Level_end_row, f_Level_end_row, h, e1, hc, l1, List.lookup, h', putFD]
/-! ### the loop over the words -/
def E (nw : Nat) (e : D) (n0 : Nat) (wd : Bool) (x4 x5 x6 : Option D) : En := [some (.loc nw), some e, some (.loc n0), some (.bl wd), x4, x5, x6]
noncomputable def F (its : List D) (nw : Nat) (rest : List D) (ρ : En) (st : Stt) : Out := forF (fun s => items s (.loc nw) = some its) (gT [4, 5]) (content_of_words_fb1 a) rest ρ st
def Runs (its : List D) (nw : Nat) (e : D) (n0 : Nat) (ws : List (List Nat)) (wd wd' : Bool) (st st' : Stt) : Prop := ∀ (ps : List Int) (rest : List D) (x4 x5 x6 : Option D), ps.length = ws.length →
  ∃ y4 y5 y6, F a its nw (List.zipWith wdD ws ps ++ rest) (E nw e n0 wd x4 x5 x6) st = F a its nw rest (E nw e n0 wd' y4 y5 y6) st'
variable {a} {its : List D} {nw : Nat} {e : D} {n0 : Nat}
theorem Runs.app {w1 w2 : List (List Nat)} {d1 d2 d3 : Bool} {s1 s2 s3 : Stt} (h1 : Runs a its nw e n0 w1 d1 d2 s1 s2) (h2 : Runs a its nw e n0 w2 d2 d3 s2 s3) : Runs a its nw e n0 (w1 ++ w2) d1 d3 s1 s3 := by
  intro ps rest x4 x5 x6 hp
  rw [List.length_append] at hp
  have hsplit : ps = ps.take w1.length ++ ps.drop w1.length := (List.take_append_drop _ _).symm
  obtain ⟨y4, y5, y6, g1⟩ := h1 (ps.take w1.length) (List.zipWith wdD w2 (ps.drop w1.length) ++ rest) x4 x5 x6 (by rw [List.length_take]; omega)
  obtain ⟨z4, z5, z6, g2⟩ := h2 (ps.drop w1.length) rest y4 y5 y6 (by rw [List.length_drop]; omega)
  refine ⟨z4, z5, z6, ?_⟩
  rw [← g2, ← g1, ← List.append_assoc, ← List.zipWith_append (by rw [List.length_take]; omega), ← hsplit]
theorem Runs.one {w : List Nat} {d1 d2 : Bool} {s1 s2 : Stt} (hi : s1[nw]? = some (.lst its)) (h : ∀ (p : Int) (x6 : Option D), ∃ x6', content_of_words_fb1 a (E nw e n0 d1 (some (.str (tx w))) (some (.int p)) x6) s1 = .nx (E nw e n0 d2 (some (.str (tx w))) (some (.int p)) x6') s2) : Runs a its nw e n0 [w] d1 d2 s1 s2 := by
  intro ps rest x4 x5 x6 hp
  match ps, hp with
  | [p], _ =>
    obtain ⟨x6', h⟩ := h p x6
    refine ⟨some (.str (tx w)), some (.int p), x6', ?_⟩
    show forF _ _ _ (wdD w p :: rest) _ _ = _
    unfold forF
    rw [if_pos (by rw [items_at, hi])]
    have : gT [4, 5] (wdD w p) (E nw e n0 d1 x4 x5 x6) = some (E nw e n0 d1 (some (.str (tx w))) (some (.int p)) x6) := by simp [gT_run, wdD, E]
    rw [this]
    simp only [h]
    rfl
/-- ( -/
theorem run_open {st : Stt} {Ls : List D} {l : Nat} (hi : st[nw]? = some (.lst its)) (h0 : st[n0]? = some (.lst (Ls ++ [.loc l]))) (hl : Ls.length < 100) :
    Runs a its nw e n0 [[40]] true true st ((st ++ [O.ins a.c_Level [(CHS, D.loc (st.length + 1)), (RWS, D.loc (st.length + 2))], O.lst [], O.lst []]).set n0 (O.lst (Ls ++ [D.loc l] ++ [D.loc st.length]))) := by
  refine Runs.one hi fun p x6 => ⟨some (.loc l), ?_⟩
  have h0' := at_old h0 [.ins a.c_Level [(CHS, .loc (st.length + 1)), (RWS, .loc (st.length + 2))], .lst [], .lst []]
  have l1 : Ls.length + 1 < 16777216 := by omega
  simp [-xMake_run, content_of_words_fb1, content_of_words_i7, E, h0, mk_level, h0', l1]
/-- , -/
theorem run_comma {st : Stt} {Ls : List D} {l : Nat} (hi : st[nw]? = some (.lst its)) (h0 : st[n0]? = some (.lst (Ls ++ [.loc l]))) : Runs a its nw e n0 [[44]] false true st st := by
  refine Runs.one hi fun p x6 => ⟨some (.loc l), ?_⟩
  simp [content_of_words_fb1, content_of_words_i7, content_of_words_i6, content_of_words_i5, content_of_words_i4, E, h0]
/-- | -/
theorem run_bar {st : Stt} {Ls ch row : List D} {l c r : Nat} (hi : st[nw]? = some (.lst its)) (h0 : st[n0]? = some (.lst (Ls ++ [.loc l]))) (h : st[l]? = some (.ins a.c_Level [(CHS, .loc c), (RWS, .loc r)])) (hc : st[c]? = some (.lst ch)) (hr : st[r]? = some (.lst row)) (h1 : ch.length < 50) (h2 : row.length < 50) (hlc : l ≠ c) :
    Runs a its nw e n0 [[124]] false true st ((st.set c (.lst (ch ++ [joinD [115,101,113] row])) ++ [O.lst []]).set l (.ins a.c_Level [(CHS, .loc c), (RWS, .loc st.length)])) := by
  refine Runs.one hi fun p x6 => ⟨some (.loc l), ?_⟩
  have he := end_row_ok a l c r ch row st h hc hr h1 h2 hlc
  simp [content_of_words_fb1, content_of_words_i7, content_of_words_i6, content_of_words_i5, content_of_words_i4, content_of_words_i3, E, h0, h, he, List.lookup]
/-- a sign behind -/
theorem run_sign {st : Stt} {Ls row : List D} {x : D} {l c r : Nat} (k : Sg) (hi : st[nw]? = some (.lst its)) (h0 : st[n0]? = some (.lst (Ls ++ [.loc l]))) (h : st[l]? = some (.ins a.c_Level [(CHS, .loc c), (RWS, .loc r)])) (hr : st[r]? = some (.lst (row ++ [x]))) :
    Runs a its nw e n0 [sgn k] false false st (st.set r (.lst (row ++ [.tup [.str (tx (sgc k)), x]]))) := by
  refine Runs.one hi fun p x6 => ⟨some (.loc l), ?_⟩
  cases k <;> simp [content_of_words_fb1, content_of_words_i7, content_of_words_i6, content_of_words_i5, E, h0, h, hr, List.lookup]
/-- ) -/
theorem run_close {st : Stt} {Ls ch row row2 : List D} {l l2 c c2 r r2 : Nat} (hi : st[nw]? = some (.lst its)) (h0 : st[n0]? = some (.lst (Ls ++ [.loc l] ++ [.loc l2]))) (h : st[l]? = some (.ins a.c_Level [(CHS, .loc c), (RWS, .loc r)])) (hr : st[r]? = some (.lst row))
    (h2 : st[l2]? = some (.ins a.c_Level [(CHS, .loc c2), (RWS, .loc r2)])) (hc2 : st[c2]? = some (.lst ch)) (hr2 : st[r2]? = some (.lst row2)) (k1 : ch.length < 50) (k2 : row2.length < 50) (k3 : row.length < 50) (d1 : n0 ≠ r) (d2 : n0 ≠ c2) (d3 : n0 ≠ r2) :
    ∃ J, Runs a its nw e n0 [[41]] false false st (((st.set n0 (.lst (Ls ++ [.loc l]))) ++ J).set r (.lst (row ++ [contD ch row2]))) := by
  have hn0 : n0 < st.length := (List.getElem?_eq_some_iff.mp h0).1
  have hnl : n0 ≠ l := by rintro rfl; rw [h0] at h; cases h
  have hnl2 : n0 ≠ l2 := by rintro rfl; rw [h0] at h2; cases h2
  obtain ⟨J, hcn⟩ := content_ok' a l2 c2 r2 ch row2 (st.set n0 (.lst (Ls ++ [.loc l]))) (by rw [List.getElem?_set_ne hnl2]; exact h2) (by rw [List.getElem?_set_ne d2]; exact hc2) (by rw [List.getElem?_set_ne d3]; exact hr2) k1 k2
  refine ⟨J, Runs.one hi fun p x6 => ⟨some (.loc l2), ?_⟩⟩
  have g0 : (st.set n0 (.lst (Ls ++ [.loc l])))[n0]? = some (.lst (Ls ++ [.loc l])) := List.getElem?_set_self hn0
  have g1 : (st.set n0 (.lst (Ls ++ [.loc l])))[l]? = some (.ins a.c_Level [(CHS, .loc c), (RWS, .loc r)]) := by rw [List.getElem?_set_ne hnl]; exact h
  have g2 : (st.set n0 (.lst (Ls ++ [.loc l])))[l2]? = some (.ins a.c_Level [(CHS, .loc c2), (RWS, .loc r2)]) := by rw [List.getElem?_set_ne hnl2]; exact h2
  have g3 : (st.set n0 (.lst (Ls ++ [.loc l])))[r]? = some (.lst row) := by rw [List.getElem?_set_ne d1]; exact hr
  have g3' := at_old g3 J
  have l1 : row.length < 16777216 := by omega
  have l2' : (1 : Int) < (Ls.length : Int) + 1 + 1 := by omega
  have h0' : st[n0]? = some (.lst (Ls ++ [.loc l, .loc l2])) := by simpa using h0
  have el : atI (Ls ++ [D.loc l, D.loc l2]) (-1) = some (.loc l2) := by
    have := atI_neg1 (xs := Ls ++ [D.loc l]) (x := D.loc l2); simpa using this
  have ed : (Ls ++ [D.loc l, D.loc l2]).dropLast = Ls ++ [D.loc l] := by
    rw [show Ls ++ [D.loc l, D.loc l2] = (Ls ++ [D.loc l]) ++ [D.loc l2] by simp, List.dropLast_concat]
  simp [-List.dropLast_append_of_ne_nil, content_of_words_fb1, content_of_words_i7, content_of_words_i6, content_of_words_i5, content_of_words_i4, content_of_words_i3, content_of_words_i2, E, h0', el, ed, l2', g0, g1, g2, g3, g3', hcn, l1, List.lookup]
  intro hh
  omega
/-- a word -/
theorem run_word {st : Stt} {Ls row : List D} {x : C} {w : List Nat} {l c r : Nat} (hi : st[nw]? = some (.lst its)) (h0 : st[n0]? = some (.lst (Ls ++ [.loc l]))) (h : st[l]? = some (.ins a.c_Level [(CHS, .loc c), (RWS, .loc r)])) (hr : st[r]? = some (.lst row)) (k3 : row.length < 50)
    (hw : w ≠ [40]) (ho : okL w = true) (hs : ∃ J, ∀ p : Int, m_single_content a [.str (tx w), .int p] st = .ok (emb x) (st ++ J)) :
    ∃ J, Runs a its nw e n0 [w] true false st ((st ++ J).set r (.lst (row ++ [emb x]))) := by
  obtain ⟨J, hs⟩ := hs
  refine ⟨J, Runs.one hi fun p x6 => ⟨some (.loc l), ?_⟩⟩
  have l1 : row.length < 16777216 := by omega
  have hr' := at_old hr J
  simp [content_of_words_fb1, content_of_words_i7, content_of_words_i6, E, h0, h, hr, hr', l1, List.lookup, hw, ho, hs]
theorem single_wd (b : Bool) (st : Stt) : ∃ J, ∀ p : Int, m_single_content a [.str (tx (wdc b)), .int p] st = .ok (emb (.wd b)) (st ++ J) := by
  refine ⟨[], fun p => ?_⟩
  cases b <;> simp [m_single_content, f_single_content, single_content_i2, emb]
theorem single_ty (x : Nm) (st : Stt) : ∃ J, ∀ p : Int, m_single_content a [.str (tx (nmc x)), .int p] st = .ok (emb (.ty x)) (st ++ J) := by
  obtain ⟨J, h⟩ := istn_nm a x st
  refine ⟨J, fun p => ?_⟩
  cases x <;> (simp only [nmc] at h; simp [m_single_content, f_single_content, single_content_i2, single_content_i1, emb, nmc, h])
/-! ### what is promised of a part -/
def Pre (a : Ads) (its : List D) (nw n0 : Nat) (st : Stt) (Ls : List D) (l c r : Nat) (ch row : List D) : Prop :=
  st[nw]? = some (.lst its) ∧ st[n0]? = some (.lst (Ls ++ [.loc l])) ∧ st[l]? = some (.ins a.c_Level [(CHS, .loc c), (RWS, .loc r)]) ∧ st[c]? = some (.lst ch) ∧ st[r]? = some (.lst row) ∧
  n0 ≠ r ∧ n0 ≠ c ∧ nw ≠ r ∧ nw ≠ c ∧ c ≠ r ∧ nw ≠ n0 ∧ ch.length < 10 ∧ row.length < 10 ∧ Ls.length < 50
/-- only the cell r has changed -/
def Fr1 (r : Nat) (st st' : Stt) : Prop := st.length ≤ st'.length ∧ ∀ k, k < st.length → k ≠ r → st'[k]? = st[k]?
def SpA (a : Ads) (its : List D) (nw : Nat) (e : D) (n0 : Nat) (b : Nat) (ws : List (List Nat)) (g : List D) (free : Prop) : Prop := ∀ st Ls l c r ch row, Pre a its nw n0 st Ls l c r ch row → Ls.length + b ≤ 40 → row.length ≤ 3 → (free ∨ row = []) → ∃ st', Runs a its nw e n0 ws true false st st' ∧ st'[r]? = some (.lst (row ++ g)) ∧ Fr1 r st st'
theorem fr_get {r : Nat} {st st' : Stt} (h : Fr1 r st st') {k : Nat} {o : O} (hk : st[k]? = some o) (hr : k ≠ r) : st'[k]? = some o := by
  rw [h.2 k (List.getElem?_eq_some_iff.mp hk).1 hr]; exact hk
theorem pre_next {st st' : Stt} {Ls : List D} {l c r : Nat} {ch row row' : List D} (P : Pre a its nw n0 st Ls l c r ch row) (f : Fr1 r st st') (hr : st'[r]? = some (.lst row')) (hl : row'.length < 10) : Pre a its nw n0 st' Ls l c r ch row' := by
  obtain ⟨p1, p2, p3, p4, p5, p6, p7, p8, p9, p10, p11, p12, p13, p14⟩ := P
  have hlr : l ≠ r := by rintro rfl; rw [p3] at p5; cases p5
  exact ⟨fr_get f p1 p8, fr_get f p2 p6, fr_get f p3 hlr, fr_get f p4 p10, hr, p6, p7, p8, p9, p10, p11, p12, hl, p14⟩
theorem fr_trans {r : Nat} {s1 s2 s3 : Stt} (h : Fr1 r s1 s2) (k : Fr1 r s2 s3) : Fr1 r s1 s3 := ⟨Nat.le_trans h.1 k.1, fun i hi hr => by rw [k.2 i (by have := h.1; omega) hr, h.2 i hi hr]⟩
theorem fr_set {r : Nat} {st J : Stt} {o : O} : Fr1 r st ((st ++ J).set r o) := ⟨by simp, fun k hk hr => by rw [List.getElem?_set_ne (Ne.symm hr), List.getElem?_append_left hk]⟩
theorem get_set {r : Nat} {st J : Stt} {o : O} (h : r < st.length) : ((st ++ J).set r o)[r]? = some o := List.getElem?_set_self (by simp; omega)
/-- words -/
theorem spA_word (b : Nat) (p : C) (w : List Nat) (hw : w ≠ [40]) (ho : okL w = true) (hs : ∀ st, ∃ J, ∀ p' : Int, m_single_content a [.str (tx w), .int p'] st = .ok (emb p) (st ++ J)) (free : Prop) : SpA a its nw e n0 b [w] [emb p] free := by
  intro st Ls l c r ch row P hdep hrow _
  obtain ⟨p1, p2, p3, p4, p5, p6, p7, p8, p9, p10, p11, p12, p13, p14⟩ := P
  obtain ⟨J, h⟩ := run_word (e := e) (x := p) p1 p2 p3 p5 (by omega) hw ho (hs st)
  exact ⟨_, h, get_set (List.getElem?_eq_some_iff.mp p5).1, fr_set⟩
/-- a part and a sign behind it -/
theorem spA_sign (b : Nat) (k : Sg) (p : C) (ws : List (List Nat)) (h : SpA a its nw e n0 b ws [emb p] True) (free : Prop) : SpA a its nw e n0 b (ws ++ [sgn k]) [emb (.sg k p)] free := by
  intro st Ls l c r ch row P hdep hrow _
  obtain ⟨s1, h1, h2, h3⟩ := h st Ls l c r ch row P hdep hrow (.inl trivial)
  have P' := pre_next P h3 h2 (by simp; omega)
  obtain ⟨p1, p2, p3, p4, p5, p6, p7, p8, p9, p10, p11, p12, p13, p14⟩ := P'
  have h4 := run_sign (e := e) k p1 p2 p3 p5
  refine ⟨_, h1.app h4, ?_, fr_trans h3 ?_⟩
  · exact List.getElem?_set_self (List.getElem?_eq_some_iff.mp p5).1
  · have := fr_set (r := r) (st := s1) (J := []) (o := .lst (row ++ [.tup [.str (tx (sgc k)), emb p]]))
    simpa using this
/-- what is promised of a whole content at a new level -/
def SpB (a : Ads) (its : List D) (nw : Nat) (e : D) (n0 : Nat) (b : Nat) (p : C) : Prop := ∀ st Ls l c r, Pre a its nw n0 st Ls l c r [] [] → Ls.length + b ≤ 40 → ∃ st' ch' row' c' r', Runs a its nw e n0 (wrd p) true false st st' ∧ st'[l]? = some (.ins a.c_Level [(CHS, .loc c'), (RWS, .loc r')]) ∧ st'[c']? = some (.lst ch') ∧ st'[r']? = some (.lst row') ∧
  contD ch' row' = emb p ∧ ch'.length < 10 ∧ row'.length < 10 ∧ (c' = c ∨ st.length ≤ c') ∧ (r' = r ∨ st.length ≤ r') ∧ st.length ≤ st'.length ∧ ∀ k, k < st.length → k ≠ l → k ≠ c → k ≠ r → st'[k]? = st[k]?
theorem spA_brk (b : Nat) (p : C) (h : SpB a its nw e n0 b p) (free : Prop) : SpA a its nw e n0 (b + 1) ([40] :: (wrd p ++ [[41]])) [emb p] free := by
  intro st Ls l c r ch row P hdep hrow _
  obtain ⟨p1, p2, p3, p4, p5, p6, p7, p8, p9, p10, p11, p12, p13, p14⟩ := P
  have b1 := (List.getElem?_eq_some_iff.mp p1).1
  have b2 := (List.getElem?_eq_some_iff.mp p2).1
  have b3 := (List.getElem?_eq_some_iff.mp p3).1
  have b5 := (List.getElem?_eq_some_iff.mp p5).1
  have hn0l : n0 ≠ l := by rintro rfl; rw [p2] at p3; cases p3
  have ho := run_open (a := a) (e := e) p1 p2 (by omega)
  obtain ⟨s1, hs1⟩ : ∃ s1, s1 = ((st ++ [O.ins a.c_Level [(CHS, D.loc (st.length + 1)), (RWS, D.loc (st.length + 2))], O.lst [], O.lst []]).set n0 (O.lst (Ls ++ [D.loc l] ++ [D.loc st.length]))) := ⟨_, rfl⟩
  rw [← hs1] at ho
  have hlen : s1.length = st.length + 3 := by rw [hs1]; simp
  have old : ∀ k, k < st.length → k ≠ n0 → s1[k]? = st[k]? := fun k hk hn => by
    rw [hs1, List.getElem?_set_ne (Ne.symm hn), List.getElem?_append_left hk]
  have new : ∀ j o, [O.ins a.c_Level [(CHS, D.loc (st.length + 1)), (RWS, D.loc (st.length + 2))], O.lst [], O.lst []][j]? = some o → s1[st.length + j]? = some o := fun j o h => by
    rw [hs1, List.getElem?_set_ne (by omega), at_add]; exact h
  have q0 : s1[n0]? = some (.lst (Ls ++ [.loc l] ++ [.loc st.length])) := by rw [hs1]; exact List.getElem?_set_self (by simp; omega)
  have P1 : Pre a its nw n0 s1 (Ls ++ [.loc l]) st.length (st.length + 1) (st.length + 2) [] [] :=
    ⟨by rw [old nw b1 p11]; exact p1, q0, new 0 _ rfl, new 1 _ rfl, new 2 _ rfl, by omega, by omega, by omega, by omega, by omega, p11, by simp, by simp, by simp; omega⟩
  obtain ⟨s2, ch', row', c', r', g1, g2, g3, g4, g5, g6, g7, g8, g9, g10, g11⟩ := h s1 _ _ _ _ P1 (by simp; omega)
  have keep : ∀ k, k < st.length → k ≠ n0 → s2[k]? = st[k]? := fun k hk hn => by rw [g11 k (by omega) (by omega) (by omega) (by omega), old k hk hn]
  have z0 : s2[n0]? = some (.lst (Ls ++ [.loc l] ++ [.loc st.length])) := by rw [g11 n0 (by omega) (by omega) (by omega) (by omega)]; exact q0
  obtain ⟨J, hc⟩ := run_close (a := a) (e := e) (st := s2) (its := its) (nw := nw) (by rw [keep nw b1 p11]; exact p1) z0 (by rw [keep l b3 (Ne.symm hn0l)]; exact p3) (by rw [keep r b5 (Ne.symm p6)]; exact p5) g2 g3 g4 (by omega) (by omega) (by omega) p6 (by omega) (by omega)
  rw [g5] at hc
  refine ⟨((s2.set n0 (O.lst (Ls ++ [D.loc l]))) ++ J).set r (.lst (row ++ [emb p])), ?_, ?_, ?_, ?_⟩
  · have := ho.app (g1.app hc)
    simpa using this
  · exact List.getElem?_set_self (by simp; omega)
  · simp; omega
  · intro k hk hr
    rw [List.getElem?_set_ne (Ne.symm hr), List.getElem?_append_left (by simp; omega)]
    by_cases hn : k = n0
    · subst hn
      rw [List.getElem?_set_self (by omega), p2]
    · rw [List.getElem?_set_ne (Ne.symm hn), keep k hk hn]
end
end Law

set_option Elab.async false
set_option linter.all false
set_option maxRecDepth 100000
set_option maxHeartbeats 2000000
namespace Law
open PySem PySem.Spec PyProof.Rows L2 Rg
section
variable {a : Ads} {its : List D} {nw : Nat} {e : D} {n0 : Nat}
theorem seqA {P p q : Nat} {w1 w2 : List (List Nat)} {g1 g2 : List D} {f1 : Prop} (hp : p ≤ P) (hq : q ≤ P) (A1 : SpA a its nw e n0 p w1 g1 f1) (A2 : SpA a its nw e n0 q w2 g2 True) (hl : g1.length ≤ 3) : SpA a its nw e n0 P (w1 ++ ([44] :: w2)) (g1 ++ g2) False := by
  intro st Ls l c r ch row Pr hdep hrow hf
  rcases hf with hf | hf
  · exact hf.elim
  subst hf
  obtain ⟨s1, h1, h2, h3⟩ := A1 st Ls l c r ch [] Pr (by omega) hrow (.inr rfl)
  rw [List.nil_append] at h2
  have P' := pre_next Pr h3 h2 (by omega)
  have hc := run_comma (a := a) (e := e) P'.1 P'.2.1
  obtain ⟨s2, k1, k2, k3⟩ := A2 s1 Ls l c r ch g1 P' (by omega) hl (.inl trivial)
  refine ⟨s2, ?_, by simpa using k2, fr_trans h3 k3⟩
  have := h1.app (hc.app k1)
  simpa using this
def SpO (a : Ads) (its : List D) (nw : Nat) (e : D) (n0 : Nat) (b : Nat) (ws : List (List Nat)) (ch' row' : List D) : Prop := ∀ st Ls l c r, Pre a its nw n0 st Ls l c r [] [] → Ls.length + b ≤ 40 → ∃ st' c' r', Runs a its nw e n0 ws true false st st' ∧ st'[l]? = some (.ins a.c_Level [(CHS, .loc c'), (RWS, .loc r')]) ∧ st'[c']? = some (.lst ch') ∧ st'[r']? = some (.lst row') ∧
  (c' = c ∨ st.length ≤ c') ∧ (r' = r ∨ st.length ≤ r') ∧ c' ≠ r' ∧ st.length ≤ st'.length ∧ ∀ k, k < st.length → k ≠ l → k ≠ c → k ≠ r → st'[k]? = st[k]?
theorem spO_A {P p : Nat} {ws : List (List Nat)} {g : List D} {f : Prop} (hp : p ≤ P) (h : SpA a its nw e n0 p ws g f) : SpO a its nw e n0 P ws [] g := by
  intro st Ls l c r Pr hdep
  obtain ⟨s1, h1, h2, h3⟩ := h st Ls l c r [] [] Pr (by omega) (by simp) (.inr rfl)
  obtain ⟨p1, p2, p3, p4, p5, p6, p7, p8, p9, p10, p11, p12, p13, p14⟩ := Pr
  have hlr : l ≠ r := by rintro rfl; rw [p3] at p5; cases p5
  exact ⟨s1, c, r, h1, fr_get h3 p3 hlr, fr_get h3 p4 p10, by simpa using h2, .inl rfl, .inl rfl, p10, h3.1, fun k hk _ _ hr => h3.2 k hk hr⟩
theorem spO_bar {P q : Nat} {w1 w2 : List (List Nat)} {ch g1 g2 : List D} {f : Prop} (hq : q ≤ P) (h : SpO a its nw e n0 P w1 ch g1) (A2 : SpA a its nw e n0 q w2 g2 f) (hc : ch.length < 5) (hg : g1.length < 9) : SpO a its nw e n0 P (w1 ++ ([124] :: w2)) (ch ++ [joinD [115,101,113] g1]) g2 := by
  intro st Ls l c r Pr hdep
  obtain ⟨s1, c1, r1, h1, h2, h3, h4, h5, h6, h7, h8, h9⟩ := h st Ls l c r Pr hdep
  obtain ⟨p1, p2, p3, p4, p5, p6, p7, p8, p9, p10, p11, p12, p13, p14⟩ := Pr
  have b1 := (List.getElem?_eq_some_iff.mp p1).1
  have b2 := (List.getElem?_eq_some_iff.mp p2).1
  have b3 := (List.getElem?_eq_some_iff.mp p3).1
  have hn0l : n0 ≠ l := by rintro rfl; rw [p2] at p3; cases p3
  have hnwl : nw ≠ l := by rintro rfl; rw [p1] at p3; cases p3
  have hlc : l ≠ c := by rintro rfl; rw [p3] at p4; cases p4
  have hlc1 : l ≠ c1 := by rintro rfl; rw [h2] at h3; cases h3
  have hn0c1 : n0 ≠ c1 := by rcases h5 with h | h <;> omega
  have hnwc1 : nw ≠ c1 := by rcases h5 with h | h <;> omega
  have i1 : s1[nw]? = some (.lst its) := by rw [h9 nw b1 hnwl p9 p8]; exact p1
  have i2 : s1[n0]? = some (.lst (Ls ++ [.loc l])) := by rw [h9 n0 b2 hn0l p7 p6]; exact p2
  have hbar := run_bar (a := a) (e := e) i1 i2 h2 h3 h4 (by omega) (by omega) hlc1
  have bc1 := (List.getElem?_eq_some_iff.mp h3).1
  have bl := (List.getElem?_eq_some_iff.mp h2).1
  obtain ⟨s2, hs2⟩ : ∃ s2, s2 = ((s1.set c1 (.lst (ch ++ [joinD [115,101,113] g1])) ++ [O.lst []]).set l (.ins a.c_Level [(CHS, .loc c1), (RWS, .loc s1.length)])) := ⟨_, rfl⟩
  rw [← hs2] at hbar
  have hl2 : s2.length = s1.length + 1 := by rw [hs2]; simp
  have old : ∀ k, k < s1.length → k ≠ l → k ≠ c1 → s2[k]? = s1[k]? := fun k hk n1 n2 => by
    rw [hs2, List.getElem?_set_ne (Ne.symm n1), List.getElem?_append_left (by simpa using hk), List.getElem?_set_ne (Ne.symm n2)]
  have g1' : s2[l]? = some (.ins a.c_Level [(CHS, .loc c1), (RWS, .loc s1.length)]) := by rw [hs2]; exact List.getElem?_set_self (by simp; omega)
  have g2' : s2[c1]? = some (.lst (ch ++ [joinD [115,101,113] g1])) := by
    rw [hs2, List.getElem?_set_ne hlc1, List.getElem?_append_left (by simpa using bc1)]
    exact List.getElem?_set_self bc1
  have g3' : s2[s1.length]? = some (.lst []) := by
    rw [hs2, List.getElem?_set_ne (by omega)]
    have := at_0 (s1.set c1 (.lst (ch ++ [joinD [115,101,113] g1]))) (O.lst []) []
    rw [List.length_set] at this
    exact this
  have P2 : Pre a its nw n0 s2 Ls l c1 s1.length (ch ++ [joinD [115,101,113] g1]) [] :=
    ⟨by rw [old nw (by omega) hnwl hnwc1]; exact i1, by rw [old n0 (by omega) hn0l hn0c1]; exact i2, g1', g2', g3', by omega, hn0c1, by omega, hnwc1, by omega, p11, by simp; omega, by simp, p14⟩
  obtain ⟨s3, k1, k2, k3⟩ := A2 s2 Ls l c1 s1.length _ [] P2 (by omega) (by simp) (.inr rfl)
  refine ⟨s3, c1, s1.length, ?_, fr_get k3 g1' (by omega), fr_get k3 g2' (by omega), by simpa using k2, h5, .inr h8, by omega, by have := k3.1; omega, fun k hk n1 n2 n3 => ?_⟩
  · have := h1.app (hbar.app k1)
    simpa using this
  · have hkc1 : k ≠ c1 := by rcases h5 with h | h <;> omega
    rw [k3.2 k (by omega) (by omega), old k (by omega) n1 hkc1, h9 k hk n1 n2 n3]
theorem spB_O {b : Nat} {p : C} {ch g : List D} (h : SpO a its nw e n0 b (wrd p) ch g) (he : contD ch g = emb p) (h1 : ch.length < 10) (h2 : g.length < 10) : SpB a its nw e n0 b p := by
  intro st Ls l c r Pr hdep
  obtain ⟨s1, c1, r1, g1, g2, g3, g4, g5, g6, g7, g8, g9⟩ := h st Ls l c r Pr hdep
  exact ⟨s1, ch, g, c1, r1, g1, g2, g3, g4, he, h1, h2, g5, g6, g8, g9⟩
theorem spA_mono {b b' : Nat} {ws : List (List Nat)} {g : List D} {f f' : Prop} (hb : b ≤ b') (hf : f' → f) (h : SpA a its nw e n0 b ws g f) : SpA a its nw e n0 b' ws g f' :=
  fun st Ls l c r ch row Pr hd hr hh => h st Ls l c r ch row Pr (by omega) hr (hh.imp hf id)
theorem wd_okl (b : Bool) : okL (wdc b) = true := by cases b <;> rfl
theorem nm_okl (b : Nm) : okL (nmc b) = true := by cases b <;> rfl
/-- the parts of a seq in an or -/
def rowD : C → List D
  | .row2 false p q => [emb p, emb q]
  | .row3 false p q r => [emb p, emb q, emb r]
  | c => [emb c]
theorem rowD_join (c : C) : joinD [115,101,113] (rowD c) = emb c := by
  cases c with
  | row2 o p q => cases o <;> simp [rowD, joinD, emb]
  | row3 o p q r => cases o <;> simp [rowD, joinD, emb]
  | _ => simp [rowD, joinD]
theorem rowD_len (c : C) : (rowD c).length ≤ 3 := by
  cases c with
  | row2 o p q => cases o <;> simp [rowD]
  | row3 o p q r => cases o <;> simp [rowD]
  | _ => simp [rowD]
/-- all that is promised of a content -/
structure All (a : Ads) (its : List D) (nw : Nat) (e : D) (n0 : Nat) (p : C) : Prop where
  A : ∀ ar, ar = 2 ∨ ar = 3 → SpA a its nw e n0 (dep p + 1) (bwr ar p (wrd p)) [emb p] True
  B : SpB a its nw e n0 (dep p) p
  C : SpA a its nw e n0 (dep p + 1) (bwr 1 p (wrd p)) (rowD p) False
theorem all_single {p : C} (hb : ∀ ar, brk ar p = false) (hr : rowD p = [emb p]) (h : ∀ f, SpA a its nw e n0 (dep p) (wrd p) [emb p] f) : All a its nw e n0 p where
  A := fun ar _ => by unfold bwr; rw [if_neg (by rw [hb]; simp)]; exact spA_mono (by omega) id (h True)
  B := spB_O (spO_A (Nat.le_refl _) (h True)) (by simp [contD, joinD]) (by simp) (by simp)
  C := by unfold bwr; rw [if_neg (by rw [hb]; simp), hr]; exact spA_mono (by omega) id (h False)
theorem all_ok : ∀ p : C, All a its nw e n0 p
  | .wd b => all_single (fun _ => rfl) rfl fun f => spA_word _ _ _ (by cases b <;> simp) (wd_okl b) (single_wd b) f
  | .ty x => all_single (fun _ => rfl) rfl fun f => spA_word _ _ _ (by cases x <;> simp [nmc]) (nm_okl x) (single_ty x) f
  | .sg k p => by
    have ih := all_ok p
    have h := fun f => spA_sign (dep p + 1) k p _ (ih.A 3 (.inr rfl)) f
    have hd : dep (.sg k p) = dep p + 1 := by simp [dep]; omega
    exact all_single (fun _ => rfl) rfl fun f => by rw [hd]; exact h f
  | .row2 false p q => by
    have ip := all_ok p; have iq := all_ok q
    have hd : dep (.row2 false p q) = 1 + max (dep p) (dep q) := rfl
    have h := seqA (P := dep (.row2 false p q)) (by omega) (by omega) (ip.A 2 (.inl rfl)) (iq.A 2 (.inl rfl)) (by simp)
    have hB : SpB a its nw e n0 (dep (.row2 false p q)) (.row2 false p q) := spB_O (spO_A (Nat.le_refl _) h) (by simp [contD, joinD, emb]) (by simp) (by simp)
    refine ⟨fun ar har => ?_, hB, ?_⟩
    · have : brk ar (.row2 false p q) = true := by rcases har with rfl | rfl <;> rfl
      unfold bwr; rw [if_pos this]; exact spA_brk _ _ hB _
    · exact spA_mono (by omega) id h
  | .row3 false p q r => by
    have ip := all_ok p; have iq := all_ok q; have ir := all_ok r
    have hd : dep (.row3 false p q r) = 1 + max (dep p) (max (dep q) (dep r)) := rfl
    have h1 := seqA (P := dep (.row3 false p q r)) (by omega) (by omega) (ip.A 2 (.inl rfl)) (iq.A 2 (.inl rfl)) (by simp)
    have h2 := seqA (P := dep (.row3 false p q r)) (by omega) (by omega) h1 (ir.A 2 (.inl rfl)) (by simp)
    have h : SpA a its nw e n0 (dep (.row3 false p q r)) (wrd (.row3 false p q r)) [emb p, emb q, emb r] False := by
      simpa [wrd, roa, sepw] using h2
    have hB : SpB a its nw e n0 (dep (.row3 false p q r)) (.row3 false p q r) := spB_O (spO_A (Nat.le_refl _) h) (by simp [contD, joinD, emb]) (by simp) (by simp)
    refine ⟨fun ar har => ?_, hB, ?_⟩
    · have : brk ar (.row3 false p q r) = true := by rcases har with rfl | rfl <;> rfl
      unfold bwr; rw [if_pos this]; exact spA_brk _ _ hB _
    · exact spA_mono (by omega) id h
  | .row2 true p q => by
    have ip := all_ok p; have iq := all_ok q
    have hd : dep (.row2 true p q) = 1 + max (dep p) (dep q) := rfl
    have h1 := spO_A (P := dep (.row2 true p q)) (by omega) ip.C
    have h2 := spO_bar (by omega) h1 iq.C (by simp) (by have := rowD_len p; omega)
    rw [rowD_join] at h2
    have hB : SpB a its nw e n0 (dep (.row2 true p q)) (.row2 true p q) := spB_O h2 (by rw [contD, rowD_join]; simp [joinD, emb]) (by simp) (by have := rowD_len q; omega)
    refine ⟨fun ar har => ?_, hB, ?_⟩
    · have : brk ar (.row2 true p q) = true := by rcases har with rfl | rfl <;> rfl
      unfold bwr; rw [if_pos this]; exact spA_brk _ _ hB _
    · exact spA_brk _ _ hB _
  | .row3 true p q r => by
    have ip := all_ok p; have iq := all_ok q; have ir := all_ok r
    have hd : dep (.row3 true p q r) = 1 + max (dep p) (max (dep q) (dep r)) := rfl
    have h1 := spO_A (P := dep (.row3 true p q r)) (by omega) ip.C
    have h2 := spO_bar (by omega) h1 iq.C (by simp) (by have := rowD_len p; omega)
    have h3 := spO_bar (by omega) h2 ir.C (by simp) (by have := rowD_len q; omega)
    rw [rowD_join, rowD_join] at h3
    have h : SpO a its nw e n0 (dep (.row3 true p q r)) (wrd (.row3 true p q r)) [emb p, emb q] (rowD r) := by
      simpa [wrd, roa, sepw] using h3
    have hB : SpB a its nw e n0 (dep (.row3 true p q r)) (.row3 true p q r) := spB_O h (by rw [contD, rowD_join]; simp [joinD, emb]) (by simp) (by have := rowD_len r; omega)
    refine ⟨fun ar har => ?_, hB, ?_⟩
    · have : brk ar (.row3 true p q r) = true := by rcases har with rfl | rfl <;> rfl
      unfold bwr; rw [if_pos this]; exact spA_brk _ _ hB _
    · exact spA_brk _ _ hB _
end
section
variable (a : Ads)
theorem read_ok (l : List Nat) (c : C) (hx : Lex l (wrd c)) (hl : l.length < 1000000) (hd : dep c ≤ 10) (st : Stt) : ∃ J, m_read_content a [.str (tx l)] st = .ok (emb c) (st ++ J) := by
  obtain ⟨ps, hp, hw⟩ := words_ok a l (wrd c) hx hl st
  obtain ⟨W, hW⟩ : ∃ W, W = List.zipWith wdD (wrd c) ps := ⟨_, rfl⟩
  rw [← hW] at hw
  obtain ⟨s0, hs0⟩ : ∃ s0, s0 = st ++ [O.lst W] ++ [O.ins a.c_Level [(CHS, D.loc (st.length + 2)), (RWS, D.loc (st.length + 3))], O.lst [], O.lst []] ++ [O.lst [D.loc (st.length + 1)]] := ⟨_, rfl⟩
  have hlen : s0.length = st.length + 5 := by rw [hs0]; simp
  have at_ : ∀ j o, [O.lst W, O.ins a.c_Level [(CHS, D.loc (st.length + 2)), (RWS, D.loc (st.length + 3))], O.lst [], O.lst [], O.lst [D.loc (st.length + 1)]][j]? = some o → s0[st.length + j]? = some o := fun j o h => by
    have : s0 = st ++ [O.lst W, O.ins a.c_Level [(CHS, D.loc (st.length + 2)), (RWS, D.loc (st.length + 3))], O.lst [], O.lst [], O.lst [D.loc (st.length + 1)]] := by rw [hs0]; simp
    rw [this, at_add]; exact h
  have P : Pre a W st.length (st.length + 4) s0 [] (st.length + 1) (st.length + 2) (st.length + 3) [] [] :=
    ⟨at_ 0 _ rfl, at_ 4 _ rfl, at_ 1 _ rfl, at_ 2 _ rfl, at_ 3 _ rfl, by omega, by omega, by omega, by omega, by omega, by omega, by simp, by simp, by simp⟩
  obtain ⟨s2, ch', row', c', r', g1, g2, g3, g4, g5, g6, g7, g8, g9, g10, g11⟩ := (all_ok (a := a) (its := W) (nw := st.length) (e := .int ((l.length : Int) + 1)) (n0 := st.length + 4) c).B s0 [] _ _ _ P (by simp; omega)
  obtain ⟨y4, y5, y6, hF⟩ := g1 ps [] none none none hp
  rw [← hW, List.append_nil] at hF
  have k0 : s2[st.length]? = some (.lst W) := by rw [g11 _ (by omega) (by omega) (by omega) (by omega)]; exact at_ 0 _ rfl
  have k4 : s2[st.length + 4]? = some (.lst [.loc (st.length + 1)]) := by rw [g11 _ (by omega) (by omega) (by omega) (by omega)]; exact at_ 4 _ rfl
  have hF2 : forF (fun s => items s (.loc st.length) = some W) (gT [4, 5]) (content_of_words_fb1 a) W (E st.length (.int ((l.length : Int) + 1)) (st.length + 4) true none none none) s0 = .nx (E st.length (.int ((l.length : Int) + 1)) (st.length + 4) false y4 y5 y6) s2 := by
    refine Eq.trans hF ?_
    unfold F forF
    rw [if_pos (by rw [items_at, k0])]
  obtain ⟨J, hc⟩ := content_ok' a (st.length + 1) c' r' ch' row' s2 g2 g3 g4 (by omega) (by omega)
  rw [g5] at hc
  have hlt : l.length ≤ 16777216 := by omega
  obtain ⟨K, hK⟩ : ∃ K, s2 = st ++ K := by
    refine ⟨s2.drop st.length, ?_⟩
    refine List.ext_getElem? fun k => ?_
    by_cases hk : k < st.length
    · rw [List.getElem?_append_left hk, g11 k (by omega) (by omega) (by omega) (by omega), hs0]
      simp only [List.append_assoc]
      rw [List.getElem?_append_left hk]
    · rw [List.getElem?_append_right (by omega), List.getElem?_drop]
      congr 1; omega
  refine ⟨K ++ J, ?_⟩
  have hm := mk_level a
  have e0 : st ++ O.lst W :: [O.ins a.c_Level [(CHS, D.loc (st.length + 2)), (RWS, D.loc (st.length + 3))], O.lst [], O.lst [], O.lst [D.loc (st.length + 1)]] = s0 := by rw [hs0]; simp
  have hcw : m_content_of_words a [.loc st.length, .int ((l.length : Int) + 1)] (st ++ [O.lst W]) = .ok (emb c) (s2 ++ J) := by
    simp only [E] at hF2
    simp [-xMake_run, m_content_of_words, f_content_of_words, hm, content_of_words_f1, -items_at]
    have e1 : st ++ [O.lst W, O.ins a.c_Level [(CHS, D.loc (List.length st + 1 + 1)), (RWS, D.loc (List.length st + 1 + 2))], O.lst [], O.lst [], O.lst [D.loc (List.length st + 1)]] = s0 := by rw [hs0]; simp
    rw [e1, hF2]
    simp [content_of_words_i1, k4, g2, hc, List.lookup]
  rw [← List.append_assoc, ← hK]
  simp [m_read_content, f_read_content, hw, hlt, hcw]
end
end Law

set_option Elab.async false
set_option linter.all false
set_option maxRecDepth 100000
set_option maxHeartbeats 4000000
namespace Law
open PySem PySem.Spec PyProof.Rows L2 Rg
/-! ### contents as data -/
def dat : C → PyData
  | .wd b => .tuple [.str (tx (wdc b))]
  | .ty x => .tuple [.str (tx [116,121,112,101]), .str (tx (nmc x))]
  | .row2 o p q => .tuple [.str (tx (roc o)), .tuple [dat p, dat q]]
  | .row3 o p q r => .tuple [.str (tx (roc o)), .tuple [dat p, dat q, dat r]]
  | .sg k p => .tuple [.str (tx (sgc k)), dat p]
theorem toD_l (l : List Nat) (h : okL l = true) (n : Nat) (st : Stt) : toD st (n + 1) (.str ⟨l.toArray⟩) = some (.str ⟨l.toArray⟩) := toD_str (by rw [strOk_l]; exact h) n st
theorem toD_t (ds : List D) (n : Nat) (st : Stt) : toD st (n + 1) (.tup ds) = (ds.mapM (toD st n)).map .tuple := rfl
theorem toD_emb (st : Stt) : ∀ (c : C) (n : Nat), 2 * dep c + 3 ≤ n → toD st n (emb c) = some (dat c)
  | .wd b, n, h => by
    obtain ⟨n, rfl⟩ : ∃ k, n = k + 1 + 1 := ⟨n - 2, by omega⟩
    simp [-wdc, -sgc, -roc, emb, toD_t, toD_l _ (wd_okl b), dat]
  | .ty x, n, h => by
    obtain ⟨n, rfl⟩ : ∃ k, n = k + 1 + 1 := ⟨n - 2, by omega⟩
    simp [-wdc, -sgc, -roc, emb, toD_t, toD_l _ (nm_okl x), toD_l [116,121,112,101] rfl, dat]
  | .sg k p, n, h => by
    simp only [dep] at h
    obtain ⟨n, rfl⟩ : ∃ k, n = k + 1 + 1 := ⟨n - 2, by omega⟩
    have := toD_emb st p (n + 1) (by omega)
    have hk : okL (sgc k) = true := by cases k <;> rfl
    simp [-wdc, -sgc, -roc, emb, toD_t, toD_l _ hk, dat, this]
  | .row2 o p q, n, h => by
    simp only [dep] at h
    obtain ⟨n, rfl⟩ : ∃ k, n = k + 1 + 1 := ⟨n - 2, by omega⟩
    have h1 := toD_emb st p n (by omega)
    have h2 := toD_emb st q n (by omega)
    have hk : okL (roc o) = true := by cases o <;> rfl
    simp [-wdc, -sgc, -roc, emb, toD_t, toD_l _ hk, dat, h1, h2]
  | .row3 o p q r, n, h => by
    simp only [dep] at h
    obtain ⟨n, rfl⟩ : ∃ k, n = k + 1 + 1 := ⟨n - 2, by omega⟩
    have h1 := toD_emb st p n (by omega)
    have h2 := toD_emb st q n (by omega)
    have h3 := toD_emb st r n (by omega)
    have hk : okL (roc o) = true := by cases o <;> rfl
    simp [-wdc, -sgc, -roc, emb, toD_t, toD_l _ hk, dat, h1, h2, h3]
theorem eqv_dat : ∀ c : C, PyData.eqv (dat c) (dat c) = true
  | .wd b => by simp [dat, PyData.eqv, PyData.eqvAll]
  | .ty x => by simp [dat, PyData.eqv, PyData.eqvAll]
  | .sg k p => by simp [dat, PyData.eqv, PyData.eqvAll, eqv_dat p]
  | .row2 o p q => by simp [dat, PyData.eqv, PyData.eqvAll, eqv_dat p, eqv_dat q]
  | .row3 o p q r => by simp [dat, PyData.eqv, PyData.eqvAll, eqv_dat p, eqv_dat q, eqv_dat r]
theorem ne_emb (c : C) (h : dep c ≤ 10) (st : Stt) : oNe (emb c) (emb c) st = some (.bl false, st) := by
  unfold oNe deq
  rw [toD_emb st c 60 (by omega)]
  simp [eqv_dat]
theorem eqvAll_strs : ∀ l : List Str, PyData.eqvAll (l.map PyData.str) (l.map PyData.str) = true
  | [] => by simp [PyData.eqvAll]
  | x :: l => by simp [PyData.eqvAll, PyData.eqv, eqvAll_strs l]
theorem mapM_strs (st : Stt) (n : Nat) : ∀ l : List Str, (∀ x ∈ l, PyData.strOk x = true) → (l.map D.str).mapM (toD st (n + 1)) = some (l.map PyData.str)
  | [], _ => rfl
  | x :: l, h => by
    rw [List.map_cons, List.mapM_cons, toD_str (h x (by simp)), mapM_strs st n l fun y hy => h y (by simp [hy])]
    rfl
theorem ne_strs {st : Stt} {m n : Nat} {l : List Str} (h : st[m]? = some (.lst (l.map D.str))) (k : st[n]? = some (.lst (l.map D.str))) (ho : ∀ x ∈ l, PyData.strOk x = true) : oNe (.loc m) (.loc n) st = some (.bl false, st) := by
  have e : ∀ j, st[j]? = some (.lst (l.map D.str)) → toD st 60 (.loc j) = some (.list (l.map PyData.str)) := fun j hj => by
    show (match st[j]? with | some (.lst ds) => (ds.mapM (toD st 59)).map PyData.list | _ => none) = _
    rw [hj]
    show ((l.map D.str).mapM (toD st (58 + 1))).map PyData.list = _
    rw [mapM_strs st 58 l ho]; rfl
  unfold oNe deq
  rw [e m h, e n k]
  simp [PyData.eqv, eqvAll_strs]
theorem okL_txt : ∀ c : C, okL (txt c) = true := by
  have app : ∀ x y : List Nat, okL (x ++ y) = (okL x && okL y) := fun x y => by simp [okL]
  have hb : ∀ ar c, okL (txt c) = true → okL (br ar c (txt c)) = true := fun ar c h => by
    unfold br; split
    · rw [okL_cons, app, h]; rfl
    · exact h
  intro c
  induction c with
  | wd b => exact wd_okl b
  | ty x => exact nm_okl x
  | sg k p ih => simp only [txt, app, hb _ _ ih]; cases k <;> rfl
  | row2 o p q ih1 ih2 => simp only [txt, app, hb _ _ ih1, hb _ _ ih2]; cases o <;> rfl
  | row3 o p q r ih1 ih2 ih3 => simp only [txt, app, hb _ _ ih1, hb _ _ ih2, hb _ _ ih3]; cases o <;> rfl
theorem nms_le : ∀ c : C, (nms c).length ≤ sz c
  | .wd _ => by simp [nms]
  | .ty _ => by simp [nms, sz]
  | .sg _ p => by have := nms_le p; simp [nms, sz]; omega
  | .row2 _ p q => by have := nms_le p; have := nms_le q; simp [nms, sz]; omega
  | .row3 _ p q r => by have := nms_le p; have := nms_le q; have := nms_le r; simp [nms, sz]; omega
@[simp] theorem oNotB_run (i j : Bool) (st : Stt) : oNotB (.bl i) (.bl j) st = some (.bl (!decide (i = j)), st) := by cases i <;> cases j <;> rfl
section
variable (a : Ads)
/-- the names of the law's dict, sorted -/
theorem names_same (c : C) (l : List Nm) (h : ∀ x, x ∈ l ↔ x ∈ nms c) (ms : List Str) (hn : ms.Nodup) (hm : ∀ x, x ∈ ms ↔ x ∈ nstr (nms c)) : sortS (dedT (nstr l)) = sortS ms := by
  refine sort_eq (ded_nd _ _ (by simp)) hn fun x => ?_
  rw [hm x]
  unfold dedT
  rw [ded_mem]
  simp only [nstr, List.not_mem_nil, false_or, List.mem_map]
  constructor
  · rintro ⟨y, hy, rfl⟩; exact ⟨y, (h y).mp hy, rfl⟩
  · rintro ⟨y, hy, rfl⟩; exact ⟨y, (h y).mpr hy, rfl⟩
theorem nstr_ok (l : List Nm) : ∀ x ∈ nstr l, PyData.strOk x = true := by
  intro x hx
  obtain ⟨y, _, rfl⟩ := List.mem_map.mp hx
  rw [strOk_l]; exact nm_okl y
theorem step_i4 (c : C) (d : dep c ≤ 3) (hcost : cost c ≤ 171) (hszs : szs [c] < 60) (x0 x1 x4 x5 x6 : Option D) (st : Stt) : ∃ J, law_i4 a [x0, x1, some (emb c), some (.str (tx (txt c))), x4, x5, x6] st = .nx [x0, x1, some (emb c), some (.str (tx (txt c))), x4, x5, x6] (st ++ J) := by
  obtain ⟨J3, e3⟩ := isc_true a c (by omega) st
  obtain ⟨J4, e4⟩ := ltext_ok a c 4 (by omega) (by omega) 0 (by omega) (st ++ J3)
  have hb : br 0 c (txt c) = txt c := by
    have : brk 0 c = false := by
      cases c with
      | row2 o p q => cases o <;> rfl
      | row3 o p q r => cases o <;> rfl
      | _ => rfl
    unfold br; rw [this]; rfl
  rw [hb] at e4
  have hk := okL_txt c
  simp only [arl] at e4
  refine ⟨J3 ++ J4, ?_⟩
  simp [law_i4, e3, e4, hk]
theorem step_i3 (c : C) (d : dep c ≤ 3) (hcost : cost c ≤ 171) (x0 x4 x5 x6 : Option D) {ns : List Int} {i r s : Int} {Z : Stt} (hi : 0 ≤ i) (hr : 0 ≤ r) : ∃ i' r' s' Z', law_i3 a [x0, some (.loc 1), some (emb c), some (.str (tx (txt c))), x4, x5, x6] (Tq ns i r s Z) = .nx [x0, some (.loc 1), some (emb c), some (.str (tx (txt c))), x4, x5, x6] (Tq ns i' r' s' Z') := by
  have htx : (txt c).length ≤ 1368 := by have := txt_le c; omega
  have hx : Lex (txt c) (wrd c) := by have := lex_txt c .nil (fun _ h => by cases h); simpa using this
  obtain ⟨J1, e1⟩ := read_ok a (txt c) c hx (by omega) (by omega) (Tq ns i r s Z)
  obtain ⟨i', r', s', v, w, k, b1, b2, b3, b4, b5, b6, e2⟩ := wide_ok a (ns := ns) (s := s) (Z := Z ++ J1) (txt c) (by omega) hi hr
  have hx2 := lex_sps (lex_end (lex_wid hx b3) k) v
  obtain ⟨J2, e3⟩ := read_ok a _ c hx2 (by simp; omega) (by omega) (Tq ns i' r' s' (Z ++ J1))
  have hne := ne_emb c (by omega)
  refine ⟨i', r', s', Z ++ J1 ++ J2, ?_⟩
  rw [tq_app] at e1 e3
  simp [law_i3, e1, e2, e3, hne]
theorem step_i2 (c : C) (hszs : szs [c] < 60) (x0 x1 x3 x5 x6 : Option D) (st : Stt) (n : Nat) (kvs : List (Key × D)) (ms : List Str) (hd : st[n]? = some (.dct kvs)) (hk : kvs.map (·.1) = ms.map Sum.inr) (hn : ms.Nodup) (hm : ∀ x, x ∈ ms ↔ x ∈ nstr (nms c)) (hl : ms.length < 64) : ∃ J, law_i2 a [x0, x1, some (emb c), x3, some (.loc n), x5, x6] st = .nx [x0, x1, some (emb c), x3, some (.loc n), x5, x6] (st ++ J) := by
  obtain ⟨J, m, l, e1, e2, e3⟩ := names_ok a c hszs st
  have hs := names_same c l e3 ms hn hm
  rw [hs] at e2
  have hd' := at_old hd J
  have hkeys : kvs.map (fun kv => kD kv.1) = ms.map D.str := by
    have : kvs.map (fun kv => kD kv.1) = (kvs.map (·.1)).map kD := by rw [List.map_map]; rfl
    rw [this, hk, List.map_map]; rfl
  have htx : txts (ms.map D.str) = some ms := by
    clear hs e2 hkeys hl hm hn hk
    induction ms with
    | nil => rfl
    | cons x ms ih => show (txts (ms.map D.str)).map _ = _; rw [ih]; rfl
  have hso : sortD (ms.map D.str) = some ((sortS ms).map D.str) := by
    unfold sortD
    rw [if_pos (by simpa using hl), htx]
  have hok : ∀ x ∈ sortS ms, PyData.strOk x = true := fun x hx => nstr_ok _ x ((hm x).mp ((List.mergeSort_perm ms leS).mem_iff.mp hx))
  have hne := ne_strs (st := st ++ J ++ [O.lst (ms.map D.str), O.lst ((sortS ms).map D.str)]) (m := m) (n := st.length + (J.length + 1)) (at_old e2 _) (by rw [List.append_assoc, at_add]; simp) hok
  refine ⟨J ++ [O.lst (ms.map D.str), O.lst ((sortS ms).map D.str)], ?_⟩
  simp only [List.append_assoc] at hne
  simp [law_i2, e1, hd', hkeys, hso, hne]
theorem step_f1 (c : C) (x0 x1 x3 x4 x5 x6 : Option D) (st : Stt) : ∃ J y5, law_f1 a [x0, x1, some (emb c), x3, x4, x5, x6] st = .nx [x0, x1, some (emb c), x3, x4, y5, x6] (st ++ J) := by
  obtain ⟨J, n, ds, e1, e2, e3⟩ := bents a c st
  obtain ⟨ρ', st', h, J', y5, hs, hρ⟩ := forF_inv (ok := fun s => items s (.loc n) = some ds) (g := gN 5) (f := law_fb1 a) (its := ds)
    (fun _ ρ s => ∃ K y5, s = st ++ J ++ K ∧ ρ = [x0, x1, some (emb c), x3, x4, y5, x6])
    (fun _ ρ s _ ⟨K, y5, hs, _⟩ => by subst hs; rw [items_at, at_old e2])
    (fun k v ρ s hv ⟨K, y5, hs, hρ⟩ => by
      subst hs hρ
      obtain ⟨J', e⟩ := e3 v (List.mem_of_getElem? hv) K
      refine ⟨_, rfl, [x0, x1, some (emb c), x3, x4, some v, x6], st ++ J ++ (K ++ J'), .inl ?_, K ++ J', some v, rfl, rfl⟩
      simp only [List.append_assoc] at e
      simp [law_fb1, law_i1, e])
    (ρ := [x0, x1, some (emb c), x3, x4, x5, x6]) (st := st ++ J) ⟨[], x5, by simp, rfl⟩
  subst hs hρ
  refine ⟨J ++ J', y5, ?_⟩
  simp only [List.append_assoc] at h
  simp [-items_at, law_f1, e1, e2, h]
theorem law_true (ns : List Int) (hl : ns.length ≤ 63) : ∃ st, m_law a [.cl (ns.map D.int)] [] = .ok (.bl true) st := by
  obtain ⟨c, i1, r1, s1, J1, d1, d2, d3, e1⟩ := content_ok a 3 ns 0 0 5 [] (by omega) (by omega)
  have hcost : cost c ≤ 171 := by have := cost_le c 3 d1; simpa [cb] using this
  have hsz : sz c ≤ 40 := by have := sz_le c 3 d1; simpa [szb] using this
  have hszs : szs [c] < 60 := by simp [szs]; omega
  have e1' : m_law_content a 4 [.loc 1, .loc 2, .int 3] [O.lst (ns.map D.int), O.lst [.loc 0, .int 0, .int 0, .int 5], O.lst [.str (tx [97]), .str (tx [98]), .str (tx [99,49]), .str (tx [108,111,110,103,110,97,109,101])]] = .ok (emb c) (Tq ns i1 r1 s1 ([] ++ J1)) := e1
  obtain ⟨J2, e2⟩ := print_ok a c (by omega) (Tq ns i1 r1 s1 ([] ++ J1))
  rw [tq_app] at e2
  obtain ⟨J3, e3⟩ := step_i4 a c d1 hcost hszs (some (.cl (ns.map D.int))) (some (.loc 1)) none none none (Tq ns i1 r1 s1 ([] ++ J1 ++ J2))
  rw [tq_app] at e3
  obtain ⟨i4, r4, s4, Z4, e4⟩ := step_i3 a c d1 hcost (some (.cl (ns.map D.int))) none none none (ns := ns) (s := s1) (Z := [] ++ J1 ++ J2 ++ J3) d2 d3
  generalize Tq ns i1 r1 s1 ([] ++ J1) = S1 at *
  generalize Tq ns i1 r1 s1 ([] ++ J1 ++ J2) = S2 at *
  generalize Tq ns i1 r1 s1 ([] ++ J1 ++ J2 ++ J3) = S3 at *
  generalize Tq ns i4 r4 s4 Z4 = S4 at *
  obtain ⟨J5, m5, e5, f5⟩ := lnames_ok a c 4 (by omega) (by have := nms_le c; omega) S4
  have hln : (nstr (nms c)).length ≤ 40 := by have := nms_le c; simp [nstr]; omega
  have e6 := pairs_run (nstr (nms c)) (by omega) (S4 ++ J5) m5 f5 (some (.cl (ns.map D.int))) (some (.loc 1)) (some (emb c)) (some (.str (tx (txt c)))) none none
  obtain ⟨ms, g1, g2, g3, g4⟩ := merge_keys (.bl true) (nstr (nms c)) [] [] rfl (by simp)
  have hp := pairs_l (.bl true) (nstr (nms c))
  obtain ⟨kvs, hkv⟩ : ∃ kvs, kvs = mergeD ((nstr (nms c)).map fun x => ((Sum.inr x : Key), D.bl true)) := ⟨_, rfl⟩
  have g1 : kvs.map (·.1) = ms.map Sum.inr := by rw [hkv]; exact g1
  obtain ⟨S6, hS6⟩ : ∃ S6, S6 = S4 ++ J5 ++ [O.lst ((nstr (nms c)).map fun x => .tup [.str x, .bl true])] ++ [O.dct kvs] := ⟨_, rfl⟩
  have hd : S6[(S4 ++ J5).length + 1]? = some (.dct kvs) := by rw [hS6, List.append_assoc, at_add]; rfl
  obtain ⟨J7, e7⟩ := step_i2 a c hszs (some (.cl (ns.map D.int))) (some (.loc 1)) (some (.str (tx (txt c)))) none none S6 _ kvs ms hd g1 g2 (fun x => by rw [g3 x]; simp) (by simp at g4; omega)
  obtain ⟨J8, y5, e8⟩ := step_f1 a c (some (.cl (ns.map D.int))) (some (.loc 1)) (some (.str (tx (txt c)))) (some (.loc ((S4 ++ J5).length + 1))) none none (S6 ++ J7)
  obtain ⟨J9, e9⟩ := isc_char a (S6 ++ J7 ++ J8)
  obtain ⟨J10, e10⟩ := isc_chars a (S6 ++ J7 ++ J8 ++ J9)
  obtain ⟨J11, e11⟩ := isc_Ab a (S6 ++ J7 ++ J8 ++ J9 ++ J10)
  have h4 : sSet 4 (xCall fDict (xCons (xLc (xIt (xFn (m_law_names a 4) (xCons (xV 2) (xNil)))) (gN 6) (xYes) (xTup (xCons (xV 6) (xCons (xC (.bl true)) (xNil)))) [6]) (xNil))) [some (.cl (ns.map D.int)), some (.loc 1), some (emb c), some (.str (tx (txt c))), none, none, none] S4 = .nx [some (.cl (ns.map D.int)), some (.loc 1), some (emb c), some (.str (tx (txt c))), some (.loc ((S4 ++ J5).length + 1)), none, none] S6 := by
    simp only [List.length_append, List.append_assoc] at e6
    simp [-items_at, e5, f5, e6, hp, hS6, ← hkv, Nat.add_assoc]
  simp only [List.length_append] at h4 e7 e8
  refine ⟨S6 ++ J7 ++ J8 ++ J9 ++ J10 ++ J11, ?_⟩
  simp only [List.append_assoc] at e8 e9 e10 e11
  simp [-sSet_run, sSet_run 1, sSet_run 2, sSet_run 3, m_law, f_law, e1', e2, e3, e4, h4, e7, e8, e9, e10, e11]
end
end Law

set_option Elab.async false
set_option linter.all false
set_option maxRecDepth 100000
namespace Law
open PySem PySem.Spec PyProof.Rows L2 Rg
theorem all_mk {l : PySem.W.OpenLaw} {w : World} {K : PySem.W.Frag} {h : Heap} {mg : Str → Option Value} {fa : Addr} (X : K.In h) (G : h.Ns mainGlobals mg) (hfa : mg "law" = some (.ref fa))
    {p_is_name : Addr} {od_is_name an_is_name : Option Addr} {sl_is_name : Array (Option Value)} {oc_is_name kV_is_name dc_is_name pm_is_name cd_is_name ct_is_name : Value}
    {p_is_type_name : Addr} {od_is_type_name an_is_type_name : Option Addr} {sl_is_type_name : Array (Option Value)} {oc_is_type_name kV_is_type_name dc_is_type_name pm_is_type_name cd_is_type_name ct_is_type_name : Value}
    {p_parts_within : Addr} {od_parts_within an_parts_within : Option Addr} {sl_parts_within : Array (Option Value)} {oc_parts_within kV_parts_within dc_parts_within pm_parts_within cd_parts_within ct_parts_within : Value}
    {p_is_content : Addr} {od_is_content an_is_content : Option Addr} {sl_is_content : Array (Option Value)} {oc_is_content kV_is_content dc_is_content pm_is_content cd_is_content ct_is_content : Value}
    {p_nodes_of : Addr} {od_nodes_of an_nodes_of : Option Addr} {sl_nodes_of : Array (Option Value)} {oc_nodes_of kV_nodes_of dc_nodes_of pm_nodes_of cd_nodes_of ct_nodes_of : Value}
    {p_names_in : Addr} {od_names_in an_names_in : Option Addr} {sl_names_in : Array (Option Value)} {oc_names_in kV_names_in dc_names_in pm_names_in cd_names_in ct_names_in : Value}
    {p_bracketed : Addr} {od_bracketed an_bracketed : Option Addr} {sl_bracketed : Array (Option Value)} {oc_bracketed kV_bracketed dc_bracketed pm_bracketed cd_bracketed ct_bracketed : Value}
    {p_printed_parts : Addr} {od_printed_parts an_printed_parts : Option Addr} {sl_printed_parts : Array (Option Value)} {oc_printed_parts kV_printed_parts dc_printed_parts pm_printed_parts cd_printed_parts ct_printed_parts : Value}
    {p_print_content : Addr} {od_print_content an_print_content : Option Addr} {sl_print_content : Array (Option Value)} {oc_print_content kV_print_content dc_print_content pm_print_content cd_print_content ct_print_content : Value}
    {p_words_of : Addr} {od_words_of an_words_of : Option Addr} {sl_words_of : Array (Option Value)} {oc_words_of kV_words_of dc_words_of pm_words_of cd_words_of ct_words_of : Value}
    {p_joined : Addr} {od_joined an_joined : Option Addr} {sl_joined : Array (Option Value)} {oc_joined kV_joined dc_joined pm_joined cd_joined ct_joined : Value}
    {p_Level_content : Addr} {od_Level_content an_Level_content : Option Addr} {sl_Level_content : Array (Option Value)} {oc_Level_content kV_Level_content dc_Level_content pm_Level_content cd_Level_content ct_Level_content : Value}
    {p_Level_init : Addr} {od_Level_init an_Level_init : Option Addr} {sl_Level_init : Array (Option Value)} {oc_Level_init kV_Level_init dc_Level_init pm_Level_init cd_Level_init ct_Level_init : Value}
    {p_single_content : Addr} {od_single_content an_single_content : Option Addr} {sl_single_content : Array (Option Value)} {oc_single_content kV_single_content dc_single_content pm_single_content cd_single_content ct_single_content : Value}
    {p_Level_end_row : Addr} {od_Level_end_row an_Level_end_row : Option Addr} {sl_Level_end_row : Array (Option Value)} {oc_Level_end_row kV_Level_end_row dc_Level_end_row pm_Level_end_row cd_Level_end_row ct_Level_end_row : Value}
    {p_content_of_words : Addr} {od_content_of_words an_content_of_words : Option Addr} {sl_content_of_words : Array (Option Value)} {oc_content_of_words kV_content_of_words dc_content_of_words pm_content_of_words cd_content_of_words ct_content_of_words : Value}
    {p_read_content : Addr} {od_read_content an_read_content : Option Addr} {sl_read_content : Array (Option Value)} {oc_read_content kV_read_content dc_read_content pm_read_content cd_read_content ct_read_content : Value}
    {p_law_next : Addr} {od_law_next an_law_next : Option Addr} {sl_law_next : Array (Option Value)} {oc_law_next kV_law_next dc_law_next pm_law_next cd_law_next ct_law_next : Value}
    {p_law_content : Addr} {od_law_content an_law_content : Option Addr} {sl_law_content : Array (Option Value)} {oc_law_content kV_law_content dc_law_content pm_law_content cd_law_content ct_law_content : Value}
    {p_law_text : Addr} {od_law_text an_law_text : Option Addr} {sl_law_text : Array (Option Value)} {oc_law_text kV_law_text dc_law_text pm_law_text cd_law_text ct_law_text : Value}
    {p_law_wide : Addr} {od_law_wide an_law_wide : Option Addr} {sl_law_wide : Array (Option Value)} {oc_law_wide kV_law_wide dc_law_wide pm_law_wide cd_law_wide ct_law_wide : Value}
    {p_law_names : Addr} {od_law_names an_law_names : Option Addr} {sl_law_names : Array (Option Value)} {oc_law_names kV_law_names dc_law_names pm_law_names cd_law_names ct_law_names : Value}
    {p_law_bent : Addr} {od_law_bent an_law_bent : Option Addr} {sl_law_bent : Array (Option Value)} {oc_law_bent kV_law_bent dc_law_bent pm_law_bent cd_law_bent ct_law_bent : Value}
    {p_law : Addr} {od_law an_law : Option Addr} {sl_law : Array (Option Value)} {oc_law kV_law dc_law pm_law cd_law ct_law : Value}
    {tk_1 : Tok}
    {tk_2 : Tok}
    {tk_3 : Tok}
    {tk_4 : Tok}
    {tk_5 : Tok}
    {ta_6 : Addr} {td_6 : Option Addr} {tn_6 : Nat} {ts_6 : Array (Option Value)}
    {tk_7 : Tok}
    {tk_8 : Tok}
    {ta_9 : Addr} {tn_9 : Nat}
    {hs_9_0 : Int} {tk_9_0 : Tok}
    {hs_9_1 : Int} {tk_9_1 : Tok}
    {tk_10 : Tok}
    {tk_11 : Tok}
    {tk_12 : Tok}
    {ta_13 : Addr} {tn_13 : Nat}
    {hs_13_0 : Int} {tk_13_0 : Tok}
    {hs_13_1 : Int} {tk_13_1 : Tok}
    {hs_13_2 : Int} {tk_13_2 : Tok}
    {tk_14 : Tok}
    {tk_15 : Tok}
    {tk_16 : Tok}
    {ta_17 : Addr} {tn_17 : Nat}
    {hs_17_0 : Int} {tk_17_0 : Tok}
    {hs_17_1 : Int} {tk_17_1 : Tok}
    {hs_17_2 : Int} {tk_17_2 : Tok}
    {C_Level : Addr}
    (a_is_name : PySem.W.nsIn K mainGlobals "is_name" = some (some (.ref p_is_name)))
    (a_is_type_name : PySem.W.nsIn K mainGlobals "is_type_name" = some (some (.ref p_is_type_name)))
    (a_parts_within : PySem.W.nsIn K mainGlobals "parts_within" = some (some (.ref p_parts_within)))
    (a_is_content : PySem.W.nsIn K mainGlobals "is_content" = some (some (.ref p_is_content)))
    (a_nodes_of : PySem.W.nsIn K mainGlobals "nodes_of" = some (some (.ref p_nodes_of)))
    (a_names_in : PySem.W.nsIn K mainGlobals "names_in" = some (some (.ref p_names_in)))
    (a_bracketed : PySem.W.nsIn K mainGlobals "bracketed" = some (some (.ref p_bracketed)))
    (a_printed_parts : PySem.W.nsIn K mainGlobals "printed_parts" = some (some (.ref p_printed_parts)))
    (a_print_content : PySem.W.nsIn K mainGlobals "print_content" = some (some (.ref p_print_content)))
    (a_words_of : PySem.W.nsIn K mainGlobals "words_of" = some (some (.ref p_words_of)))
    (a_joined : PySem.W.nsIn K mainGlobals "joined" = some (some (.ref p_joined)))
    (a_single_content : PySem.W.nsIn K mainGlobals "single_content" = some (some (.ref p_single_content)))
    (a_content_of_words : PySem.W.nsIn K mainGlobals "content_of_words" = some (some (.ref p_content_of_words)))
    (a_read_content : PySem.W.nsIn K mainGlobals "read_content" = some (some (.ref p_read_content)))
    (a_law_next : PySem.W.nsIn K mainGlobals "_law_next" = some (some (.ref p_law_next)))
    (a_law_content : PySem.W.nsIn K mainGlobals "_law_content" = some (some (.ref p_law_content)))
    (a_law_text : PySem.W.nsIn K mainGlobals "_law_text" = some (some (.ref p_law_text)))
    (a_law_wide : PySem.W.nsIn K mainGlobals "_law_wide" = some (some (.ref p_law_wide)))
    (a_law_names : PySem.W.nsIn K mainGlobals "_law_names" = some (some (.ref p_law_names)))
    (a_law_bent : PySem.W.nsIn K mainGlobals "_law_bent" = some (some (.ref p_law_bent)))
    (a_law : PySem.W.nsIn K mainGlobals "law" = some (some (.ref p_law)))
    (g_MOST_NAME : PySem.W.nsIn K mainGlobals "MOST_NAME" = some (some (.int 8 tk_1)))
    (g_LETTERS : PySem.W.nsIn K mainGlobals "LETTERS" = some (some (.str "abcdefghijklmnopqrstuvwxyz" tk_2)))
    (g_NAME_SIGNS : PySem.W.nsIn K mainGlobals "NAME_SIGNS" = some (some (.str "abcdefghijklmnopqrstuvwxyz0123456789" tk_3)))
    (g_WORDS : PySem.W.nsIn K mainGlobals "WORDS" = some (some (.ref ta_6)))
    (g_SEPARATORS : PySem.W.nsIn K mainGlobals "SEPARATORS" = some (some (.ref ta_9)))
    (g_KINDS_BEHIND : PySem.W.nsIn K mainGlobals "KINDS_BEHIND" = some (some (.ref ta_13)))
    (g_SIGNS_BEHIND : PySem.W.nsIn K mainGlobals "SIGNS_BEHIND" = some (some (.ref ta_17)))
    (gc_Level : PySem.W.nsIn K mainGlobals "Level" = some (some (.ref C_Level)))
    (fi_Level_init : PySem.W.findIn K (.ref C_Level) "__init__" = some (some (.ref p_Level_init)))
    (fi_Level_end_row : PySem.W.findIn K (.ref C_Level) "end_row" = some (some (.ref p_Level_end_row)))
    (fi_Level_content : PySem.W.findIn K (.ref C_Level) "content" = some (some (.ref p_Level_content)))
    (l_is_name : K.lookup p_is_name = some ⟨oc_is_name, od_is_name, .func (PySem.W.fnOf "is_name" "is_name" (defArgs s_is_name) (defBody s_is_name) (defScope s_is_name) .none kV_is_name dc_is_name pm_is_name an_is_name cd_is_name ct_is_name), sl_is_name⟩)
    (c_is_name : PySem.W.codeIn K cd_is_name "is_name" = true)
    (k_is_name : PySem.W.keepIn K (.ref p_is_name) = true)
    (l_is_type_name : K.lookup p_is_type_name = some ⟨oc_is_type_name, od_is_type_name, .func (PySem.W.fnOf "is_type_name" "is_type_name" (defArgs s_is_type_name) (defBody s_is_type_name) (defScope s_is_type_name) .none kV_is_type_name dc_is_type_name pm_is_type_name an_is_type_name cd_is_type_name ct_is_type_name), sl_is_type_name⟩)
    (c_is_type_name : PySem.W.codeIn K cd_is_type_name "is_type_name" = true)
    (k_is_type_name : PySem.W.keepIn K (.ref p_is_type_name) = true)
    (l_parts_within : K.lookup p_parts_within = some ⟨oc_parts_within, od_parts_within, .func (PySem.W.fnOf "parts_within" "parts_within" (defArgs s_parts_within) (defBody s_parts_within) (defScope s_parts_within) .none kV_parts_within dc_parts_within pm_parts_within an_parts_within cd_parts_within ct_parts_within), sl_parts_within⟩)
    (c_parts_within : PySem.W.codeIn K cd_parts_within "parts_within" = true)
    (k_parts_within : PySem.W.keepIn K (.ref p_parts_within) = true)
    (l_is_content : K.lookup p_is_content = some ⟨oc_is_content, od_is_content, .func (PySem.W.fnOf "is_content" "is_content" (defArgs s_is_content) (defBody s_is_content) (defScope s_is_content) .none kV_is_content dc_is_content pm_is_content an_is_content cd_is_content ct_is_content), sl_is_content⟩)
    (c_is_content : PySem.W.codeIn K cd_is_content "is_content" = true)
    (k_is_content : PySem.W.keepIn K (.ref p_is_content) = true)
    (l_nodes_of : K.lookup p_nodes_of = some ⟨oc_nodes_of, od_nodes_of, .func (PySem.W.fnOf "nodes_of" "nodes_of" (defArgs s_nodes_of) (defBody s_nodes_of) (defScope s_nodes_of) .none kV_nodes_of dc_nodes_of pm_nodes_of an_nodes_of cd_nodes_of ct_nodes_of), sl_nodes_of⟩)
    (c_nodes_of : PySem.W.codeIn K cd_nodes_of "nodes_of" = true)
    (k_nodes_of : PySem.W.keepIn K (.ref p_nodes_of) = true)
    (l_names_in : K.lookup p_names_in = some ⟨oc_names_in, od_names_in, .func (PySem.W.fnOf "names_in" "names_in" (defArgs s_names_in) (defBody s_names_in) (defScope s_names_in) .none kV_names_in dc_names_in pm_names_in an_names_in cd_names_in ct_names_in), sl_names_in⟩)
    (c_names_in : PySem.W.codeIn K cd_names_in "names_in" = true)
    (k_names_in : PySem.W.keepIn K (.ref p_names_in) = true)
    (l_bracketed : K.lookup p_bracketed = some ⟨oc_bracketed, od_bracketed, .func (PySem.W.fnOf "bracketed" "bracketed" (defArgs s_bracketed) (defBody s_bracketed) (defScope s_bracketed) .none kV_bracketed dc_bracketed pm_bracketed an_bracketed cd_bracketed ct_bracketed), sl_bracketed⟩)
    (c_bracketed : PySem.W.codeIn K cd_bracketed "bracketed" = true)
    (k_bracketed : PySem.W.keepIn K (.ref p_bracketed) = true)
    (l_printed_parts : K.lookup p_printed_parts = some ⟨oc_printed_parts, od_printed_parts, .func (PySem.W.fnOf "printed_parts" "printed_parts" (defArgs s_printed_parts) (defBody s_printed_parts) (defScope s_printed_parts) .none kV_printed_parts dc_printed_parts pm_printed_parts an_printed_parts cd_printed_parts ct_printed_parts), sl_printed_parts⟩)
    (c_printed_parts : PySem.W.codeIn K cd_printed_parts "printed_parts" = true)
    (k_printed_parts : PySem.W.keepIn K (.ref p_printed_parts) = true)
    (l_print_content : K.lookup p_print_content = some ⟨oc_print_content, od_print_content, .func (PySem.W.fnOf "print_content" "print_content" (defArgs s_print_content) (defBody s_print_content) (defScope s_print_content) .none kV_print_content dc_print_content pm_print_content an_print_content cd_print_content ct_print_content), sl_print_content⟩)
    (c_print_content : PySem.W.codeIn K cd_print_content "print_content" = true)
    (k_print_content : PySem.W.keepIn K (.ref p_print_content) = true)
    (l_words_of : K.lookup p_words_of = some ⟨oc_words_of, od_words_of, .func (PySem.W.fnOf "words_of" "words_of" (defArgs s_words_of) (defBody s_words_of) (defScope s_words_of) .none kV_words_of dc_words_of pm_words_of an_words_of cd_words_of ct_words_of), sl_words_of⟩)
    (c_words_of : PySem.W.codeIn K cd_words_of "words_of" = true)
    (k_words_of : PySem.W.keepIn K (.ref p_words_of) = true)
    (l_joined : K.lookup p_joined = some ⟨oc_joined, od_joined, .func (PySem.W.fnOf "joined" "joined" (defArgs s_joined) (defBody s_joined) (defScope s_joined) .none kV_joined dc_joined pm_joined an_joined cd_joined ct_joined), sl_joined⟩)
    (c_joined : PySem.W.codeIn K cd_joined "joined" = true)
    (k_joined : PySem.W.keepIn K (.ref p_joined) = true)
    (l_Level_content : K.lookup p_Level_content = some ⟨oc_Level_content, od_Level_content, .func (PySem.W.fnOf "content" "Level.content" (defArgs s_Level_content) (defBody s_Level_content) (defScope s_Level_content) .none kV_Level_content dc_Level_content pm_Level_content an_Level_content cd_Level_content ct_Level_content), sl_Level_content⟩)
    (c_Level_content : PySem.W.codeIn K cd_Level_content "Level.content" = true)
    (k_Level_content : PySem.W.keepIn K (.ref p_Level_content) = true)
    (l_Level_init : K.lookup p_Level_init = some ⟨oc_Level_init, od_Level_init, .func (PySem.W.fnOf "__init__" "Level.__init__" (defArgs s_Level_init) (defBody s_Level_init) (defScope s_Level_init) .none kV_Level_init dc_Level_init pm_Level_init an_Level_init cd_Level_init ct_Level_init), sl_Level_init⟩)
    (c_Level_init : PySem.W.codeIn K cd_Level_init "Level.__init__" = true)
    (k_Level_init : PySem.W.keepIn K (.ref p_Level_init) = true)
    (l_single_content : K.lookup p_single_content = some ⟨oc_single_content, od_single_content, .func (PySem.W.fnOf "single_content" "single_content" (defArgs s_single_content) (defBody s_single_content) (defScope s_single_content) .none kV_single_content dc_single_content pm_single_content an_single_content cd_single_content ct_single_content), sl_single_content⟩)
    (c_single_content : PySem.W.codeIn K cd_single_content "single_content" = true)
    (k_single_content : PySem.W.keepIn K (.ref p_single_content) = true)
    (l_Level_end_row : K.lookup p_Level_end_row = some ⟨oc_Level_end_row, od_Level_end_row, .func (PySem.W.fnOf "end_row" "Level.end_row" (defArgs s_Level_end_row) (defBody s_Level_end_row) (defScope s_Level_end_row) .none kV_Level_end_row dc_Level_end_row pm_Level_end_row an_Level_end_row cd_Level_end_row ct_Level_end_row), sl_Level_end_row⟩)
    (c_Level_end_row : PySem.W.codeIn K cd_Level_end_row "Level.end_row" = true)
    (k_Level_end_row : PySem.W.keepIn K (.ref p_Level_end_row) = true)
    (l_content_of_words : K.lookup p_content_of_words = some ⟨oc_content_of_words, od_content_of_words, .func (PySem.W.fnOf "content_of_words" "content_of_words" (defArgs s_content_of_words) (defBody s_content_of_words) (defScope s_content_of_words) .none kV_content_of_words dc_content_of_words pm_content_of_words an_content_of_words cd_content_of_words ct_content_of_words), sl_content_of_words⟩)
    (c_content_of_words : PySem.W.codeIn K cd_content_of_words "content_of_words" = true)
    (k_content_of_words : PySem.W.keepIn K (.ref p_content_of_words) = true)
    (l_read_content : K.lookup p_read_content = some ⟨oc_read_content, od_read_content, .func (PySem.W.fnOf "read_content" "read_content" (defArgs s_read_content) (defBody s_read_content) (defScope s_read_content) .none kV_read_content dc_read_content pm_read_content an_read_content cd_read_content ct_read_content), sl_read_content⟩)
    (c_read_content : PySem.W.codeIn K cd_read_content "read_content" = true)
    (k_read_content : PySem.W.keepIn K (.ref p_read_content) = true)
    (l_law_next : K.lookup p_law_next = some ⟨oc_law_next, od_law_next, .func (PySem.W.fnOf "_law_next" "_law_next" (defArgs s_law_next) (defBody s_law_next) (defScope s_law_next) .none kV_law_next dc_law_next pm_law_next an_law_next cd_law_next ct_law_next), sl_law_next⟩)
    (c_law_next : PySem.W.codeIn K cd_law_next "_law_next" = true)
    (k_law_next : PySem.W.keepIn K (.ref p_law_next) = true)
    (l_law_content : K.lookup p_law_content = some ⟨oc_law_content, od_law_content, .func (PySem.W.fnOf "_law_content" "_law_content" (defArgs s_law_content) (defBody s_law_content) (defScope s_law_content) .none kV_law_content dc_law_content pm_law_content an_law_content cd_law_content ct_law_content), sl_law_content⟩)
    (c_law_content : PySem.W.codeIn K cd_law_content "_law_content" = true)
    (k_law_content : PySem.W.keepIn K (.ref p_law_content) = true)
    (l_law_text : K.lookup p_law_text = some ⟨oc_law_text, od_law_text, .func (PySem.W.fnOf "_law_text" "_law_text" (defArgs s_law_text) (defBody s_law_text) (defScope s_law_text) .none kV_law_text dc_law_text pm_law_text an_law_text cd_law_text ct_law_text), sl_law_text⟩)
    (c_law_text : PySem.W.codeIn K cd_law_text "_law_text" = true)
    (k_law_text : PySem.W.keepIn K (.ref p_law_text) = true)
    (l_law_wide : K.lookup p_law_wide = some ⟨oc_law_wide, od_law_wide, .func (PySem.W.fnOf "_law_wide" "_law_wide" (defArgs s_law_wide) (defBody s_law_wide) (defScope s_law_wide) .none kV_law_wide dc_law_wide pm_law_wide an_law_wide cd_law_wide ct_law_wide), sl_law_wide⟩)
    (c_law_wide : PySem.W.codeIn K cd_law_wide "_law_wide" = true)
    (k_law_wide : PySem.W.keepIn K (.ref p_law_wide) = true)
    (l_law_names : K.lookup p_law_names = some ⟨oc_law_names, od_law_names, .func (PySem.W.fnOf "_law_names" "_law_names" (defArgs s_law_names) (defBody s_law_names) (defScope s_law_names) .none kV_law_names dc_law_names pm_law_names an_law_names cd_law_names ct_law_names), sl_law_names⟩)
    (c_law_names : PySem.W.codeIn K cd_law_names "_law_names" = true)
    (k_law_names : PySem.W.keepIn K (.ref p_law_names) = true)
    (l_law_bent : K.lookup p_law_bent = some ⟨oc_law_bent, od_law_bent, .func (PySem.W.fnOf "_law_bent" "_law_bent" (defArgs s_law_bent) (defBody s_law_bent) (defScope s_law_bent) .none kV_law_bent dc_law_bent pm_law_bent an_law_bent cd_law_bent ct_law_bent), sl_law_bent⟩)
    (c_law_bent : PySem.W.codeIn K cd_law_bent "_law_bent" = true)
    (k_law_bent : PySem.W.keepIn K (.ref p_law_bent) = true)
    (l_law : K.lookup p_law = some ⟨oc_law, od_law, .func (PySem.W.fnOf "law" "law" (defArgs s_law) (defBody s_law) (defScope s_law) .none kV_law dc_law pm_law an_law cd_law ct_law), sl_law⟩)
    (c_law : PySem.W.codeIn K cd_law "law" = true)
    (k_law : PySem.W.keepIn K (.ref p_law) = true)
    (z_abs : PySem.W.nsIn K mainGlobals "abs" = some none)
    (z_all : PySem.W.nsIn K mainGlobals "all" = some none)
    (z_dict : PySem.W.nsIn K mainGlobals "dict" = some none)
    (z_int : PySem.W.nsIn K mainGlobals "int" = some none)
    (z_isinstance : PySem.W.nsIn K mainGlobals "isinstance" = some none)
    (z_len : PySem.W.nsIn K mainGlobals "len" = some none)
    (z_list : PySem.W.nsIn K mainGlobals "list" = some none)
    (z_range : PySem.W.nsIn K mainGlobals "range" = some none)
    (z_set : PySem.W.nsIn K mainGlobals "set" = some none)
    (z_sorted : PySem.W.nsIn K mainGlobals "sorted" = some none)
    (z_str : PySem.W.nsIn K mainGlobals "str" = some none)
    (z_tuple : PySem.W.nsIn K mainGlobals "tuple" = some none)
    (pg_Level : PySem.W.plainGet K C_Level Str.empty = true)
    (hd_Level : PySem.W.hasDictIn K C_Level = true)
    (po_Level : PySem.W.plainOver K C_Level = true)
    (sa_Level : PySem.W.findIn K (.ref C_Level) "__setattr__" = some (some (.builtin "object.__setattr__")))
    (fn_Level_init : PySem.W.isFn K (.ref p_Level_init) = true)
    (mm_Level : PySem.W.makesIn K C_Level = true)
    (kk_Level : PySem.W.keepIn K (.ref C_Level) = true)
    (fn_Level_end_row : PySem.W.isFn K (.ref p_Level_end_row) = true)
    (fn_Level_content : PySem.W.isFn K (.ref p_Level_content) = true)
    (n_Level_choices : PySem.W.findIn K (.ref C_Level) "choices" = some none)
    (n_Level_row : PySem.W.findIn K (.ref C_Level) "row" = some none)
    (tl_17 : K.lookup ta_17 = some ⟨.type "dict", none, .dict #[⟨hs_17_0, .str "star" tk_17_0, (.str "*" tk_14)⟩, ⟨hs_17_1, .str "plus" tk_17_1, (.str "+" tk_15)⟩, ⟨hs_17_2, .str "maybe" tk_17_2, (.str "?" tk_16)⟩] tn_17, #[]⟩)
    (tl_13 : K.lookup ta_13 = some ⟨.type "dict", none, .dict #[⟨hs_13_0, .str "*" tk_13_0, (.str "star" tk_10)⟩, ⟨hs_13_1, .str "+" tk_13_1, (.str "plus" tk_11)⟩, ⟨hs_13_2, .str "?" tk_13_2, (.str "maybe" tk_12)⟩] tn_13, #[]⟩)
    (tl_9 : K.lookup ta_9 = some ⟨.type "dict", none, .dict #[⟨hs_9_0, .str "seq" tk_9_0, (.str ", " tk_7)⟩, ⟨hs_9_1, .str "or" tk_9_1, (.str " | " tk_8)⟩] tn_9, #[]⟩)
    (tl_6 : K.lookup ta_6 = some ⟨.type "tuple", td_6, .seq #[(.str "empty" tk_4), (.str "chars" tk_5)] tn_6, ts_6⟩)
    (lo_9 : (ta_9 == sysModules) = false)
    (hh_9_0 : hs_9_0 = PyData.keyHash w.params "seq")
    (hh_9_1 : hs_9_1 = PyData.keyHash w.params "or")
    (lo_13 : (ta_13 == sysModules) = false)
    (hh_13_0 : hs_13_0 = PyData.keyHash w.params "*")
    (hh_13_1 : hs_13_1 = PyData.keyHash w.params "+")
    (hh_13_2 : hs_13_2 = PyData.keyHash w.params "?")
    (lo_17 : (ta_17 == sysModules) = false)
    (hh_17_0 : hs_17_0 = PyData.keyHash w.params "star")
    (hh_17_1 : hs_17_1 = PyData.keyHash w.params "plus")
    (hh_17_2 : hs_17_2 = PyData.keyHash w.params "maybe")
    : ∃ fd : FuncData, (∀ (s : Shared) (v : Value), BindsTo s fd ⟨[v], []⟩ [("script", v)]) ∧ ∀ base : Heap, K.In base → base.Ns mainGlobals mg → FnOk l.prog w K mg base (L2.CX l.prog w) 7 fa fd ["script"] (spLaw K) := by
  have e := hfa.symm.trans (PySem.W.mg_of X G a_law)
  have e2 : p_law = fa := by cases e; rfl
  subst e2
  have T : Txt K w mg { a_is_name := p_is_name, d_is_name := (PySem.W.fnOf "is_name" "is_name" (defArgs s_is_name) (defBody s_is_name) (defScope s_is_name) .none kV_is_name dc_is_name pm_is_name an_is_name cd_is_name ct_is_name), a_is_type_name := p_is_type_name, d_is_type_name := (PySem.W.fnOf "is_type_name" "is_type_name" (defArgs s_is_type_name) (defBody s_is_type_name) (defScope s_is_type_name) .none kV_is_type_name dc_is_type_name pm_is_type_name an_is_type_name cd_is_type_name ct_is_type_name), a_parts_within := p_parts_within, d_parts_within := (PySem.W.fnOf "parts_within" "parts_within" (defArgs s_parts_within) (defBody s_parts_within) (defScope s_parts_within) .none kV_parts_within dc_parts_within pm_parts_within an_parts_within cd_parts_within ct_parts_within), a_is_content := p_is_content, d_is_content := (PySem.W.fnOf "is_content" "is_content" (defArgs s_is_content) (defBody s_is_content) (defScope s_is_content) .none kV_is_content dc_is_content pm_is_content an_is_content cd_is_content ct_is_content), a_nodes_of := p_nodes_of, d_nodes_of := (PySem.W.fnOf "nodes_of" "nodes_of" (defArgs s_nodes_of) (defBody s_nodes_of) (defScope s_nodes_of) .none kV_nodes_of dc_nodes_of pm_nodes_of an_nodes_of cd_nodes_of ct_nodes_of), a_names_in := p_names_in, d_names_in := (PySem.W.fnOf "names_in" "names_in" (defArgs s_names_in) (defBody s_names_in) (defScope s_names_in) .none kV_names_in dc_names_in pm_names_in an_names_in cd_names_in ct_names_in), a_bracketed := p_bracketed, d_bracketed := (PySem.W.fnOf "bracketed" "bracketed" (defArgs s_bracketed) (defBody s_bracketed) (defScope s_bracketed) .none kV_bracketed dc_bracketed pm_bracketed an_bracketed cd_bracketed ct_bracketed), a_printed_parts := p_printed_parts, d_printed_parts := (PySem.W.fnOf "printed_parts" "printed_parts" (defArgs s_printed_parts) (defBody s_printed_parts) (defScope s_printed_parts) .none kV_printed_parts dc_printed_parts pm_printed_parts an_printed_parts cd_printed_parts ct_printed_parts), a_print_content := p_print_content, d_print_content := (PySem.W.fnOf "print_content" "print_content" (defArgs s_print_content) (defBody s_print_content) (defScope s_print_content) .none kV_print_content dc_print_content pm_print_content an_print_content cd_print_content ct_print_content), a_words_of := p_words_of, d_words_of := (PySem.W.fnOf "words_of" "words_of" (defArgs s_words_of) (defBody s_words_of) (defScope s_words_of) .none kV_words_of dc_words_of pm_words_of an_words_of cd_words_of ct_words_of), a_joined := p_joined, d_joined := (PySem.W.fnOf "joined" "joined" (defArgs s_joined) (defBody s_joined) (defScope s_joined) .none kV_joined dc_joined pm_joined an_joined cd_joined ct_joined), a_Level_content := p_Level_content, d_Level_content := (PySem.W.fnOf "content" "Level.content" (defArgs s_Level_content) (defBody s_Level_content) (defScope s_Level_content) .none kV_Level_content dc_Level_content pm_Level_content an_Level_content cd_Level_content ct_Level_content), a_Level_init := p_Level_init, d_Level_init := (PySem.W.fnOf "__init__" "Level.__init__" (defArgs s_Level_init) (defBody s_Level_init) (defScope s_Level_init) .none kV_Level_init dc_Level_init pm_Level_init an_Level_init cd_Level_init ct_Level_init), a_single_content := p_single_content, d_single_content := (PySem.W.fnOf "single_content" "single_content" (defArgs s_single_content) (defBody s_single_content) (defScope s_single_content) .none kV_single_content dc_single_content pm_single_content an_single_content cd_single_content ct_single_content), a_Level_end_row := p_Level_end_row, d_Level_end_row := (PySem.W.fnOf "end_row" "Level.end_row" (defArgs s_Level_end_row) (defBody s_Level_end_row) (defScope s_Level_end_row) .none kV_Level_end_row dc_Level_end_row pm_Level_end_row an_Level_end_row cd_Level_end_row ct_Level_end_row), a_content_of_words := p_content_of_words, d_content_of_words := (PySem.W.fnOf "content_of_words" "content_of_words" (defArgs s_content_of_words) (defBody s_content_of_words) (defScope s_content_of_words) .none kV_content_of_words dc_content_of_words pm_content_of_words an_content_of_words cd_content_of_words ct_content_of_words), a_read_content := p_read_content, d_read_content := (PySem.W.fnOf "read_content" "read_content" (defArgs s_read_content) (defBody s_read_content) (defScope s_read_content) .none kV_read_content dc_read_content pm_read_content an_read_content cd_read_content ct_read_content), a_law_next := p_law_next, d_law_next := (PySem.W.fnOf "_law_next" "_law_next" (defArgs s_law_next) (defBody s_law_next) (defScope s_law_next) .none kV_law_next dc_law_next pm_law_next an_law_next cd_law_next ct_law_next), a_law_content := p_law_content, d_law_content := (PySem.W.fnOf "_law_content" "_law_content" (defArgs s_law_content) (defBody s_law_content) (defScope s_law_content) .none kV_law_content dc_law_content pm_law_content an_law_content cd_law_content ct_law_content), a_law_text := p_law_text, d_law_text := (PySem.W.fnOf "_law_text" "_law_text" (defArgs s_law_text) (defBody s_law_text) (defScope s_law_text) .none kV_law_text dc_law_text pm_law_text an_law_text cd_law_text ct_law_text), a_law_wide := p_law_wide, d_law_wide := (PySem.W.fnOf "_law_wide" "_law_wide" (defArgs s_law_wide) (defBody s_law_wide) (defScope s_law_wide) .none kV_law_wide dc_law_wide pm_law_wide an_law_wide cd_law_wide ct_law_wide), a_law_names := p_law_names, d_law_names := (PySem.W.fnOf "_law_names" "_law_names" (defArgs s_law_names) (defBody s_law_names) (defScope s_law_names) .none kV_law_names dc_law_names pm_law_names an_law_names cd_law_names ct_law_names), a_law_bent := p_law_bent, d_law_bent := (PySem.W.fnOf "_law_bent" "_law_bent" (defArgs s_law_bent) (defBody s_law_bent) (defScope s_law_bent) .none kV_law_bent dc_law_bent pm_law_bent an_law_bent cd_law_bent ct_law_bent), a_law := p_law, d_law := (PySem.W.fnOf "law" "law" (defArgs s_law) (defBody s_law) (defScope s_law) .none kV_law dc_law pm_law an_law cd_law ct_law), w_SEPARATORS := ta_9, w_KINDS_BEHIND := ta_13, w_SIGNS_BEHIND := ta_17, c_Level := C_Level } := {
    F_is_name := fun_mk l_is_name c_is_name k_is_name
    b_is_name := (fun_mk (st := s_is_name) l_is_name c_is_name k_is_name).binds (ps := ["value"]) fun _ _ _ _ _ _ us hl => match us, hl with | [_], _ => rfl
    g_is_name := PySem.W.mg_of X G a_is_name
    F_is_type_name := fun_mk l_is_type_name c_is_type_name k_is_type_name
    b_is_type_name := (fun_mk (st := s_is_type_name) l_is_type_name c_is_type_name k_is_type_name).binds (ps := ["value"]) fun _ _ _ _ _ _ us hl => match us, hl with | [_], _ => rfl
    g_is_type_name := PySem.W.mg_of X G a_is_type_name
    F_parts_within := fun_mk l_parts_within c_parts_within k_parts_within
    b_parts_within := (fun_mk (st := s_parts_within) l_parts_within c_parts_within k_parts_within).binds (ps := ["value"]) fun _ _ _ _ _ _ us hl => match us, hl with | [_], _ => rfl
    g_parts_within := PySem.W.mg_of X G a_parts_within
    F_is_content := fun_mk l_is_content c_is_content k_is_content
    b_is_content := (fun_mk (st := s_is_content) l_is_content c_is_content k_is_content).binds (ps := ["value"]) fun _ _ _ _ _ _ us hl => match us, hl with | [_], _ => rfl
    g_is_content := PySem.W.mg_of X G a_is_content
    F_nodes_of := fun_mk l_nodes_of c_nodes_of k_nodes_of
    b_nodes_of := (fun_mk (st := s_nodes_of) l_nodes_of c_nodes_of k_nodes_of).binds (ps := ["content"]) fun _ _ _ _ _ _ us hl => match us, hl with | [_], _ => rfl
    g_nodes_of := PySem.W.mg_of X G a_nodes_of
    F_names_in := fun_mk l_names_in c_names_in k_names_in
    b_names_in := (fun_mk (st := s_names_in) l_names_in c_names_in k_names_in).binds (ps := ["content"]) fun _ _ _ _ _ _ us hl => match us, hl with | [_], _ => rfl
    g_names_in := PySem.W.mg_of X G a_names_in
    F_bracketed := fun_mk l_bracketed c_bracketed k_bracketed
    b_bracketed := (fun_mk (st := s_bracketed) l_bracketed c_bracketed k_bracketed).binds (ps := ["part", "around"]) fun _ _ _ _ _ _ us hl => match us, hl with | [_, _], _ => rfl
    g_bracketed := PySem.W.mg_of X G a_bracketed
    F_printed_parts := fun_mk l_printed_parts c_printed_parts k_printed_parts
    b_printed_parts := (fun_mk (st := s_printed_parts) l_printed_parts c_printed_parts k_printed_parts).binds (ps := ["content"]) fun _ _ _ _ _ _ us hl => match us, hl with | [_], _ => rfl
    g_printed_parts := PySem.W.mg_of X G a_printed_parts
    F_print_content := fun_mk l_print_content c_print_content k_print_content
    b_print_content := (fun_mk (st := s_print_content) l_print_content c_print_content k_print_content).binds (ps := ["content"]) fun _ _ _ _ _ _ us hl => match us, hl with | [_], _ => rfl
    g_print_content := PySem.W.mg_of X G a_print_content
    F_words_of := fun_mk l_words_of c_words_of k_words_of
    b_words_of := (fun_mk (st := s_words_of) l_words_of c_words_of k_words_of).binds (ps := ["text"]) fun _ _ _ _ _ _ us hl => match us, hl with | [_], _ => rfl
    g_words_of := PySem.W.mg_of X G a_words_of
    F_joined := fun_mk l_joined c_joined k_joined
    b_joined := (fun_mk (st := s_joined) l_joined c_joined k_joined).binds (ps := ["kind", "parts"]) fun _ _ _ _ _ _ us hl => match us, hl with | [_, _], _ => rfl
    g_joined := PySem.W.mg_of X G a_joined
    F_Level_content := fun_mk l_Level_content c_Level_content k_Level_content
    b_Level_content := (fun_mk (st := s_Level_content) l_Level_content c_Level_content k_Level_content).binds (ps := ["self"]) fun _ _ _ _ _ _ us hl => match us, hl with | [_], _ => rfl
    F_Level_init := fun_mk l_Level_init c_Level_init k_Level_init
    b_Level_init := (fun_mk (st := s_Level_init) l_Level_init c_Level_init k_Level_init).binds (ps := ["self"]) fun _ _ _ _ _ _ us hl => match us, hl with | [_], _ => rfl
    F_single_content := fun_mk l_single_content c_single_content k_single_content
    b_single_content := (fun_mk (st := s_single_content) l_single_content c_single_content k_single_content).binds (ps := ["word", "place"]) fun _ _ _ _ _ _ us hl => match us, hl with | [_, _], _ => rfl
    g_single_content := PySem.W.mg_of X G a_single_content
    F_Level_end_row := fun_mk l_Level_end_row c_Level_end_row k_Level_end_row
    b_Level_end_row := (fun_mk (st := s_Level_end_row) l_Level_end_row c_Level_end_row k_Level_end_row).binds (ps := ["self"]) fun _ _ _ _ _ _ us hl => match us, hl with | [_], _ => rfl
    F_content_of_words := fun_mk l_content_of_words c_content_of_words k_content_of_words
    b_content_of_words := (fun_mk (st := s_content_of_words) l_content_of_words c_content_of_words k_content_of_words).binds (ps := ["words", "end"]) fun _ _ _ _ _ _ us hl => match us, hl with | [_, _], _ => rfl
    g_content_of_words := PySem.W.mg_of X G a_content_of_words
    F_read_content := fun_mk l_read_content c_read_content k_read_content
    b_read_content := (fun_mk (st := s_read_content) l_read_content c_read_content k_read_content).binds (ps := ["text"]) fun _ _ _ _ _ _ us hl => match us, hl with | [_], _ => rfl
    g_read_content := PySem.W.mg_of X G a_read_content
    F_law_next := fun_mk l_law_next c_law_next k_law_next
    b_law_next := (fun_mk (st := s_law_next) l_law_next c_law_next k_law_next).binds (ps := ["tape", "many"]) fun _ _ _ _ _ _ us hl => match us, hl with | [_, _], _ => rfl
    g_law_next := PySem.W.mg_of X G a_law_next
    F_law_content := fun_mk l_law_content c_law_content k_law_content
    b_law_content := (fun_mk (st := s_law_content) l_law_content c_law_content k_law_content).binds (ps := ["tape", "names", "depth"]) fun _ _ _ _ _ _ us hl => match us, hl with | [_, _, _], _ => rfl
    g_law_content := PySem.W.mg_of X G a_law_content
    F_law_text := fun_mk l_law_text c_law_text k_law_text
    b_law_text := (fun_mk (st := s_law_text) l_law_text c_law_text k_law_text).binds (ps := ["content", "outer"]) fun _ _ _ _ _ _ us hl => match us, hl with | [_, _], _ => rfl
    g_law_text := PySem.W.mg_of X G a_law_text
    F_law_wide := fun_mk l_law_wide c_law_wide k_law_wide
    b_law_wide := (fun_mk (st := s_law_wide) l_law_wide c_law_wide k_law_wide).binds (ps := ["tape", "text"]) fun _ _ _ _ _ _ us hl => match us, hl with | [_, _], _ => rfl
    g_law_wide := PySem.W.mg_of X G a_law_wide
    F_law_names := fun_mk l_law_names c_law_names k_law_names
    b_law_names := (fun_mk (st := s_law_names) l_law_names c_law_names k_law_names).binds (ps := ["content"]) fun _ _ _ _ _ _ us hl => match us, hl with | [_], _ => rfl
    g_law_names := PySem.W.mg_of X G a_law_names
    F_law_bent := fun_mk l_law_bent c_law_bent k_law_bent
    b_law_bent := (fun_mk (st := s_law_bent) l_law_bent c_law_bent k_law_bent).binds (ps := ["content"]) fun _ _ _ _ _ _ us hl => match us, hl with | [_], _ => rfl
    g_law_bent := PySem.W.mg_of X G a_law_bent
    F_law := fun_mk l_law c_law k_law
    b_law := (fun_mk (st := s_law) l_law c_law k_law).binds (ps := ["script"]) fun _ _ _ _ _ _ us hl => match us, hl with | [_], _ => rfl
    g_law := PySem.W.mg_of X G a_law
    z_abs := PySem.W.mg_none_of X G z_abs
    z_all := PySem.W.mg_none_of X G z_all
    z_dict := PySem.W.mg_none_of X G z_dict
    z_int := PySem.W.mg_none_of X G z_int
    z_isinstance := PySem.W.mg_none_of X G z_isinstance
    z_len := PySem.W.mg_none_of X G z_len
    z_list := PySem.W.mg_none_of X G z_list
    z_range := PySem.W.mg_none_of X G z_range
    z_set := PySem.W.mg_none_of X G z_set
    z_sorted := PySem.W.mg_none_of X G z_sorted
    z_str := PySem.W.mg_none_of X G z_str
    z_tuple := PySem.W.mg_none_of X G z_tuple
    c_MOST_NAME := ⟨_, PySem.W.mg_of X G g_MOST_NAME⟩
    c_LETTERS := ⟨_, PySem.W.mg_of X G g_LETTERS⟩
    c_NAME_SIGNS := ⟨_, PySem.W.mg_of X G g_NAME_SIGNS⟩
    c_WORDS := ⟨_, PySem.W.mg_of X G g_WORDS, .tup tl_6 rfl rfl (by show 2 ≤ sizeLine; decide) (.cons (.str _ _) (.cons (.str _ _) (.nil)))⟩
    g_SEPARATORS := PySem.W.mg_of X G g_SEPARATORS
    w_SEPARATORS := ⟨⟨_, _, tl_9, .cons hh_9_0 (.str _ _) (.cons hh_9_1 (.str _ _) (.nil))⟩, lo_9⟩
    g_KINDS_BEHIND := PySem.W.mg_of X G g_KINDS_BEHIND
    w_KINDS_BEHIND := ⟨⟨_, _, tl_13, .cons hh_13_0 (.str _ _) (.cons hh_13_1 (.str _ _) (.cons hh_13_2 (.str _ _) (.nil)))⟩, lo_13⟩
    g_SIGNS_BEHIND := PySem.W.mg_of X G g_SIGNS_BEHIND
    w_SIGNS_BEHIND := ⟨⟨_, _, tl_17, .cons hh_17_0 (.str _ _) (.cons hh_17_1 (.str _ _) (.cons hh_17_2 (.str _ _) (.nil)))⟩, lo_17⟩
    gc_Level := PySem.W.mg_of X G gc_Level
    k_Level := ⟨pg_Level, hd_Level, po_Level, sa_Level⟩
    mk_Level := ⟨mm_Level, fi_Level_init, fn_Level_init, kk_Level⟩
    m_Level_end_row := ⟨fi_Level_end_row, fn_Level_end_row, k_Level_end_row⟩
    m_Level_content := ⟨fi_Level_content, fn_Level_content, k_Level_content⟩
    n_Level_choices := n_Level_choices
    n_Level_row := n_Level_row
  }
  exact ⟨_, fun s v => .of_eq rfl, fun base _ _ => law_ok (ok_law T) fun ns hl => law_true _ ns hl⟩
end Law
open PySem PySem.W PyProof.Rows
set_option maxHeartbeats 0 in
theorem PySem.Challenge.cw_hewstream_k21_texts_of_contents_holds : PySem.Challenge.rw_hewstream_k21_texts_of_contents.Holds := by
  w_on; o_law; k_head; (case hw => w_witness2)
  k_fill
  refine L2.walk_of (l := PySem.Challenge.rw_hewstream_k21_texts_of_contents) (n := 63) (k := 7) (x := "script") (CX := fun w => L2.CX PySem.Challenge.rw_hewstream_k21_texts_of_contents.prog w) (sp := fun w => Rg.spLaw _) rfl (by decide) rfl ⟨rfl, by decide, by decide⟩ (fun w h Y => PySem.W.kIn_of Y) ?F (fun _ _ a ns hl o hS => Rg.sp_law hl o hS) (fun _ _ _ _ _ h => Rg.cx_no h)
  case F =>
    intro w mg fa h KX G hmg
    refine' Law.all_mk KX G hmg ?a_is_name ?a_is_type_name ?a_parts_within ?a_is_content ?a_nodes_of ?a_names_in ?a_bracketed ?a_printed_parts ?a_print_content ?a_words_of ?a_joined ?a_single_content ?a_content_of_words ?a_read_content ?a_law_next ?a_law_content ?a_law_text ?a_law_wide ?a_law_names ?a_law_bent ?a_law ?g_MOST_NAME ?g_LETTERS ?g_NAME_SIGNS ?g_WORDS ?g_SEPARATORS ?g_KINDS_BEHIND ?g_SIGNS_BEHIND ?gc_Level ?fi_Level_init ?fi_Level_end_row ?fi_Level_content ?l_is_name ?c_is_name ?k_is_name ?l_is_type_name ?c_is_type_name ?k_is_type_name ?l_parts_within ?c_parts_within ?k_parts_within ?l_is_content ?c_is_content ?k_is_content ?l_nodes_of ?c_nodes_of ?k_nodes_of ?l_names_in ?c_names_in ?k_names_in ?l_bracketed ?c_bracketed ?k_bracketed ?l_printed_parts ?c_printed_parts ?k_printed_parts ?l_print_content ?c_print_content ?k_print_content ?l_words_of ?c_words_of ?k_words_of ?l_joined ?c_joined ?k_joined ?l_Level_content ?c_Level_content ?k_Level_content ?l_Level_init ?c_Level_init ?k_Level_init ?l_single_content ?c_single_content ?k_single_content ?l_Level_end_row ?c_Level_end_row ?k_Level_end_row ?l_content_of_words ?c_content_of_words ?k_content_of_words ?l_read_content ?c_read_content ?k_read_content ?l_law_next ?c_law_next ?k_law_next ?l_law_content ?c_law_content ?k_law_content ?l_law_text ?c_law_text ?k_law_text ?l_law_wide ?c_law_wide ?k_law_wide ?l_law_names ?c_law_names ?k_law_names ?l_law_bent ?c_law_bent ?k_law_bent ?l_law ?c_law ?k_law ?z_abs ?z_all ?z_dict ?z_int ?z_isinstance ?z_len ?z_list ?z_range ?z_set ?z_sorted ?z_str ?z_tuple ?pg_Level ?hd_Level ?po_Level ?sa_Level ?fn_Level_init ?mm_Level ?kk_Level ?fn_Level_end_row ?fn_Level_content ?n_Level_choices ?n_Level_row ?tl_17 ?tl_13 ?tl_9 ?tl_6 ?lo_9 ?hh_9_0 ?hh_9_1 ?lo_13 ?hh_13_0 ?hh_13_1 ?hh_13_2 ?lo_17 ?hh_17_0 ?hh_17_1 ?hh_17_2
    (case a_is_name => k_is)
    (case a_is_type_name => k_is)
    (case a_parts_within => k_is)
    (case a_is_content => k_is)
    (case a_nodes_of => k_is)
    (case a_names_in => k_is)
    (case a_bracketed => k_is)
    (case a_printed_parts => k_is)
    (case a_print_content => k_is)
    (case a_words_of => k_is)
    (case a_joined => k_is)
    (case a_single_content => k_is)
    (case a_content_of_words => k_is)
    (case a_read_content => k_is)
    (case a_law_next => k_is)
    (case a_law_content => k_is)
    (case a_law_text => k_is)
    (case a_law_wide => k_is)
    (case a_law_names => k_is)
    (case a_law_bent => k_is)
    (case a_law => k_is)
    (case g_MOST_NAME => k_is)
    (case g_LETTERS => k_is)
    (case g_NAME_SIGNS => k_is)
    (case g_WORDS => k_is)
    (case g_SEPARATORS => k_is)
    (case g_KINDS_BEHIND => k_is)
    (case g_SIGNS_BEHIND => k_is)
    (case gc_Level => k_is)
    (case fi_Level_init => k_is)
    (case fi_Level_end_row => k_is)
    (case fi_Level_content => k_is)
    (case l_is_name => k_is)
    (case c_is_name => k_is)
    (case k_is_name => k_is)
    (case l_is_type_name => k_is)
    (case c_is_type_name => k_is)
    (case k_is_type_name => k_is)
    (case l_parts_within => k_is)
    (case c_parts_within => k_is)
    (case k_parts_within => k_is)
    (case l_is_content => k_is)
    (case c_is_content => k_is)
    (case k_is_content => k_is)
    (case l_nodes_of => k_is)
    (case c_nodes_of => k_is)
    (case k_nodes_of => k_is)
    (case l_names_in => k_is)
    (case c_names_in => k_is)
    (case k_names_in => k_is)
    (case l_bracketed => k_is)
    (case c_bracketed => k_is)
    (case k_bracketed => k_is)
    (case l_printed_parts => k_is)
    (case c_printed_parts => k_is)
    (case k_printed_parts => k_is)
    (case l_print_content => k_is)
    (case c_print_content => k_is)
    (case k_print_content => k_is)
    (case l_words_of => k_is)
    (case c_words_of => k_is)
    (case k_words_of => k_is)
    (case l_joined => k_is)
    (case c_joined => k_is)
    (case k_joined => k_is)
    (case l_Level_content => k_is)
    (case c_Level_content => k_is)
    (case k_Level_content => k_is)
    (case l_Level_init => k_is)
    (case c_Level_init => k_is)
    (case k_Level_init => k_is)
    (case l_single_content => k_is)
    (case c_single_content => k_is)
    (case k_single_content => k_is)
    (case l_Level_end_row => k_is)
    (case c_Level_end_row => k_is)
    (case k_Level_end_row => k_is)
    (case l_content_of_words => k_is)
    (case c_content_of_words => k_is)
    (case k_content_of_words => k_is)
    (case l_read_content => k_is)
    (case c_read_content => k_is)
    (case k_read_content => k_is)
    (case l_law_next => k_is)
    (case c_law_next => k_is)
    (case k_law_next => k_is)
    (case l_law_content => k_is)
    (case c_law_content => k_is)
    (case k_law_content => k_is)
    (case l_law_text => k_is)
    (case c_law_text => k_is)
    (case k_law_text => k_is)
    (case l_law_wide => k_is)
    (case c_law_wide => k_is)
    (case k_law_wide => k_is)
    (case l_law_names => k_is)
    (case c_law_names => k_is)
    (case k_law_names => k_is)
    (case l_law_bent => k_is)
    (case c_law_bent => k_is)
    (case k_law_bent => k_is)
    (case l_law => k_is)
    (case c_law => k_is)
    (case k_law => k_is)
    (case z_abs => k_is)
    (case z_all => k_is)
    (case z_dict => k_is)
    (case z_int => k_is)
    (case z_isinstance => k_is)
    (case z_len => k_is)
    (case z_list => k_is)
    (case z_range => k_is)
    (case z_set => k_is)
    (case z_sorted => k_is)
    (case z_str => k_is)
    (case z_tuple => k_is)
    (case pg_Level => k_is)
    (case hd_Level => k_is)
    (case po_Level => k_is)
    (case sa_Level => k_is)
    (case fn_Level_init => k_is)
    (case mm_Level => k_is)
    (case kk_Level => k_is)
    (case fn_Level_end_row => k_is)
    (case fn_Level_content => k_is)
    (case n_Level_choices => k_is)
    (case n_Level_row => k_is)
    (case tl_17 => k_is)
    (case tl_13 => k_is)
    (case tl_9 => k_is)
    (case tl_6 => k_is)
    (case lo_9 => rfl)
    (case hh_9_0 => rfl)
    (case hh_9_1 => rfl)
    (case lo_13 => rfl)
    (case hh_13_0 => rfl)
    (case hh_13_1 => rfl)
    (case hh_13_2 => rfl)
    (case lo_17 => rfl)
    (case hh_17_0 => rfl)
    (case hh_17_1 => rfl)
    (case hh_17_2 => rfl)

