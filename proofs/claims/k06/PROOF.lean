import PyProof.Rows.All
import Wide.All
import OpenK.AllK
import Wide.FinOn
import PyProof.StrBlock2
import HandS.ForExc
import HandS.ForMost
import HandS.Deep
import HandS.TupAny
import HandS.FStr
import HandS.IsInst
import HandS.Star
import HandS.Walk
import HandS.ExcIs
import HandS.ExcOwn
import HandS.Text
import HandS.More
import HandS.Iter
import HandS.NoneIn
import PySem.Challenge.RW_alikeboard_k06_facts_read_or_refused
set_option Elab.async false
set_option linter.all false
set_option maxRecDepth 100000
set_option maxHeartbeats 8000000
/-! Rules of ours beside the layer's. -/
namespace Ab
open PySem PySem.Spec PyProof.Rows L2
section
variable {X : Cx}
/-- text * int -/
def rMulS : R2 := fun x y H Q => ∃ (z : Str) (n : Int), x = .str z ∧ y = .int n ∧ -1000 ≤ n ∧ n ≤ 1000 ∧ z.length ≤ 1000 ∧ Q (.str (Txt.mul z n)) H
theorem op_mulS : OpR X (binaryOp .Mult) rMulS := by
  intro pins s σ H x y v u Q I rx ry h
  obtain ⟨z, n, rfl, rfl, h1, h2, h3, q⟩ := h
  obtain ⟨t, rfl⟩ := rx
  obtain ⟨t', rfl⟩ := ry
  refine SB.mul ⟨?_, ?_, ?_⟩ fun t' k => ⟨.str (Txt.mul z n), H, I.tok _, ⟨_, rfl⟩, q⟩
  · rw [decide_eq_false (by omega), decide_eq_false (by omega)] <;> rfl
  · intro c _ hh
    have a1 : (z.length : Int) * n ≤ 1000 * 1000 := Int.mul_le_mul (by omega) h2 (by omega) (by omega)
    have a2 : (z.length : Int) ≤ (2 ^ 63 - 1) / n := Int.le_ediv_of_mul_le (by omega) (by omega)
    omega
  · intro c _
    unfold Builtin.Str.tooLong
    have a1 : z.length * n.toNat ≤ 1000 * 1000 := Nat.mul_le_mul h3 (by omega)
    refine decide_eq_false ?_
    have := sizeLine_eq
    omega
theorem list_extend_tupW (l : Addr) (items : Array Value) (n : Nat) (b : Addr) (items2 : Array Value) (n2 : Nat) (dd : Option Addr) (sl : Array (Option Value)) (hs0 : ¬(!items.isEmpty && Builtin.List.listTooLong (items.size + items2.size)) = true) (hs1 : items.size ≤ sizeLine) (hs2 : items.size + items2.size ≤ sizeLine + 1) :
    Meets (Builtin.«list.extend» ⟨[.ref l, .ref b], []⟩) (fun _ R s => s.heap.get? l = some { cls := .type "list", dict := none, data := .seq items n, slots := #[] } ∧ s.heap.get? b = some { cls := .type "tuple", dict := dd, data := .seq items2 n2, slots := sl } ∧ R (.ok (.ret Value.none)) { s with heap := s.heap.update l (Obj.mapSeq fun x => x ++ items2), toks := s.toks }) :=
  .of_wp fun prog w A R s h => by
    obtain ⟨hp, g, d, tk, os⟩ := s; obtain ⟨hl, hb, h⟩ := h; have f1 := AutoSeq1.idx_int; have f2 := AutoSeq1.sub_tuple_tuple; have f3 := AutoSeq1.sub_list_list; have f4 := AutoSeq1.sub_tuple_list; have f5 := AutoSeq1.sub_list_tuple;
    have hz' : (items ++ items2).size ≤ sizeLine + 1 := by rw [Array.size_append]; exact hs2
    wp_walk using (wpAny_updateSeq hl rfl (hz := hs1) (_hz' := hz')), wpAny_loadPart' hl, wpAny_loadPart' hb; exact ⟨_, rfl, h⟩
/-- xs.extend(t), t a tuple -/
def rExtendT (K : PySem.W.Frag) : V → List V → Hp → VK → Prop := fun x vs H Q => ∃ l b xs zs, x = .ref l ∧ vs = [.ref b] ∧ H l = some (.lst xs) ∧ SqT K H b zs ∧ xs.length + zs.length ≤ sizeLine ∧ Q .non (upd H l (.lst (xs ++ zs)))
theorem mt_extendT : MtM X "list.extend" (rExtendT X.K) := by
  intro pins s σ H x vs v us Q I rx rv h
  obtain ⟨l, b, xs, zs, rfl, rfl, hH, hB, hz, q⟩ := h
  cases rx
  obtain ⟨u, rfl, ru⟩ := rv.one
  cases ru
  obtain ⟨z, its, n, r, hl, e⟩ := I.lstM hH
  obtain ⟨its2, r2, ⟨⟨cls, dd, data, sl⟩, e2, hc, n2, hd⟩, z2⟩ := I.tuple hB
  simp only at hc hd
  subst hc hd
  have hl2 : zs.length = its2.length := r2.length
  have hsz : its.toArray.size + its2.toArray.size ≤ sizeLine := by rw [List.size_toArray, List.size_toArray]; omega
  have hlong : ¬ (!its.toArray.isEmpty && Builtin.List.listTooLong (its.toArray.size + its2.toArray.size)) = true := by
    rw [notLongL hsz, Bool.and_false]
    exact Bool.false_ne_true
  refine call_meets F.slot_list_extend ⟨_, e, rfl⟩ F.entry_list_extend (F.args_list_extend_2 _ _)
    (list_extend_tupW l its.toArray n b its2.toArray n2 dd sl hlong (by rw [List.size_toArray]; omega) (by omega)) ⟨e, e2, ?_⟩
  refine ⟨.non, _, I.lset (its' := its ++ its2) hH e (by simp) (r.append r2) ?_, rfl, q⟩
  rw [List.length_append]
  omega
end
end Ab
namespace Ab
open PySem PySem.Spec PyProof.Rows L2
/-- the def named x keeps the promise sp, with k frames allowed -/
def Has (P : Program) (w : World) (K : PySem.W.Frag) (mg : Str → Option Value) (base : Heap) (CX : CXT) (k : Nat) (x : Str) (ps : List Str) (sp : Sp) : Prop :=
  ∃ (f : Addr) (fd : FuncData), mg x = some (.ref f) ∧ PySem.W.keepIn K (.ref f) = true ∧ Binds K fd ps [] ∧ FnOk P w K mg base CX k f fd ps sp
/-- the def of the text st stands at the name x -/
def FAt (K : PySem.W.Frag) (mg : Str → Option Value) (x : Str) (st : Stmt) (ps : List Str) : Prop :=
  ∃ (f : Addr) (fd : FuncData), mg x = some (.ref f) ∧ Fun K x x st f fd ∧ Binds K fd ps []
section
variable {P : Program} {w : World} {K : PySem.W.Frag} {mg : Str → Option Value} {base : Heap} {CX : CXT} {k j : Nat} {x : Str} {ps : List Str} {sp sp' : Sp} {st : Stmt}
theorem Has.mono (h : Has P w K mg base CX j x ps sp) (l : j ≤ k) : Has P w K mg base CX k x ps sp := by
  obtain ⟨f, fd, g, kp, b, G⟩ := h
  exact ⟨f, fd, g, kp, b, G.mono l⟩
theorem Has.imp (h : Has P w K mg base CX k x ps sp) (i : ∀ vs H Q E, sp' vs H Q E → sp vs H Q E) : Has P w K mg base CX k x ps sp' := by
  obtain ⟨f, fd, g, kp, b, G⟩ := h
  exact ⟨f, fd, g, kp, b, G.imp i⟩
theorem FAt.has (A : FAt K mg x st ps) (h : ∀ (f : Addr) (fd : FuncData), Fun K x x st f fd → FnOk P w K mg base CX k f fd ps sp) : Has P w K mg base CX k x ps sp := by
  obtain ⟨f, fd, g, F, b⟩ := A
  exact ⟨f, fd, g, F.kp, b, h f fd F⟩
/-- as FAt.has, the body's reading in a short form -/
theorem FAt.ok {N : List Str} {k : Nat} (A : FAt K mg x st ps) (S : FnScope N ps (defScope st)) (len : ∀ vs H Q E, sp vs H Q E → vs.length = ps.length)
    (hbody : ∀ (f : Addr) (cdv : Value) (A : Around) (outer : List Env) (s : Shared) (H : Hp) (vs : List V) (Q : VK) (E : XK), Room k (A.deeper (envOfC x (defScope st) s.heap.objs.size f cdv)) → sp vs H Q E →
      ∃ t, PSs (cxOf CX0 P w K mg base N x (defScope st) f cdv A outer s H E).nox (defBody st) t ∧ t { nx := fun _ H' => Q .non H', rt := Q } (start N vs) H) : Has P w K mg base CX0 (k + 1) x ps sp :=
  A.has fun f fd F => F.ok S len (fun cdv A outer s H vs Q E hr h => hbody f cdv A outer s H vs Q E hr h)
theorem FAt.okX {N : List Str} {k : Nat} (A : FAt K mg x st ps) (S : FnScope N ps (defScope st)) (len : ∀ vs H Q E, sp vs H Q E → vs.length = ps.length)
    (hbody : ∀ (f : Addr) (cdv : Value) (A : Around) (outer : List Env) (s : Shared) (H : Hp) (vs : List V) (Q : VK) (E : XK), Room k (A.deeper (envOfC x (defScope st) s.heap.objs.size f cdv)) → sp vs H Q E →
      ∃ t, PSs (cxOf (L2.CX P w) P w K mg base N x (defScope st) f cdv A outer s H E) (defBody st) t ∧ t { nx := fun _ H' => Q .non H', rt := Q } (start N vs) H) : Has P w K mg base (L2.CX P w) (k + 1) x ps sp :=
  A.has fun f fd F => F.okX S len (fun cdv A outer s H vs Q E hr h => hbody f cdv A outer s H vs Q E hr h)
/-- a promise that is never asked -/
theorem Has.none (A : FAt K mg x st ps) (no : ∀ vs H Q E, ¬ sp vs H Q E) : Has P w K mg base CX 0 x ps sp :=
  A.has fun _ _ _ => ⟨fun vs H Q E h => absurd h (no vs H Q E), fun A outer s H args us vs Q E _ _ _ _ h => absurd h (no vs H Q E)⟩
theorem fat_mk {h : Heap} {f : Addr} {oc : Value} {od an : Option Addr} {osl : Array (Option Value)} {kV doc pm cdv ct : Value} (X : K.In h) (G : h.Ns mainGlobals mg)
    (hb : ∀ (kV doc pm : Value) (an : Option Addr) (cdv ct : Value) (us : List Value), us.length = ps.length → bindArgs (PySem.W.fnOf x x (defArgs st) (defBody st) (defScope st) .none kV doc pm an cdv ct) ⟨us, []⟩ = pure (ps.zip us))
    (a : PySem.W.nsIn K mainGlobals x = some (some (.ref f))) (l : K.lookup f = some ⟨oc, od, .func (PySem.W.fnOf x x (defArgs st) (defBody st) (defScope st) .none kV doc pm an cdv ct), osl⟩) (c : PySem.W.codeIn K cdv x = true) (k : PySem.W.keepIn K (.ref f) = true) : FAt K mg x st ps := by
  have F := fun_mk l c k
  exact ⟨f, _, PySem.W.mg_of X G a, F, F.binds hb⟩
end
section
variable {X : Cx} {x : Str} {i : Int} {t : Tok} {z : Str} {a : Addr} {pos : Pos}
theorem pe_gi (hg : Gl X x) (hm : X.mg x = some (.int i t)) (hd : (x == ("__debug__" : Str)) = false := by decide) : PE X (.Name x pos) (tC (.int i)) := pe_glob (v := .int i) hg hm ⟨t, rfl⟩ hd
theorem pe_gs (hg : Gl X x) (hm : X.mg x = some (.str z t)) (hd : (x == ("__debug__" : Str)) = false := by decide) : PE X (.Name x pos) (tC (.str z)) := pe_glob (v := .str z) hg hm ⟨t, rfl⟩ hd
theorem pe_gr (hg : Gl X x) (hm : X.mg x = some (.ref a)) (hd : (x == ("__debug__" : Str)) = false := by decide) : PE X (.Name x pos) (tC (.ref a)) := pe_glob (v := .ref a) hg hm rfl hd
end
theorem hu64 {A : Around} {k : Nat} (hr : Room k A) : A.units + 64 < cLine := hr.units
theorem hu65 {A : Around} {k : Nat} (hr : Room k A) : A.units + 65 < cLine := by have := hr.un; omega
end Ab
/-! Terms: the mathematics. -/
namespace Ab
open PySem PySem.Spec PyProof.Rows L2
/-- a small letter -/
def isLet (c : Nat) : Bool := decide (97 ≤ c) && decide (c ≤ 122)
/-- a name, as its codes -/
def IsNmL (l : List Nat) : Prop := 1 ≤ l.length ∧ l.length ≤ 6 ∧ ∀ c ∈ l, isLet c = true
def IsNm (z : Str) : Prop := IsNmL z.cps.toList
inductive Tm where
  | mk (n : Str) (ps : List Tm)
def Tm.nm : Tm → Str | .mk n _ => n
def Tm.ps : Tm → List Tm | .mk _ ps => ps
mutual
def Tm.wf : Tm → Prop
  | .mk n ps => IsNm n ∧ ps.length ≤ 3 ∧ Tm.wfs ps
def Tm.wfs : List Tm → Prop
  | [] => True
  | t :: ts => t.wf ∧ Tm.wfs ts
end
mutual
def Tm.size : Tm → Nat
  | .mk _ ps => Tm.sizes ps + 1
def Tm.sizes : List Tm → Nat
  | [] => 0
  | t :: ts => t.size + Tm.sizes ts
end
mutual
def Tm.depth : Tm → Nat
  | .mk _ ps => Tm.depths ps + 1
def Tm.depths : List Tm → Nat
  | [] => 0
  | t :: ts => max t.depth (Tm.depths ts)
end
mutual
theorem Tm.depth_le : ∀ t : Tm, t.depth ≤ t.size
  | .mk _ ps => by
    have := Tm.depths_le ps
    simp only [Tm.depth, Tm.size]
    omega
theorem Tm.depths_le : ∀ ts : List Tm, Tm.depths ts ≤ Tm.sizes ts
  | [] => by simp [Tm.depths]
  | t :: ts => by
    have h1 := Tm.depth_le t
    have h2 := Tm.depths_le ts
    simp only [Tm.depths, Tm.sizes]
    omega
end
theorem Tm.size_pos : ∀ t : Tm, 1 ≤ t.size
  | .mk _ ps => by simp only [Tm.size]; omega
theorem Tm.sizes_len : ∀ ts : List Tm, ts.length ≤ Tm.sizes ts
  | [] => by simp
  | t :: ts => by
    have h1 := Tm.size_pos t
    have h2 := Tm.sizes_len ts
    simp only [Tm.sizes, List.length_cons]
    omega
theorem Tm.wfs_mem : ∀ {ts : List Tm} {t : Tm}, Tm.wfs ts → t ∈ ts → t.wf
  | [], _, _, h => by simp at h
  | a :: ts, t, w, h => by
    simp only [Tm.wfs] at w
    rcases List.mem_cons.mp h with rfl | h
    · exact w.1
    · exact Tm.wfs_mem w.2 h
theorem Tm.wfs_of : ∀ {ts : List Tm}, (∀ t ∈ ts, t.wf) → Tm.wfs ts
  | [], _ => by simp [Tm.wfs]
  | a :: ts, h => by
    simp only [Tm.wfs]
    exact ⟨h a List.mem_cons_self, Tm.wfs_of fun t m => h t (List.mem_cons_of_mem _ m)⟩
theorem Tm.sizes_mem : ∀ {ts : List Tm} {t : Tm}, t ∈ ts → t.size ≤ Tm.sizes ts
  | [], _, h => by simp at h
  | a :: ts, t, h => by
    simp only [Tm.sizes]
    rcases List.mem_cons.mp h with rfl | h
    · omega
    · have := Tm.sizes_mem h
      omega
theorem Tm.depths_mem : ∀ {ts : List Tm} {t : Tm}, t ∈ ts → t.depth ≤ Tm.depths ts
  | [], _, h => by simp at h
  | a :: ts, t, h => by
    simp only [Tm.depths]
    rcases List.mem_cons.mp h with rfl | h
    · omega
    · have := Tm.depths_mem h
      omega
/-! ### a term on the heap -/
mutual
def IsTm (H : Hp) : Tm → V → Prop
  | .mk n ps, v => ∃ (a : Addr) (vs : List V), v = .ref a ∧ H a = some (.tup (.str n :: vs)) ∧ IsTms H ps vs
def IsTms (H : Hp) : List Tm → List V → Prop
  | [], vs => vs = []
  | t :: ts, vs => ∃ (v : V) (r : List V), vs = v :: r ∧ IsTm H t v ∧ IsTms H ts r
end
/-- what never changes: a tuple, what is frozen -/
def Imm : HO → Prop
  | .tup _ => True
  | .frz _ _ => True
  | _ => False
/-- what never changes stays -/
def Tk (H H' : Hp) : Prop := ∀ b o, Imm o → H b = some o → H' b = some o
theorem Tk.refl (H : Hp) : Tk H H := fun _ _ _ h => h
theorem Tk.trans {H H1 H2 : Hp} (a : Tk H H1) (b : Tk H1 H2) : Tk H H2 := fun c xs i h => b c xs i (a c xs i h)
theorem Tk.new {H : Hp} {p : Addr} {o : HO} (h : H p = none) : Tk H (upd H p o) := fun b xs _ q => by rw [upd_ne (ne_of_none q h)]; exact q
theorem Tk.mut {H : Hp} {p : Addr} {o u : HO} (h : H p = some u) (n : ¬ Imm u) : Tk H (upd H p o) := fun b xs i q => by
  rw [upd_ne (ne_of q h (by intro z; rw [z] at i; exact n i))]; exact q
theorem Tk.lst {H : Hp} {p : Addr} {o : HO} {ys : List V} (h : H p = some (.lst ys)) : Tk H (upd H p o) := Tk.mut h (fun z => z)
theorem Tk.same {H H' : Hp} (h : Same H H') : Tk H H' := fun b xs _ q => h b _ q
theorem Tk.tup {H H' : Hp} (k : Tk H H') {b : Addr} {xs : List V} (h : H b = some (.tup xs)) : H' b = some (.tup xs) := k b _ trivial h
/-- a frozen or written list -/
def SqF (K : PySem.W.Frag) (H : Hp) (a : Addr) (xs : List V) : Prop :=
  (∃ o, H a = some (.frz o (.lst xs))) ∨
    ∃ (o : Obj) (its : Array Value) (n : Nat), K.lookup a = some o ∧ o.cls = .type "list" ∧ o.dict = none ∧ o.data = .seq its n ∧ its.size ≤ sizeLine ∧ Vals xs its.toList
theorem SqF.l {K : PySem.W.Frag} {H : Hp} {a : Addr} {xs : List V} (h : SqF K H a xs) : SqL K H a xs := by
  rcases h with h | h
  · exact .inl (.inr h)
  · exact .inr h
theorem SqF.mono {K : PySem.W.Frag} {H H' : Hp} {a : Addr} {xs : List V} (k : Tk H H') (h : SqF K H a xs) : SqF K H' a xs := by
  rcases h with ⟨o, h⟩ | h
  · exact .inl ⟨o, k _ _ trivial h⟩
  · exact .inr h
theorem SqF.only {K : PySem.W.Frag} {H : Hp} {a : Addr} {xs : List V} (o : Only H) (h : SqL K H a xs) : SqF K H a xs := by
  rcases h with (h | h) | h
  · rcases o a with z | ⟨u, ys, z⟩
    · rw [z] at h; cases h
    · rw [z] at h; cases h
  · exact .inl h
  · exact .inr h
theorem same_new {H : Hp} {p : Addr} {o : HO} (h : H p = none) : Same H (upd H p o) := fun b u q => by rw [upd_ne (ne_of_none q h)]; exact q
mutual
theorem IsTm.mono {H H' : Hp} (k : Tk H H') : ∀ {t : Tm} {v : V}, IsTm H t v → IsTm H' t v
  | .mk n ps, v, h => by
    simp only [IsTm] at h ⊢
    obtain ⟨a, vs, e, h1, h2⟩ := h
    exact ⟨a, vs, e, k.tup h1, IsTms.mono k h2⟩
theorem IsTms.mono {H H' : Hp} (k : Tk H H') : ∀ {ts : List Tm} {vs : List V}, IsTms H ts vs → IsTms H' ts vs
  | [], vs, h => by
    simp only [IsTms] at h ⊢
    exact h
  | t :: ts, vs, h => by
    simp only [IsTms] at h ⊢
    obtain ⟨v, r, e, h1, h2⟩ := h
    exact ⟨v, r, e, IsTm.mono k h1, IsTms.mono k h2⟩
end
theorem IsTms.length {H : Hp} : ∀ {ts : List Tm} {vs : List V}, IsTms H ts vs → vs.length = ts.length
  | [], vs, h => by simp only [IsTms] at h; subst h; rfl
  | t :: ts, vs, h => by
    simp only [IsTms] at h
    obtain ⟨v, r, rfl, _, h2⟩ := h
    rw [List.length_cons, List.length_cons, IsTms.length h2]
theorem IsTms.get {H : Hp} : ∀ {ts : List Tm} {vs : List V} {i : Nat} {v : V}, IsTms H ts vs → vs[i]? = some v → ∃ t, ts[i]? = some t ∧ IsTm H t v
  | [], vs, i, v, h, e => by simp only [IsTms] at h; rw [h] at e; simp at e
  | t :: ts, vs, i, v, h, e => by
    simp only [IsTms] at h
    obtain ⟨u, r, rfl, h1, h2⟩ := h
    cases i with
    | zero => simp at e; subst e; exact ⟨t, rfl, h1⟩
    | succ i => simp at e; obtain ⟨t', e', q⟩ := IsTms.get h2 e; exact ⟨t', by simpa using e', q⟩
theorem IsTms.append {H : Hp} : ∀ {ts us : List Tm} {vs ws : List V}, IsTms H ts vs → IsTms H us ws → IsTms H (ts ++ us) (vs ++ ws)
  | [], us, vs, ws, h, g => by simp only [IsTms] at h; rw [h]; exact g
  | t :: ts, us, vs, ws, h, g => by
    simp only [IsTms] at h
    obtain ⟨v, r, rfl, h1, h2⟩ := h
    simp only [List.cons_append, IsTms]
    exact ⟨v, r ++ ws, rfl, h1, IsTms.append h2 g⟩
theorem IsTms.one {H : Hp} {t : Tm} {v : V} (h : IsTm H t v) : IsTms H [t] [v] := by
  simp only [IsTms]
  exact ⟨v, [], rfl, h, rfl⟩
theorem IsTms.nil {H : Hp} : IsTms H [] [] := by simp only [IsTms]
/-! ### as data -/
mutual
def Tm.data : Tm → PyData
  | .mk n ps => .tuple (.str n :: Tm.datas ps)
def Tm.datas : List Tm → List PyData
  | [] => []
  | t :: ts => t.data :: Tm.datas ts
end
theorem Tm.datas_map : ∀ ts : List Tm, Tm.datas ts = ts.map Tm.data
  | [] => rfl
  | t :: ts => by simp only [Tm.datas, List.map_cons, Tm.datas_map ts]
mutual
theorem IsTm.dp {K : PySem.W.Frag} {H : Hp} : ∀ {t : Tm} {v : V}, IsTm H t v → Dp K H v t.data
  | .mk n ps, v, h => by
    simp only [IsTm] at h
    obtain ⟨a, vs, rfl, h1, h2⟩ := h
    simp only [Tm.data]
    exact .tup (SqT.of h1) (.cons (.str n) (IsTms.dp h2))
theorem IsTms.dp {K : PySem.W.Frag} {H : Hp} : ∀ {ts : List Tm} {vs : List V}, IsTms H ts vs → DpAll K H vs (Tm.datas ts)
  | [], vs, h => by simp only [IsTms] at h; subst h; exact .nil
  | t :: ts, vs, h => by
    simp only [IsTms] at h
    obtain ⟨v, r, rfl, h1, h2⟩ := h
    simp only [Tm.datas]
    exact .cons (IsTm.dp h1) (IsTms.dp h2)
end
theorem isLet_lt {c : Nat} (h : isLet c = true) : c < 0x110000 := by
  unfold isLet at h
  rw [Bool.and_eq_true] at h
  have := of_decide_eq_true h.2
  omega
theorem nm_ok {n : Str} (h : IsNm n) : PyData.strOk n = true := by
  unfold PyData.strOk
  rw [Array.all_eq_true']
  intro c hc
  exact decide_eq_true (isLet_lt (h.2.2 c (by simpa using hc)))
mutual
theorem Tm.lay : ∀ t : Tm, t.wf → t.data.canLay0 = true
  | .mk n ps, h => by
    simp only [Tm.wf] at h
    simp only [Tm.data, PyData.canLay0, PyData.canLayAll0, Bool.and_eq_true]
    exact ⟨nm_ok h.1, Tm.lays ps h.2.2⟩
theorem Tm.lays : ∀ ts : List Tm, Tm.wfs ts → PyData.canLayAll0 (Tm.datas ts) = true
  | [], _ => by simp [Tm.datas, PyData.canLayAll0]
  | t :: ts, h => by
    simp only [Tm.wfs] at h
    simp only [Tm.datas, PyData.canLayAll0, Bool.and_eq_true]
    exact ⟨Tm.lay t h.1, Tm.lays ts h.2⟩
end
mutual
theorem Tm.ddepth : ∀ t : Tm, t.data.depth = t.depth
  | .mk n ps => by
    simp only [Tm.data, PyData.depth, PyData.depthAll, Tm.depth, Tm.ddepths ps]
    omega
theorem Tm.ddepths : ∀ ts : List Tm, PyData.depthAll (Tm.datas ts) = Tm.depths ts
  | [] => by simp [Tm.datas, PyData.depthAll, Tm.depths]
  | t :: ts => by simp only [Tm.datas, PyData.depthAll, Tm.depths, Tm.ddepth t, Tm.ddepths ts]
end
theorem Tm.shaped {t : Tm} (h : t.wf) (d : t.size ≤ 60) : SeqAt.shaped t.data = true := by
  show (t.data.canLay0 && decide (t.data.depth ≤ 64)) = true
  rw [Bool.and_eq_true]
  have := t.depth_le
  have e := t.ddepth
  exact ⟨t.lay h, decide_eq_true (by omega)⟩
mutual
theorem Tm.eqv : ∀ t u : Tm, PyData.eqv t.data u.data = true ↔ t = u
  | .mk n ps, .mk m qs => by
    simp only [Tm.data, PyData.eqv, PyData.eqvAll, Bool.and_eq_true, beq_iff_eq, Tm.mk.injEq]
    exact and_congr Iff.rfl (Tm.eqvs ps qs)
theorem Tm.eqvs : ∀ ts us : List Tm, PyData.eqvAll (Tm.datas ts) (Tm.datas us) = true ↔ ts = us
  | [], [] => by simp [Tm.datas, PyData.eqvAll]
  | [], _ :: _ => by simp [Tm.datas, PyData.eqvAll]
  | _ :: _, [] => by simp [Tm.datas, PyData.eqvAll]
  | t :: ts, u :: us => by
    simp only [Tm.datas, PyData.eqvAll, Bool.and_eq_true, List.cons.injEq]
    exact and_congr (Tm.eqv t u) (Tm.eqvs ts us)
end
end Ab
namespace Ab
open PySem PySem.Spec PyProof.Rows L2
/-- all but what stands where S says is kept -/
def Kp (S : Addr → Prop) (H H' : Hp) : Prop := ∀ b o, ¬ S b → H b = some o → H' b = some o
abbrev No : Addr → Prop := fun _ => False
theorem Kp.refl (S : Addr → Prop) (H : Hp) : Kp S H H := fun _ _ _ h => h
theorem Kp.trans {S : Addr → Prop} {H H1 H2 : Hp} (a : Kp S H H1) (b : Kp S H1 H2) : Kp S H H2 := fun c o n h => b c o n (a c o n h)
theorem Kp.same {S : Addr → Prop} {H H' : Hp} (h : Same H H') : Kp S H H' := fun b o _ q => h b o q
theorem Kp.free {S : Addr → Prop} {H H' : Hp} (k : Kp S H H') {p : Addr} (n : ¬ S p) (h : H' p = none) : H p = none := by
  cases q : H p with
  | none => rfl
  | some o => rw [k p o n q] at h; cases h
theorem Kp.to_same {H H' : Hp} (h : Kp No H H') : Same H H' := fun b o q => h b o (fun z => z) q
/-- a list's growing comprehension: the source goes by w; S may change, R tells of each item, I holds throughout -/
theorem lc_grow {J : It} {n : Nat} {G : Hp → Prop} {Y : Nat → Hp → V → Hp → Prop} (w : Walk J n G Y) {g : TG} {te : TE} {vs : List Nat} {σ : L2.St} {H1 : Hp} {D : Addr} {Qd : Hp → Prop}
    (S : Addr → Prop) (I : Hp → Prop) (R : Nat → V → Hp → Prop) (hD : H1 D = none) (hS : ¬ S D) (hn : n < sizeLine)
    (Rm : ∀ i v H H', Tk H H' → R i v H → R i v H') (Im : ∀ H H', (∀ b o, b ≠ D → H b = some o → H' b = some o) → Tk H H' → I H → I H') (IG : ∀ H, I H → G H) (i0 : I H1)
    (turn : ∀ i x H H', i < n → I H → Kp S H1 H → Tk H1 H → Y i H x H' → g x (wipe σ vs) H' fun σ2 H2 => wipe σ2 vs = wipe σ vs ∧ ∀ Qy : V → Hp → Prop, (∀ y H4, Kp S H H4 → Tk H H4 → I H4 → R i y H4 → Qy y H4) → te σ2 H2 Qy)
    (gm : ∀ x σ H Q Q', (∀ σ2 H2, Q σ2 H2 → Q' σ2 H2) → g x σ H Q → g x σ H Q')
    (done : ∀ H acc, Kp S H1 H → Tk H1 H → I H → H D = some (.lst acc) → acc.length = n → (∀ i y, acc[i]? = some y → R i y H) → Qd H) :
    ∃ W : Nat → Nat → Hp → Prop, (∃ m, W 0 m (upd H1 D (.lst []))) ∧ ∀ i m H, W i m H →
      (J.stop i H ∧ Qd H) ∨ (J.go i H ∧ ∃ Nx : Hp → Prop, (∀ H', Nx H' → ∃ m', m' < m ∧ W (i + 1) m' H') ∧ ∀ x H', J.yld i H x H' → g x (wipe σ vs) H' fun σ2 H2 => wipe σ2 vs = wipe σ vs ∧ tYes σ2 H2 fun b H3 =>
        if b = true then te σ2 H3 fun y H4 => ∃ acc, H4 D = some (.lst acc) ∧ acc.length < sizeLine ∧ Nx (upd H4 D (.lst (acc ++ [y]))) else Nx H3) := by
  have kD : ∀ H o, Kp S H1 H → Kp S H1 (upd H D o) := fun H o k b u nb q => by
    rw [upd_ne (ne_of_none q hD)]
    exact k b u nb q
  have tD : ∀ H acc o, H D = some (.lst acc) → Tk H (upd H D o) := fun H acc o e => Tk.lst e
  refine lc_it w (fun i H => Kp S H1 H ∧ Tk H1 H ∧ I H ∧ ∃ acc, H D = some (.lst acc) ∧ acc.length = i ∧ ∀ j y, acc[j]? = some y → R j y H) ?_ (fun i H _ p => IG H p.2.2.1) ?_ ?_
  · refine ⟨kD _ _ (Kp.refl _ _), Tk.new hD, Im _ _ (fun b o nb q => by rw [upd_ne nb]; exact q) (Tk.new hD) i0, [], upd_same, rfl, fun j y e => by simp at e⟩
  · rintro i x H H' hi ⟨k, t, iH, acc, hacc, hl, hR⟩ y
    have z0 := turn i x H H' hi iH k t y
    refine gm _ _ _ _ _ (fun σ2 H2 z => ⟨z.1, ?_⟩) z0
    unfold tYes
    refine iteT ?_
    refine z.2 _ fun v H4 k4 t4 i4 r4 => ?_
    have e4 : H4 D = some (.lst acc) := k4 D _ hS hacc
    have t5 : Tk H4 (upd H4 D (.lst (acc ++ [v]))) := tD _ _ _ e4
    refine ⟨acc, e4, by omega, kD _ _ (k.trans k4), (t.trans t4).trans t5, Im _ _ (fun b o nb q => by rw [upd_ne nb]; exact q) t5 i4, acc ++ [v], upd_same, by simp [hl], fun j u e => ?_⟩
    rw [List.getElem?_append] at e
    split at e
    · exact Rm _ _ _ _ t5 (Rm _ _ _ _ t4 (hR j u e))
    · rename_i hj
      have e2 : j = i := by
        have := (List.getElem?_eq_some_iff.mp e).1
        simp at this
        omega
      subst e2
      rw [hl, Nat.sub_self] at e
      have e3 : v = u := by simpa using e
      subst e3
      exact Rm _ _ _ _ t5 r4
  · rintro H ⟨k, t, iH, acc, hacc, hl, hR⟩
    exact done H acc k t iH hacc hl hR
theorem gName_mono {i : Nat} : ∀ x σ H (Q Q' : L2.St → Hp → Prop), (∀ σ2 H2, Q σ2 H2 → Q' σ2 H2) → gName i x σ H Q → gName i x σ H Q' := fun _ _ _ _ _ h q => h _ _ q
/-- terms told one by one -/
theorem tms_of {H : Hp} {P : Nat → Tm → Prop} : ∀ {vs : List V}, (∀ i y, vs[i]? = some y → ∃ t, IsTm H t y ∧ P i t) → ∃ ts, IsTms H ts vs ∧ ts.length = vs.length ∧ ∀ i t, ts[i]? = some t → P i t
  | [], _ => ⟨[], IsTms.nil, rfl, fun i t e => by simp at e⟩
  | v :: vs, h => by
    obtain ⟨t, h1, h2⟩ := h 0 v rfl
    obtain ⟨ts, g1, g2, g3⟩ := tms_of (H := H) (P := fun i => P (i + 1)) (vs := vs) fun i y e => h (i + 1) y (by simpa using e)
    refine ⟨t :: ts, by simp only [IsTms]; exact ⟨v, vs, rfl, h1, g1⟩, by simp [g2], fun i u e => ?_⟩
    cases i with
    | zero => simp at e; subst e; exact h2
    | succ i => exact g3 i u (by simpa using e)
theorem at0 {x : V} {xs : List V} : atI (x :: xs) 0 = some x := atI_nat (j := 0) rfl
/-! ### slices -/
theorem cut1 (x : V) (xs : List V) : cutV (x :: xs) (some 1) none = xs := by
  unfold cutV
  rw [show HT.sIx (x :: xs).length 0 (some 1) = min 1 (x :: xs).length from HT.sIx_nat _ 0 1, HT.sIx_none]
  rw [show min 1 (x :: xs).length = 1 by rw [List.length_cons]; omega]
  show List.take ((x :: xs).length - 1) xs = xs
  rw [List.length_cons, Nat.add_sub_cancel]
  exact List.take_length
theorem not_whole1 (x : V) (xs : List V) : ¬ (HT.sIx (x :: xs).length 0 (some 1) = 0 ∧ HT.sIx (x :: xs).length (x :: xs).length none = (x :: xs).length) := by
  rw [show HT.sIx (x :: xs).length 0 (some 1) = min 1 (x :: xs).length from HT.sIx_nat _ 0 1, List.length_cons]
  omega
/-- t[1:] of a term's tuple: its parts in a new tuple -/
theorem sl_parts {K : PySem.W.Frag} {H : Hp} {a : Addr} {x : V} {xs : List V} {Q : VK} (h : H a = some (.tup (x :: xs))) (q : ∀ p, H p = none → Q (.ref p) (upd H p (.tup xs))) : rSlA K (.ref a) (some 1) none H Q :=
  ⟨a, x :: xs, rfl, SqT.of h, fun z => absurd z (not_whole1 x xs), fun _ p hp => by rw [cut1]; exact q p hp⟩
theorem tsl_parts {K : PySem.W.Frag} {σ : L2.St} {H : Hp} {a : Addr} {x : V} {xs : List V} {Q : VK} {i : Nat} (hσ : σ[i]? = some (some (.ref a))) (h : H a = some (.tup (x :: xs))) (q : ∀ p, H p = none → Q (.ref p) (upd H p (.tup xs))) :
    tSl (rSlA K) (tVar i) (tPart (tC (.int 1))) tNoPart σ H Q := ⟨_, hσ, 1, rfl, sl_parts (K := K) h q⟩
end Ab
namespace Ab
open PySem PySem.Spec PyProof.Rows L2
def topS (i : Nat) : Stmt := PySem.Challenge.pw_alikeboard_k06_facts_read_or_refused.main.body.getD i (.Pass ⟨0, 0, 0, 0⟩)
abbrev s_read : Stmt := topS 12
theorem sc_read : FnScope ["text", "term", "end"] ["text"] (defScope s_read) := ⟨rfl, rfl, rfl, by decide +kernel, rfl, by decide +kernel, by decide +kernel⟩
abbrev s_is_letter : Stmt := topS 13
theorem sc_is_letter : FnScope ["sign"] ["sign"] (defScope s_is_letter) := ⟨rfl, rfl, rfl, by decide +kernel, rfl, by decide +kernel, by decide +kernel⟩
abbrev s_is_name : Stmt := topS 14
theorem sc_is_name : FnScope ["text", "sign"] ["text"] (defScope s_is_name) := ⟨rfl, rfl, rfl, by decide +kernel, rfl, by decide +kernel, by decide +kernel⟩
abbrev s_term_at : Stmt := topS 15
theorem sc_term_at : FnScope ["text", "start", "end", "name", "parts"] ["text", "start"] (defScope s_term_at) := ⟨rfl, rfl, rfl, by decide +kernel, rfl, by decide +kernel, by decide +kernel⟩
abbrev s_parts_at : Stmt := topS 16
theorem sc_parts_at : FnScope ["text", "start", "parts", "end", "more", "part"] ["text", "start"] (defScope s_parts_at) := ⟨rfl, rfl, rfl, by decide +kernel, rfl, by decide +kernel, by decide +kernel⟩
abbrev s_letters_end : Stmt := topS 17
theorem sc_letters_end : FnScope ["text", "start", "end"] ["text", "start"] (defScope s_letters_end) := ⟨rfl, rfl, rfl, by decide +kernel, rfl, by decide +kernel, by decide +kernel⟩
abbrev s_read_fact : Stmt := topS 20
theorem sc_read_fact : FnScope ["text", "pieces", "first", "sign", "second"] ["text"] (defScope s_read_fact) := ⟨rfl, rfl, rfl, by decide +kernel, rfl, by decide +kernel, by decide +kernel⟩
abbrev s_word_of : Stmt := topS 21
theorem sc_word_of : FnScope ["sign", "word"] ["sign"] (defScope s_word_of) := ⟨rfl, rfl, rfl, by decide +kernel, rfl, by decide +kernel, by decide +kernel⟩
abbrev s_l_cell : Stmt := topS 23
theorem sc_l_cell : FnScope ["_law_script", "_law_k"] ["_law_script", "_law_k"] (defScope s_l_cell) := ⟨rfl, rfl, rfl, by decide +kernel, rfl, by decide +kernel, by decide +kernel⟩
abbrev s_l_dice : Stmt := topS 24
theorem sc_l_dice : FnScope ["_law_script", "_law_k", "_law_cell_here"] ["_law_script", "_law_k"] (defScope s_l_dice) := ⟨rfl, rfl, rfl, by decide +kernel, rfl, by decide +kernel, by decide +kernel⟩
abbrev s_l_off : Stmt := topS 25
theorem sc_l_off : FnScope ["_law_d", "_law_most", "_law_found", "_law_more"] ["_law_d", "_law_most"] (defScope s_l_off) := ⟨rfl, rfl, rfl, by decide +kernel, rfl, by decide +kernel, by decide +kernel⟩
abbrev s_l_works : Stmt := topS 26
theorem sc_l_works : FnScope ["_law_d", "_law_size", "_law_at", "_law_turn", "_law_names", "_law_k", "_law_sign", "_law_shared", "_law_one", "_law_many"] ["_law_d"] (defScope s_l_works) := ⟨rfl, rfl, rfl, by decide +kernel, rfl, by decide +kernel, by decide +kernel⟩
abbrev s_l_term : Stmt := topS 27
theorem sc_l_term : FnScope ["_law_d", "_law_works_here", "_law_deep", "_law_name", "_law_many", "_law_k"] ["_law_d", "_law_works_here", "_law_deep"] (defScope s_l_term) := ⟨rfl, rfl, rfl, by decide +kernel, rfl, by decide +kernel, by decide +kernel⟩
abbrev s_l_fact : Stmt := topS 28
theorem sc_l_fact : FnScope ["_law_d", "_law_works_here", "_law_deep", "_law_word", "_law_one"] ["_law_d", "_law_works_here", "_law_deep"] (defScope s_l_fact) := ⟨rfl, rfl, rfl, by decide +kernel, rfl, by decide +kernel, by decide +kernel⟩
abbrev s_l_facts : Stmt := topS 29
theorem sc_l_facts : FnScope ["_law_d", "_law_works_here", "_law_most", "_law_k"] ["_law_d", "_law_works_here", "_law_most"] (defScope s_l_facts) := ⟨rfl, rfl, rfl, by decide +kernel, rfl, by decide +kernel, by decide +kernel⟩
abbrev s_l_text : Stmt := topS 30
theorem sc_l_text : FnScope ["_law_term_here", "_law_part"] ["_law_term_here"] (defScope s_l_text) := ⟨rfl, rfl, rfl, by decide +kernel, rfl, by decide +kernel, by decide +kernel⟩
abbrev s_l_taken : Stmt := topS 31
theorem sc_l_taken : FnScope ["_law_text_here", "_law_at", "_law_found", "_law_rest", "_law_part"] ["_law_text_here"] (defScope s_l_taken) := ⟨rfl, rfl, rfl, by decide +kernel, rfl, by decide +kernel, by decide +kernel⟩
abbrev s_l_due : Stmt := topS 32
theorem sc_l_due : FnScope ["_law_text_here", "_law_words", "_law_parts", "_law_one", "_law_other"] ["_law_text_here"] (defScope s_l_due) := ⟨rfl, rfl, rfl, by decide +kernel, rfl, by decide +kernel, by decide +kernel⟩
abbrev s_l_is_read : Stmt := topS 33
theorem sc_l_is_read : FnScope ["_law_text_here", "_law_due_here", "_law_found", "e"] ["_law_text_here"] (defScope s_l_is_read) := ⟨rfl, rfl, rfl, by decide +kernel, rfl, by decide +kernel, by decide +kernel⟩
abbrev s_law : Stmt := topS 34
theorem sc_law : FnScope ["_law_script", "_law_d", "_law_word", "_law_one", "_law_other", "_law_sign", "_law_text_here", "_law_at", "_law_more", "_law_some"] ["_law_script"] (defScope s_law) := ⟨rfl, rfl, rfl, by decide +kernel, rfl, by decide +kernel, by decide +kernel⟩

/-! ### cells and dice -/
/-- all but what stands at d is kept -/
abbrev Mv (d : Addr) : Hp → Hp → Prop := Kp fun b => b = d
theorem Mv.upd {d : Addr} {H : Hp} {o : HO} : Mv d H (upd H d o) := fun b u n q => by rw [upd_ne n]; exact q
theorem Mv.new {d p : Addr} {H : Hp} {o : HO} (h : H p = none) : Mv d H (L2.upd H p o) := Kp.same (same_new h)
def Dice (K : PySem.W.Frag) (H : Hp) (d : Addr) : Prop := ∃ (sc : Addr) (ns : List Int) (m k g : Int), H d = some (.lst [.int m, .ref sc, .int k, .int g]) ∧ SqF K H sc (ns.map V.int) ∧ ns.length ≤ 63 ∧ 0 ≤ m ∧ m < 2147483647 ∧ 0 ≤ k ∧ 0 ≤ g
theorem Dice.lst {K : PySem.W.Frag} {H : Hp} {d : Addr} (D : Dice K H d) : ∃ ys, H d = some (.lst ys) := by
  obtain ⟨sc, ns, m, k, g, h, _⟩ := D
  exact ⟨_, h⟩
theorem Dice.mono {K : PySem.W.Frag} {H H' : Hp} {d : Addr} (k : Tk H H') (e : ∀ o, H d = some o → H' d = some o) (D : Dice K H d) : Dice K H' d := by
  obtain ⟨sc, ns, m, k', g, h, q, r⟩ := D
  exact ⟨sc, ns, m, k', g, e _ h, q.mono k, r⟩
theorem Dice.stay {K : PySem.W.Frag} {H H' : Hp} {d : Addr} (D : Dice K H d) (s : Same H H') : Dice K H' d := D.mono (Tk.same s) fun o h => s _ _ h
theorem Dice.ne {K : PySem.W.Frag} {H : Hp} {d p : Addr} (D : Dice K H d) (h : H p = none) : p ≠ d := fun e => by
  obtain ⟨ys, z⟩ := D.lst
  rw [e, z] at h; cases h
/-- another list is written -/
theorem Dice.other {K : PySem.W.Frag} {H : Hp} {d p : Addr} {xs : List V} {o : HO} (D : Dice K H d) (h : H p = some (.lst xs)) (n : p ≠ d) : Dice K (upd H p o) d :=
  D.mono (Tk.lst h) fun u q => by rw [upd_ne (Ne.symm n)]; exact q
theorem Mv.tk {K : PySem.W.Frag} {d : Addr} {H H' : Hp} (h : Mv d H H') (D : Dice K H d) : Tk H H' := fun b xs i q => by
  obtain ⟨ys, e⟩ := D.lst
  exact h b _ (ne_of q e (by intro z; rw [z] at i; exact i)) q
section
variable {P : Program} {w : World} {K : PySem.W.Frag} {mg : Str → Option Value} {base : Heap}
def spCell (K : PySem.W.Frag) : Sp := fun vs H Q _ => ∃ (a : Addr) (ns : List Int) (k : Int), vs = [.ref a, .int k] ∧ SqF K H a (ns.map V.int) ∧ 0 ≤ k ∧ ∀ c : Int, Q (.int c) H
theorem ok_cell (m_len : mg "len" = none) (A : FAt K mg "_law_cell" s_l_cell ["_law_script", "_law_k"]) : Has P w K mg base CX0 1 "_law_cell" ["_law_script", "_law_k"] (spCell K) := by
  refine A.ok sc_l_cell (fun vs H Q E h => ?_) (fun f cdv A outer s H vs Q E hr h => ?_)
  · obtain ⟨a, ns, k, rfl, _⟩ := h; rfl
  obtain ⟨a, ns, k, rfl, hS, h0, q⟩ := h
  refine ⟨_, (pss_cons (ps_if (pt_cmpR op_lt (pv 1) (pe_callB call_len_seq (by rfl) m_len PySem.boot_len (pa_cons (pv 0) pa_nil)) (nomark _)) (pss_one (ps_ret (pe_ix ix_list (pv 0) (pv 1) (fun _ _ => rfl))))
    pss_nil)
    (pss_one (ps_ret pe_int))), ?_⟩
  refine ⟨_, rfl, _, rfl, a, _, rfl, .inl hS.l, _, _, rfl, rfl, _, rfl, ?_⟩
  refine ite2 (fun c => ?_) (fun c => ?_)
  · have c' : k < (((ns.map V.int).length : Nat) : Int) := of_decide_eq_true c
    rw [List.length_map] at c'
    have hk : k.toNat < ns.length := by omega
    have ek : k = ((k.toNat : Nat) : Int) := by omega
    have hv : atI (ns.map V.int) k = some (.int ns[k.toNat]) := at_of ek (by rw [List.getElem?_map, List.getElem?_eq_getElem hk]; rfl)
    exact ⟨_, rfl, _, rfl, a, _, _, _, rfl, rfl, hS.l, hv, q _⟩
  · exact q 0
def spDice (K : PySem.W.Frag) : Sp := fun vs H Q _ => ∃ (a : Addr) (ns : List Int) (k : Int), vs = [.ref a, .int k] ∧ SqF K H a (ns.map V.int) ∧ ns.length ≤ 63 ∧ 0 ≤ k ∧ ∀ d H', H d = none → Same H H' → Dice K H' d → Q (.ref d) H'
theorem ok_dice (m_abs : mg "abs" = none) (m_int : mg "int" = none) (A : FAt K mg "_law_dice" s_l_dice ["_law_script", "_law_k"]) (h_l_cell : Has P w K mg base CX0 1 "_law_cell" ["_law_script", "_law_k"] (spCell K)) : Has P w K mg base CX0 2 "_law_dice" ["_law_script", "_law_k"] (spDice K) := by
  obtain ⟨f_l_cell, d_l_cell, g_l_cell, k_l_cell, b_l_cell, G_l_cell⟩ := h_l_cell
  refine A.ok sc_l_dice (fun vs H Q E h => ?_) (fun f cdv A outer s H vs Q E hr h => ?_)
  · obtain ⟨a, ns, k, rfl, _⟩ := h; rfl
  obtain ⟨a, ns, k, rfl, hS, h63, h0, q⟩ := h
  refine ⟨_, (pss_cons (ps_set (i := 2) sc_l_dice.nd rfl (Or.inl rfl) (pe_callB call_abs (by rfl) m_abs (by decide +kernel) (pa_cons (pe_call G_l_cell (hr.mono (by omega)) rfl g_l_cell k_l_cell b_l_cell .nil pass0 (pa_cons (pv 0) (pa_cons (pv 1) pa_nil))) pa_nil)))
    (pss_one (ps_ret (pe_lst (pa_cons (pe_op op_mod (pv 2) pe_int) (pa_cons (pv 0) (pa_cons (pe_op op_add (pv 1) pe_int) (pa_cons (pe_op op_mul (pe_callTy call_int1 (by rfl) m_int (by decide +kernel) (pa_cons (pe_cmpR op_ge (pv 2) (pe_op op_pow pe_int pe_int) (nomark _)) pa_nil)) (pv 2)) pa_nil)))))))), ?_⟩
  refine ⟨_, rfl, _, rfl, a, ns, k, rfl, hS, h0, fun c => ?_⟩
  refine ⟨c, rfl, ?_⟩
  have e0 : 0 ≤ (if c < 0 then -c else c) := by split <;> omega
  generalize (if c < 0 then -c else c) = u at e0
  refine ⟨_, rfl, _, _, rfl, rfl, (by show (0 : Int) < 2147483647; decide), _, rfl, _, rfl, _, _, rfl, rfl, _, rfl, _, _, rfl, rfl, ⟨by decide, by decide, by decide⟩, _, _, rfl, rfl, .inr ⟨_, rfl, _, rfl, _, _, rfl, rfl, ?_, ?_⟩⟩
  · refine .inl ?_
    split <;> exact ⟨by decide, by decide⟩
  refine ⟨by show 4 ≤ sizeLine; decide, fun d hd => ?_⟩
  have sm : Same H (upd H d (.lst [.int (u % 2147483647), .ref a, .int (k + 1), .int ((if decide (u ≥ 10 ^ (18 : Int).toNat) = true then 1 else 0) * u)])) := same_new hd
  refine q d _ hd sm ⟨a, ns, _, _, _, upd_same, hS.mono (Tk.same sm), h63, by omega, by omega, by omega, ?_⟩
  split <;> omega
def spOff (K : PySem.W.Frag) : Sp := fun vs H Q _ => ∃ (d : Addr) (m : Int), vs = [.ref d, .int m] ∧ Dice K H d ∧ 1 ≤ m ∧ m < 1073741824 ∧ ∀ r H', 0 ≤ r → r < m → Mv d H H' → Dice K H' d → Q (.int r) H'
theorem ok_off (m_abs : mg "abs" = none) (m_max : mg "max" = none) (m_len : mg "len" = none) (A : FAt K mg "_law_off" s_l_off ["_law_d", "_law_most"]) (h_l_cell : Has P w K mg base CX0 1 "_law_cell" ["_law_script", "_law_k"] (spCell K)) : Has P w K mg base CX0 2 "_law_off" ["_law_d", "_law_most"] (spOff K) := by
  obtain ⟨f_l_cell, d_l_cell, g_l_cell, k_l_cell, b_l_cell, G_l_cell⟩ := h_l_cell
  refine A.ok sc_l_off (fun vs H Q E h => ?_) (fun f cdv A outer s H vs Q E hr h => ?_)
  · obtain ⟨d, m, rfl, _⟩ := h; rfl
  obtain ⟨d, n, rfl, ⟨sc, ns, m, k, g, hD, hS, h63, m0, m1, k0, g0⟩, n0, n1, q⟩ := h
  refine ⟨_, (pss_cons (ps_if (pt_cmpR op_gt (pe_ix ix_list (pv 0) pe_int (fun _ _ => rfl)) pe_int (nomark _)) (pss_cons (ps_set (i := 2) sc_l_off.nd rfl (Or.inl rfl) (pe_op op_mod (pe_ix ix_list (pv 0) pe_int (fun _ _ => rfl)) (pv 1)))
    (pss_cons (ps_asg (pe_op op_fdiv (pe_ix ix_list (pv 0) pe_int (fun _ _ => rfl)) (pv 1)) (pg_sub (pv 0) pe_int set_list))
    (pss_one (ps_ret (pv 2)))))
    pss_nil)
    (pss_cons (ps_set (i := 3) sc_l_off.nd rfl (Or.inl rfl) (pe_callB call_abs (by rfl) m_abs (by decide +kernel) (pa_cons (pe_call G_l_cell (hr.mono (by omega)) rfl g_l_cell k_l_cell b_l_cell .nil pass0 (pa_cons (pe_ix ix_list (pv 0) pe_int (fun _ _ => rfl)) (pa_cons (pe_op op_mod (pe_ix ix_list (pv 0) pe_int (fun _ _ => rfl)) (pe_callB (call_max2 rfl) (by rfl) m_max (by decide +kernel) (pa_cons pe_int (pa_cons (pe_callB call_len_seq (by rfl) m_len PySem.boot_len (pa_cons (pe_ix ix_list (pv 0) pe_int (fun _ _ => rfl)) pa_nil)) pa_nil)))) pa_nil))) pa_nil)))
    (pss_cons (ps_asg (pe_op op_add (pe_ix ix_list (pv 0) pe_int (fun _ _ => rfl)) pe_int) (pg_sub (pv 0) pe_int set_list))
    (pss_cons (ps_asg (pe_op op_mod (pe_op op_add (pe_op op_add (pe_op op_mul (pe_ix ix_list (pv 0) pe_int (fun _ _ => rfl)) pe_int) pe_int) (pv 3)) pe_int) (pg_sub (pv 0) pe_int set_list))
    (pss_one (ps_ret (pe_op op_mod (pe_op op_fdiv (pe_ix ix_list (pv 0) pe_int (fun _ _ => rfl)) pe_int) (pv 1)))))))), ?_⟩
  refine ⟨_, rfl, d, _, 3, _, rfl, rfl, SqL.of hD, rfl, g, 0, rfl, rfl, _, rfl, ?_⟩
  refine ite2 (fun c => ?_) (fun c => ?_)
  · -- a great cell's digits
    refine ⟨_, rfl, d, _, 3, _, rfl, rfl, SqL.of hD, rfl, _, rfl, _, _, rfl, rfl, (by omega), ?_⟩
    refine ⟨_, rfl, d, _, 3, _, rfl, rfl, SqL.of hD, rfl, _, rfl, _, _, rfl, rfl, ⟨by omega, n1⟩, _, rfl, d, _, 3, 3, rfl, rfl, hD, rfl, _, rfl, ?_⟩
    refine q _ _ (Int.emod_nonneg _ (by omega)) (Int.emod_lt_of_pos _ (by omega)) Mv.upd ⟨sc, ns, m, k, g / n, upd_same, hS.mono (Tk.lst hD), h63, m0, m1, k0, Int.ediv_nonneg g0 (by omega)⟩
  · -- mixed with the next cell
    refine ⟨_, rfl, d, _, 1, _, rfl, rfl, SqL.of hD, rfl, _, rfl, d, _, 2, _, rfl, rfl, SqL.of hD, rfl, _, rfl, d, _, 1, _, rfl, rfl, SqL.of hD, rfl, sc, _, rfl, .inl hS.l, _, _, rfl, ?_⟩
    have l0 : (0 : Int) < (if (((ns.map V.int).length : Nat) : Int) > 1 then (((ns.map V.int).length : Nat) : Int) else 1) := by split <;> omega
    generalize (if (((ns.map V.int).length : Nat) : Int) > 1 then (((ns.map V.int).length : Nat) : Int) else 1) = l at l0
    refine ⟨_, _, rfl, rfl, l0, sc, ns, _, rfl, hS, Int.emod_nonneg _ (by omega), fun c => ⟨c, rfl, ?_⟩⟩
    have e0 : 0 ≤ (if c < 0 then -c else c) := by split <;> omega
    generalize (if c < 0 then -c else c) = u at e0
    refine ⟨_, rfl, d, _, 2, _, rfl, rfl, SqL.of hD, rfl, _, _, rfl, rfl, _, rfl, d, _, 2, 2, rfl, rfl, hD, rfl, ?_⟩
    refine ⟨_, rfl, d, _, 0, _, rfl, rfl, SqL.of upd_same, rfl, _, _, rfl, rfl, .inr ⟨by decide, by decide⟩, _, _, rfl, rfl, _, rfl, _, _, rfl, rfl, _, _, rfl, rfl, (by show (0 : Int) < 2147483647; decide), _, rfl, d, _, 0, 0, rfl, rfl, upd_same, rfl, ?_⟩
    refine ⟨_, rfl, d, _, 0, _, rfl, rfl, SqL.of upd_same, rfl, _, _, rfl, rfl, ⟨by decide, by decide⟩, _, rfl, _, _, rfl, rfl, (by omega), ?_⟩
    refine q _ _ (Int.emod_nonneg _ (by omega)) (Int.emod_lt_of_pos _ (by omega)) (Mv.upd.trans Mv.upd) ⟨sc, ns, _, _, _, upd_same, ?_, h63, Int.emod_nonneg _ (by decide), Int.emod_lt_of_pos _ (by decide), ?_, g0⟩
    · rw [upd_upd]; exact hS.mono (Tk.lst hD)
    · show 0 ≤ k + 1; omega
end
end Ab
namespace Ab
open PySem PySem.Spec PyProof.Rows L2
/-! ### works: five names with their counts of parts -/
def Work (H : Hp) (i : Nat) (v : V) : Prop := ∃ (a : Addr) (z : Str) (c : Int), v = .ref a ∧ H a = some (.tup [.str z, .int c]) ∧ IsNm z ∧ 0 ≤ c ∧ c ≤ 3 ∧ (i < 3 → c = 0) ∧ (i = 3 → c = 1)
theorem Work.mono {H H' : Hp} (k : Tk H H') {i : Nat} {v : V} (h : Work H i v) : Work H' i v := by
  obtain ⟨a, z, c, e, h1, h2⟩ := h
  exact ⟨a, z, c, e, k.tup h1, h2⟩
def Works (H : Hp) (p : Addr) : Prop := ∃ xs : List V, H p = some (.lst xs) ∧ xs.length = 5 ∧ ∀ i v, xs[i]? = some v → Work H i v
theorem Works.mono {H H' : Hp} {p : Addr} (k : Tk H H') (e : ∀ o, H p = some o → H' p = some o) (h : Works H p) : Works H' p := by
  obtain ⟨xs, h1, h2, h3⟩ := h
  exact ⟨xs, e _ h1, h2, fun i v q => (h3 i v q).mono k⟩
theorem abc_at : ∀ i : Int, 0 ≤ i → i < 26 → ∃ c, atI (PySem.Str.ofString "abcdefghijklmnopqrstuvwxyz").cps.toList i = some c ∧ isLet c = true := by
  intro i h0 h1
  have h : ∀ j : Fin 26, (PySem.Str.ofString "abcdefghijklmnopqrstuvwxyz").cps.toList[j.1]? = some (97 + j.1) := by decide +kernel
  obtain ⟨j, rfl⟩ : ∃ j : Nat, i = (j : Int) := ⟨i.toNat, by omega⟩
  have hj : j < 26 := by omega
  refine ⟨97 + j, atI_nat (h ⟨j, hj⟩), ?_⟩
  unfold isLet
  rw [Bool.and_eq_true]
  exact ⟨decide_eq_true (by omega), decide_eq_true (by omega)⟩
theorem ms (n : Int) (h0 : 0 ≤ n) (h1 : n ≤ 6) : (Txt.mul (PySem.Str.ofString "m") n).cps.toList = List.replicate n.toNat 109 := by
  have h : n = 0 ∨ n = 1 ∨ n = 2 ∨ n = 3 ∨ n = 4 ∨ n = 5 ∨ n = 6 := by omega
  rcases h with rfl | rfl | rfl | rfl | rfl | rfl | rfl <;> decide +kernel
theorem nm_made {a b : Int} {c : Nat} (h0 : 0 ≤ a) (h1 : 0 ≤ b) (h2 : a + b ≤ 5) (hc : isLet c = true) : IsNm (Txt.mul (PySem.Str.ofString "m") a ++ ⟨#[c]⟩ ++ Txt.mul (PySem.Str.ofString "m") b) := by
  have e : (Txt.mul (PySem.Str.ofString "m") a ++ ⟨#[c]⟩ ++ Txt.mul (PySem.Str.ofString "m") b).cps.toList = List.replicate a.toNat 109 ++ [c] ++ List.replicate b.toNat 109 := by
    show (((Txt.mul (PySem.Str.ofString "m") a).cps ++ #[c]) ++ (Txt.mul (PySem.Str.ofString "m") b).cps).toList = _
    rw [Array.toList_append, Array.toList_append, ms a h0 (by omega), ms b h1 (by omega)]
  unfold IsNm IsNmL
  rw [e]
  refine ⟨by simp; omega, by simp; omega, fun x hx => ?_⟩
  simp only [List.mem_append, List.mem_replicate, List.mem_singleton] at hx
  rcases hx with (⟨_, rfl⟩ | rfl) | ⟨_, rfl⟩
  · decide
  · exact hc
  · decide
theorem mul_len {a : Int} (h0 : 0 ≤ a) (h1 : a ≤ 6) : (Txt.mul (PySem.Str.ofString "m") a).length = a.toNat := by
  have h := congrArg List.length (ms a h0 h1)
  rw [List.length_replicate] at h
  rw [← h]
  show Array.size _ = _
  rw [Array.length_toList]
section
variable {P : Program} {w : World} {K : PySem.W.Frag} {mg : Str → Option Value} {base : Heap}
def spWorks (K : PySem.W.Frag) : Sp := fun vs H Q _ => ∃ (d : Addr), vs = [.ref d] ∧ Dice K H d ∧ ∀ p H', H p = none → p ≠ d → Mv d H H' → Dice K H' d → Works H' p → Q (.ref p) H'
theorem ok_works (m_range : mg "range" = none) (A : FAt K mg "_law_works" s_l_works ["_law_d"]) (h_l_off : Has P w K mg base CX0 2 "_law_off" ["_law_d", "_law_most"] (spOff K)) : Has P w K mg base CX0 3 "_law_works" ["_law_d"] (spWorks K) := by
  obtain ⟨f_l_off, d_l_off, g_l_off, k_l_off, b_l_off, G_l_off⟩ := h_l_off
  refine A.ok sc_l_works (fun vs H Q E h => ?_) (fun f cdv A outer s H vs Q E hr h => ?_)
  · obtain ⟨d, rfl, _⟩ := h; rfl
  obtain ⟨d, rfl, hD, q⟩ := h
  refine ⟨_, (pss_cons (ps_set (i := 1) sc_l_works.nd rfl (Or.inl rfl) (pe_op op_add pe_int (pe_call G_l_off (hr.mono (by omega)) rfl g_l_off k_l_off b_l_off .nil pass0 (pa_cons (pv 0) (pa_cons pe_int pa_nil)))))
    (pss_cons (ps_set (i := 2) sc_l_works.nd rfl (Or.inl rfl) (pe_call G_l_off (hr.mono (by omega)) rfl g_l_off k_l_off b_l_off .nil pass0 (pa_cons (pv 0) (pa_cons (pv 1) pa_nil))))
    (pss_cons (ps_set (i := 3) sc_l_works.nd rfl (Or.inl rfl) (pe_call G_l_off (hr.mono (by omega)) rfl g_l_off k_l_off b_l_off .nil pass0 (pa_cons (pv 0) (pa_cons pe_int pa_nil))))
    (pss_cons (ps_set (i := 4) sc_l_works.nd rfl (Or.inl rfl) (pe_lst pa_nil))
    (pss_cons (ps_for PassesOwn.never rfl (pi_range1 rfl m_range (pa_cons pe_int pa_nil)) (pg_name (i := 5) sc_l_works.nd rfl (Or.inl rfl))
    (pss_cons (ps_set (i := 6) sc_l_works.nd rfl (Or.inl rfl) (pe_ix ix_str pe_str (pe_op op_mod (pe_op op_add (pv 3) (pe_op op_mul pe_int (pv 5))) pe_int) (fun _ _ => rfl)))
    (pss_one (ps_expr (pe_bm PySem.F.plainAttrs_list PySem.F.slot_list_append PySem.F.type_list_append mt_append (pv 4) (pa_cons (pe_op op_add_str (pe_op op_add_str (pe_op op_mulS pe_str (pv 2)) (pv 6)) (pe_op op_mulS pe_str (pe_op op_sub (pe_op op_sub (pv 1) (pv 2)) pe_int))) pa_nil))))))
    (pss_cons (ps_set (i := 7) sc_l_works.nd rfl (Or.inl rfl) (pe_call G_l_off (hr.mono (by omega)) rfl g_l_off k_l_off b_l_off .nil pass0 (pa_cons (pv 0) (pa_cons pe_int pa_nil))))
    (pss_cons (ps_set (i := 8) sc_l_works.nd rfl (Or.inl rfl) (pe_ix ix_list (pv 4) (pe_ix ix_list (pe_lst (pa_cons pe_int (pa_cons pe_int (pa_cons pe_int pa_nil)))) (pv 7) (fun _ _ => rfl)) (fun _ _ => rfl)))
    (pss_cons (ps_set (i := 9) sc_l_works.nd rfl (Or.inl rfl) (pe_ix ix_list (pe_lst (pa_cons pe_int (pa_cons pe_int (pa_cons pe_int pa_nil)))) (pe_call G_l_off (hr.mono (by omega)) rfl g_l_off k_l_off b_l_off .nil pass0 (pa_cons (pv 0) (pa_cons pe_int pa_nil))) (fun _ _ => rfl)))
    (pss_one (ps_ret (pe_lst (pa_cons (pe_tup (pa_cons (pe_ix ix_list (pv 4) pe_int (fun _ _ => rfl)) (pa_cons pe_int pa_nil))) (pa_cons (pe_tup (pa_cons (pe_ix ix_list (pv 4) pe_int (fun _ _ => rfl)) (pa_cons pe_int pa_nil))) (pa_cons (pe_tup (pa_cons (pe_ix ix_list (pv 4) pe_int (fun _ _ => rfl)) (pa_cons pe_int pa_nil))) (pa_cons (pe_tup (pa_cons (pv 8) (pa_cons pe_int pa_nil))) (pa_cons (pe_tup (pa_cons (pe_ix ix_list (pe_lst (pa_cons (pe_ix ix_list (pv 4) pe_int (fun _ _ => rfl)) (pa_cons (pe_ix ix_list (pv 4) pe_int (fun _ _ => rfl)) (pa_cons (pv 8) pa_nil)))) (pv 7) (fun _ _ => rfl)) (pa_cons (pv 9) pa_nil))) pa_nil)))))))))))))))), ?_⟩
  refine ⟨_, rfl, d, 6, rfl, hD, by decide, by decide, fun r1 H1 a1 b1 k1 D1 => ⟨_, _, rfl, rfl, ?_⟩⟩
  refine ⟨_, rfl, _, rfl, d, 1 + r1, rfl, D1, by omega, by omega, fun r2 H2 a2 b2 k2 D2 => ?_⟩
  refine ⟨_, rfl, d, 26, rfl, D2, by decide, by decide, fun r3 H3 a3 b3 k3 D3 => ?_⟩
  refine ⟨by show 0 ≤ sizeLine; decide, fun nl hn => ?_⟩
  have D4 := D3.stay (same_new (o := .lst []) hn)
  have nnd := D3.ne hn
  refine ⟨5, rfl, by decide, by decide, for_range (lo := 0) (n := 5) (fun i σ H4 => (∃ x5 x6, σ = [some (.ref d), some (.int (1 + r1)), some (.int r2), some (.int r3), some (.ref nl), x5, x6, none, none, none]) ∧ Mv d H3 H4 ∧ Dice K H4 d ∧ ∃ zs : List Str, H4 nl = some (.lst (zs.map V.str)) ∧ zs.length = i ∧ ∀ z ∈ zs, IsNm z)
    ⟨⟨none, none, rfl⟩, Mv.new hn, D4, [], upd_same, rfl, by simp⟩ ?_ ?_⟩
  · rintro i σ H4 hi ⟨⟨x5, x6, rfl⟩, k4, D4, zs, e4, l4, n4⟩
    obtain ⟨c, hc, hl⟩ := abc_at ((r3 + 5 * (0 + (i : Int))) % 26) (Int.emod_nonneg _ (by decide)) (Int.emod_lt_of_pos _ (by decide))
    refine ⟨_, rfl, _, rfl, _, _, rfl, rfl, .inl ⟨by decide, by decide⟩, _, _, rfl, rfl, _, _, rfl, rfl, (by show (0 : Int) < 26; decide), _, _, c, rfl, rfl, (by show 26 ≤ sizeLine; decide), hc, ?_⟩
    have la := mul_len (a := r2) a2 (by omega)
    have lb := mul_len (a := 1 + r1 - r2 - 1) (by omega) (by omega)
    refine ⟨_, rfl, .inl ⟨rfl, _, SqL.of e4⟩, _, rfl, _, _, rfl, rfl, by omega, by omega, by decide, _, rfl, _, _, rfl, rfl, ?_, _, rfl, _, rfl, _, _, rfl, rfl, _, _, rfl, rfl, _, _, rfl, rfl, by omega, by omega, by decide, _, _, rfl, rfl, ?_, ?_⟩
    · rw [la]
      have := sizeLine_eq
      show _ + 1 ≤ _
      omega
    · rw [lb]
      have := sizeLine_eq
      have e : (Txt.mul (PySem.Str.ofString "m") r2 ++ (⟨#[c]⟩ : Str)).length = r2.toNat + 1 := by
        show ((Txt.mul (PySem.Str.ofString "m") r2).cps ++ #[c]).size = _
        rw [Array.size_append]
        show (Txt.mul (PySem.Str.ofString "m") r2).length + 1 = _
        rw [la]
      rw [e]
      omega
    · refine ⟨nl, _, _, rfl, rfl, e4, by rw [List.length_map]; exact small1000 (by omega), ⟨_, _, rfl⟩, fun b o nb h => ?_, ?_, zs ++ [_], (by rw [upd_same, List.map_append]; rfl), by rw [List.length_append, l4]; rfl, ?_⟩
      · rw [upd_ne (ne_of_none h hn)]; exact k4 b o nb h
      · exact D4.other e4 nnd
      · intro z hz
        rcases List.mem_append.mp hz with hz | hz
        · exact n4 z hz
        · rw [List.mem_singleton] at hz
          subst hz
          exact nm_made a2 (by omega) (by omega) hl
  · rintro σ H5 ⟨⟨x5, x6, rfl⟩, k5, D5, zs, e5, l5, n5⟩
    match zs, l5, e5, n5 with
    | [z0, z1, z2, z3, z4], _, e5, n5 =>
    have w0 := n5 z0 (by simp)
    have w1 := n5 z1 (by simp)
    have w2 := n5 z2 (by simp)
    have w3 := n5 z3 (by simp)
    have w4 := n5 z4 (by simp)
    refine ⟨_, rfl, d, 3, rfl, D5, by decide, by decide, fun r4 H6 a4 b4 k6 D6 => ?_⟩
    have e6 := k6 nl _ nnd e5
    have j1 : ∃ j : Int, atI [V.int 3, .int 0, .int 3] r4 = some (.int j) ∧ (j = 3 ∨ j = 0) := by
      have h : r4 = 0 ∨ r4 = 1 ∨ r4 = 2 := by omega
      rcases h with rfl | rfl | rfl
      · exact ⟨3, rfl, .inl rfl⟩
      · exact ⟨0, rfl, .inr rfl⟩
      · exact ⟨3, rfl, .inl rfl⟩
    obtain ⟨j, hj, oj⟩ := j1
    have j2 : ∃ z, atI [V.str z0, .str z1, .str z2, .str z3, .str z4] j = some (.str z) ∧ IsNm z := by
      rcases oj with rfl | rfl
      · exact ⟨z3, rfl, w3⟩
      · exact ⟨z0, rfl, w0⟩
    obtain ⟨zo, hzo, wo⟩ := j2
    refine ⟨_, rfl, (by show 3 ≤ sizeLine; decide), fun l1 h1 => ⟨_, rfl, l1, _, r4, _, rfl, rfl, SqL.of upd_same, hj, nl, _, j, _, rfl, rfl, SqL.of (same_new h1 _ _ e6), hzo, ?_⟩⟩
    have D7 := D6.stay (same_new (o := .lst [.int 3, .int 0, .int 3]) h1)
    have e7 := same_new (o := .lst [.int 3, .int 0, .int 3]) h1 _ _ e6
    refine ⟨by show 3 ≤ sizeLine; decide, fun l2 h2 => ?_⟩
    have D8 := D7.stay (same_new (o := .lst [.int 2, .int 2, .int 3]) h2)
    have e8 := same_new (o := .lst [.int 2, .int 2, .int 3]) h2 _ _ e7
    refine ⟨_, rfl, d, 3, rfl, D8, by decide, by decide, fun r5 H9 a5 b5 k9 D9 => ?_⟩
    have j3 : ∃ j : Int, atI [V.int 2, .int 2, .int 3] r5 = some (.int j) ∧ 0 ≤ j ∧ j ≤ 3 := by
      have h : r5 = 0 ∨ r5 = 1 ∨ r5 = 2 := by omega
      rcases h with rfl | rfl | rfl
      · exact ⟨2, rfl, by decide, by decide⟩
      · exact ⟨2, rfl, by decide, by decide⟩
      · exact ⟨3, rfl, by decide, by decide⟩
    obtain ⟨m, hm, m0, m3⟩ := j3
    have j4 : ∃ z, atI [V.str z4, .str z4, .str zo] r4 = some (.str z) ∧ IsNm z := by
      have h : r4 = 0 ∨ r4 = 1 ∨ r4 = 2 := by omega
      rcases h with rfl | rfl | rfl
      · exact ⟨z4, rfl, w4⟩
      · exact ⟨z4, rfl, w4⟩
      · exact ⟨zo, rfl, wo⟩
    obtain ⟨zp, hzp, wp⟩ := j4
    refine ⟨l2, _, r5, _, rfl, rfl, SqL.of (k9 l2 _ (D7.ne h2) upd_same), hm, ?_⟩
    have e9 := k9 nl _ nnd e8
    have le2 : 2 ≤ sizeLine := by decide
    refine ⟨_, rfl, nl, _, 0, _, rfl, rfl, SqL.of e9, rfl, le2, fun t0 g0 => ?_⟩
    have s0 := same_new (o := .tup [.str z0, .int 0]) g0
    refine ⟨_, rfl, nl, _, 1, _, rfl, rfl, SqL.of (s0 _ _ e9), rfl, le2, fun t1 g1 => ?_⟩
    have s1 := s0.trans (same_new (o := .tup [.str z1, .int 0]) g1)
    refine ⟨_, rfl, nl, _, 2, _, rfl, rfl, SqL.of (s1 _ _ e9), rfl, le2, fun t2 g2 => ?_⟩
    have s2 := s1.trans (same_new (o := .tup [.str z2, .int 0]) g2)
    refine ⟨_, rfl, le2, fun t3 g3 => ?_⟩
    have s3 := s2.trans (same_new (o := .tup [.str zo, .int 1]) g3)
    refine ⟨_, rfl, nl, _, 4, _, rfl, rfl, SqL.of (s3 _ _ e9), rfl, _, rfl, nl, _, 4, _, rfl, rfl, SqL.of (s3 _ _ e9), rfl, _, rfl, (by show 3 ≤ sizeLine; decide), fun l3 g4 => ?_⟩
    refine ⟨_, rfl, l3, _, r4, _, rfl, rfl, SqL.of upd_same, hzp, _, rfl, le2, fun t4 g5 => ?_⟩
    refine ⟨by show 5 ≤ sizeLine; decide, fun p hp => ?_⟩
    have u1 := same_new (o := .tup [.str z1, .int 0]) g1
    have u2 := same_new (o := .tup [.str z2, .int 0]) g2
    have u3 := same_new (o := .tup [.str zo, .int 1]) g3
    have u4 := same_new (o := .lst [.str z4, .str z4, .str zo]) g4
    have u5 := same_new (o := .tup [.str zp, .int m]) g5
    have u6 := same_new (o := .lst [.ref t0, .ref t1, .ref t2, .ref t3, .ref t4]) hp
    have uu := s3.trans (u4.trans (u5.trans u6))
    have kk := (((((k1.trans k2).trans k3).trans k5).trans k6).trans (Kp.same (S := fun b => b = d) ((same_new (o := .lst [.int 3, .int 0, .int 3]) h1).trans (same_new (o := .lst [.int 2, .int 2, .int 3]) h2)))).trans k9
    have kz := kk.trans (Kp.same uu)
    refine q p _ ?_ ((D9.stay (s3.trans (u4.trans u5))).ne hp) kz (D9.stay uu) ⟨_, upd_same, rfl, fun i v h => ?_⟩
    · exact (kk.trans (Kp.same (s3.trans (u4.trans u5)))).free ((D9.stay (s3.trans (u4.trans u5))).ne hp) hp
    · match i, h with
      | 0, h => simp at h; subst h; exact ⟨t0, z0, 0, rfl, u6 _ _ (u5 _ _ (u4 _ _ (u3 _ _ (u2 _ _ (u1 _ _ upd_same))))), w0, by decide, by decide, fun _ => rfl, fun e => by simp at e⟩
      | 1, h => simp at h; subst h; exact ⟨t1, z1, 0, rfl, u6 _ _ (u5 _ _ (u4 _ _ (u3 _ _ (u2 _ _ upd_same)))), w1, by decide, by decide, fun _ => rfl, fun e => by simp at e⟩
      | 2, h => simp at h; subst h; exact ⟨t2, z2, 0, rfl, u6 _ _ (u5 _ _ (u4 _ _ (u3 _ _ upd_same))), w2, by decide, by decide, fun _ => rfl, fun e => by simp at e⟩
      | 3, h => simp at h; subst h; exact ⟨t3, zo, 1, rfl, u6 _ _ (u5 _ _ (u4 _ _ upd_same)), wo, by decide, by decide, fun e => by omega, fun _ => rfl⟩
      | 4, h => simp at h; subst h; exact ⟨t4, zp, m, rfl, u6 _ _ upd_same, wp, m0, m3, fun e => by omega, fun e => by omega⟩
      | i + 5, h => simp at h
end
end Ab
namespace Ab
open PySem PySem.Spec PyProof.Rows L2
/-! ### drawn terms -/
/-- how many names a drawn term has at most -/
def szB : Nat → Nat
  | 0 => 1
  | n + 1 => max (1 + 2 * szB n) 4
theorem szB_pos : ∀ n, 1 ≤ szB n
  | 0 => Nat.le_refl _
  | n + 1 => by simp only [szB]; omega
section
variable {P : Program} {w : World} {K : PySem.W.Frag} {mg : Str → Option Value} {base : Heap}
def spTerm (K : PySem.W.Frag) (n : Nat) : Sp := fun vs H Q _ => ∃ (d p : Addr) (deep : Int), vs = [.ref d, .ref p, .int deep] ∧ 0 ≤ deep ∧ deep + 1 ≤ n ∧ Dice K H d ∧ Works H p ∧ p ≠ d ∧
  ∀ v t H', Mv d H H' → Dice K H' d → IsTm H' t v → t.wf → t.size ≤ szB deep.toNat → Q v H'
theorem sizes_le {B : Nat} : ∀ {ts : List Tm}, (∀ t ∈ ts, t.size ≤ B) → Tm.sizes ts ≤ ts.length * B
  | [], _ => by simp [Tm.sizes]
  | t :: ts, h => by
    have h1 := h t List.mem_cons_self
    have h2 := sizes_le fun u m => h u (List.mem_cons_of_mem _ m)
    simp only [Tm.sizes, List.length_cons, Nat.succ_mul]
    omega
theorem ok_term1 {n : Nat} (m_int : mg "int" = none) (m_range : mg "range" = none) (m_tuple : mg "tuple" = none) (A : FAt K mg "_law_term" s_l_term ["_law_d", "_law_works_here", "_law_deep"])
    (h_l_off : Has P w K mg base CX0 2 "_law_off" ["_law_d", "_law_most"] (spOff K)) (h_l_term : Has P w K mg base CX0 (n + 2) "_law_term" ["_law_d", "_law_works_here", "_law_deep"] (spTerm K n)) : Has P w K mg base CX0 (n + 3) "_law_term" ["_law_d", "_law_works_here", "_law_deep"] (spTerm K (n + 1)) := by
  obtain ⟨f_l_off, d_l_off, g_l_off, k_l_off, b_l_off, G_l_off⟩ := h_l_off
  obtain ⟨f_l_term, d_l_term, g_l_term, k_l_term, b_l_term, G_l_term⟩ := h_l_term
  refine A.ok sc_l_term (fun vs H Q E h => ?_) (fun f cdv A outer s H vs Q E hr h => ?_)
  · obtain ⟨d, p, deep, rfl, _⟩ := h; rfl
  obtain ⟨d, p, deep, rfl, h0, hn, hD, hW, hpd, q⟩ := h
  refine ⟨_, (pss_cons (ps_asg (pe_ix ix_list (pv 1) (pe_call G_l_off (hr.mono (by omega)) rfl g_l_off k_l_off b_l_off .nil pass0 (pa_cons (pv 0) (pa_cons (pe_ix ix_list (pe_lst (pa_cons pe_int (pa_cons pe_int pa_nil))) (pe_callTy call_int1 (by rfl) m_int (by decide +kernel) (pa_cons (pe_cmpR op_gt (pv 2) pe_int (nomark _)) pa_nil)) (fun _ _ => rfl)) pa_nil))) (fun _ _ => rfl)) (pg_tup rfl (pgs_cons (pg_name (i := 3) sc_l_term.nd rfl (Or.inl rfl)) (pgs_cons (pg_name (i := 4) sc_l_term.nd rfl (Or.inl rfl)) pgs_nil))))
    (pss_cons (ps_if (pt_cmpR op_eq (pv 4) pe_int (nomark _)) (pss_one (ps_set (i := 2) sc_l_term.nd rfl (Or.inr rfl) pe_int))
    pss_nil)
    (pss_one (ps_ret (pe_op op_catT (pe_tup (pa_cons (pv 3) pa_nil)) (pe_callTy call_tuple_of (by rfl) m_tuple (by decide +kernel) (pa_cons (pe_lc (own := [("_law_k", 5)]) (g := gName 5) (tt := tYes) rfl sc_l_term.nd (pi_range1 rfl m_range (pa_cons (pv 4) pa_nil)) (blkOk_by (own := [("_law_k", 5)]) (N := ["_law_d", "_law_works_here", "_law_deep", "_law_name", "_law_many", "_law_k"]) (sc := defScope s_l_term) (by decide +kernel)) (fun _ _ _ _ _ => (pg_name (i := 5) sc_l_term.nd rfl (Or.inl rfl))) (fun _ _ _ _ _ => pts_nil) (fun _ _ _ _ _ => (pe_call G_l_term (hr.mono (by omega)) rfl g_l_term k_l_term b_l_term .nil pass0 (pa_cons (pv 0) (pa_cons (pv 1) (pa_cons (pe_op op_sub (pv 2) pe_int) pa_nil)))))) pa_nil))))))), ?_⟩
  refine ⟨_, rfl, _, rfl, (by show 2 ≤ sizeLine; decide), fun l hl => ?_⟩
  have sl := same_new (o := .lst [.int 3, .int 5]) hl
  have at1 : atI [V.int 3, .int 5] (if decide (0 < deep) = true then 1 else 0) = some (.int (if 0 < deep then 5 else 3)) := by
    by_cases c : 0 < deep
    · rw [if_pos (decide_eq_true c), if_pos c]; rfl
    · rw [if_neg (by rw [decide_eq_false c]; exact Bool.false_ne_true), if_neg c]; rfl
  refine ⟨_, rfl, _, _, rfl, rfl, .inr ⟨_, rfl, l, _, _, _, rfl, rfl, SqL.of upd_same, at1, ?_⟩⟩
  refine ⟨d, _, rfl, hD.stay sl, by split <;> decide, by split <;> decide, fun r H1 r0 r1 k1 D1 => ?_⟩
  have W1 : Works H1 p := (hW.mono (Tk.same sl) fun o e => sl _ _ e).mono (k1.tk (hD.stay sl)) fun o e => k1 p o hpd e
  obtain ⟨xs, hx, lx, wx⟩ := id W1
  obtain ⟨i, rfl⟩ : ∃ i : Nat, r = (i : Int) := ⟨r.toNat, by omega⟩
  have hi : i < xs.length := by rw [lx]; split at r1 <;> omega
  obtain ⟨a, z, c, ev, ha, hz, c0, c3, cl, ce⟩ := wx i xs[i] (List.getElem?_eq_getElem hi)
  refine ⟨p, _, _, _, rfl, rfl, SqL.of hx, atI_nat (List.getElem?_eq_getElem hi), a, _, ev, SqT.of ha, rfl, _, _, rfl, _, _, rfl, rfl, ?_⟩
  have cpos : 0 < c → 1 ≤ deep := fun h => by
    by_cases g : 0 < deep
    · omega
    · rw [if_neg g] at r1; have := cl (by omega); omega
  refine ⟨_, rfl, rfl, _, rfl, ?_⟩
  refine ite2 (fun e => ?_) (fun e => ?_)
  · have e3 : c = 3 := by
      have := of_decide_eq_true e
      injection this
    have dp1 : 1 ≤ deep := cpos (by omega)
    have b1 : c.toNat * szB ((1 : Int) - 1).toNat + 1 ≤ szB deep.toNat := by
      obtain ⟨m, hm⟩ : ∃ m, deep.toNat = m + 1 := ⟨deep.toNat - 1, by omega⟩
      rw [hm, e3]
      show 3 * 1 + 1 ≤ max _ 4
      omega
    have hB : c.toNat * szB ((1:Int) - 1).toNat + 1 ≤ szB deep.toNat := b1
    refine ⟨_, rfl, (by show 1 ≤ sizeLine; decide), fun t0 g0 => ?_⟩
    have s0 := same_new (o := .tup [.str z]) g0
    have D2 := D1.stay s0
    refine ⟨_, rfl, c, rfl, (by omega), (by omega), fun D hD' => ?_⟩
    refine lc_grow walk_range (fun b => b = d) (fun H => Dice K H d ∧ Works H p) (fun i v H => ∃ t : Tm, IsTm H t v ∧ t.wf ∧ t.size ≤ szB ((1:Int) - 1).toNat) hD' (D2.ne hD') (small1000 (by omega))
      (fun i v H H' k ⟨t, h1, h2⟩ => ⟨t, h1.mono k, h2⟩) (fun H2 H3 e k ⟨a1, a2⟩ => ⟨a1.mono k fun o => e d o (Ne.symm (D2.ne hD')), a2.mono k fun o => e p o ?_⟩) (fun _ _ => trivial) ⟨D2, W1.mono (Tk.same s0) fun o => s0 p o⟩ ?_ gName_mono ?_
    · intro e
      have := s0 p _ hx
      rw [e, hD'] at this
      cases this
    · rintro i x H2 H3 hi2 ⟨iD, iW⟩ k2 t2 ⟨rfl, rfl⟩
      refine ⟨rfl, fun Qy qy => ?_⟩
      refine ⟨_, rfl, _, rfl, _, rfl, _, _, rfl, rfl, d, p, (1:Int) - 1, rfl, (by omega), (by omega), iD, iW, hpd, fun v t H4 k4 D4 it wf sz => ?_⟩
      exact qy v H4 k4 (k4.tk iD) ⟨D4, iW.mono (k4.tk iD) fun o => k4 p o hpd⟩ ⟨t, it, wf, sz⟩
    · rintro H2 acc k2 t2 ⟨iD, iW⟩ hacc lacc hR
      obtain ⟨ts, i1, i2, i3⟩ := tms_of hR
      have lts : ts.length = c.toNat := by rw [i2, lacc]
      have wfs : Tm.wfs ts := Tm.wfs_of fun t m => by
        obtain ⟨j, hj⟩ := List.getElem?_of_mem m
        exact (i3 j t hj).1
      have szs : Tm.sizes ts ≤ ts.length * szB ((1:Int) - 1).toNat := sizes_le fun t m => by
        obtain ⟨j, hj⟩ := List.getElem?_of_mem m
        exact (i3 j t hj).2
      have wft : (Tm.mk z ts).wf := by
        simp only [Tm.wf]
        exact ⟨hz, by omega, wfs⟩
      have szt : (Tm.mk z ts).size ≤ szB deep.toNat := by
        simp only [Tm.size]
        rw [lts] at szs
        omega
      refine ⟨D, acc, rfl, .inl ⟨SqL.of hacc, fun u hu => ?_⟩⟩
      have s3 := same_new (o := .tup acc) hu
      have e0 : H2 t0 = some (.tup [.str z]) := t2.tup upd_same
      have k5 : Mv d H H2 := ((Kp.same (S := fun b => b = d) sl).trans k1).trans ((Kp.same s0).trans k2)
      refine ⟨t0, u, [.str z], acc, rfl, rfl, SqT.of (s3 _ _ e0), SqT.of upd_same, by simp, ?_, fun e => ?_, fun ne y hy => ?_⟩
      · have := sizeLine_eq
        rw [lacc]
        show 1 + _ ≤ _
        omega
      · subst e
        have : ts = [] := List.eq_nil_of_length_eq_zero (by rw [i2]; rfl)
        subst this
        refine q _ (Tm.mk z []) _ (k5.trans (Kp.same s3)) (iD.stay s3) ?_ wft szt
        simp only [IsTm]
        exact ⟨t0, [], rfl, s3 _ _ e0, IsTms.nil⟩
      · have s4 := same_new (o := .tup ([.str z] ++ acc)) hy
        refine q _ (Tm.mk z ts) _ (k5.trans (Kp.same (s3.trans s4))) (iD.stay (s3.trans s4)) ?_ wft szt
        simp only [IsTm]
        exact ⟨y, acc, rfl, upd_same, i1.mono (Tk.same (s3.trans s4))⟩
  · have e3 : c ≠ 3 := fun h => e (decide_eq_true (by rw [h]))
    have b1 : c.toNat * szB (deep - 1).toNat + 1 ≤ szB deep.toNat := by
      by_cases g : 0 < c
      · obtain ⟨m, hm⟩ : ∃ m, deep.toNat = m + 1 := ⟨deep.toNat - 1, by have := cpos g; omega⟩
        have hm2 : (deep - 1).toNat = m := by omega
        rw [hm, hm2]
        show c.toNat * szB m + 1 ≤ max (1 + 2 * szB m) 4
        have : c.toNat = 1 ∨ c.toNat = 2 := by omega
        rcases this with h | h <;> rw [h] <;> omega
      · have : c.toNat = 0 := by omega
        rw [this]
        have := szB_pos deep.toNat
        omega
    have hB : c.toNat * szB (deep - 1).toNat + 1 ≤ szB deep.toNat := b1
    refine ⟨_, rfl, (by show 1 ≤ sizeLine; decide), fun t0 g0 => ?_⟩
    have s0 := same_new (o := .tup [.str z]) g0
    have D2 := D1.stay s0
    refine ⟨_, rfl, c, rfl, (by omega), (by omega), fun D hD' => ?_⟩
    refine lc_grow walk_range (fun b => b = d) (fun H => Dice K H d ∧ Works H p) (fun i v H => ∃ t : Tm, IsTm H t v ∧ t.wf ∧ t.size ≤ szB (deep - 1).toNat) hD' (D2.ne hD') (small1000 (by omega))
      (fun i v H H' k ⟨t, h1, h2⟩ => ⟨t, h1.mono k, h2⟩) (fun H2 H3 e k ⟨a1, a2⟩ => ⟨a1.mono k fun o => e d o (Ne.symm (D2.ne hD')), a2.mono k fun o => e p o ?_⟩) (fun _ _ => trivial) ⟨D2, W1.mono (Tk.same s0) fun o => s0 p o⟩ ?_ gName_mono ?_
    · intro e
      have := s0 p _ hx
      rw [e, hD'] at this
      cases this
    · rintro i x H2 H3 hi2 ⟨iD, iW⟩ k2 t2 ⟨rfl, rfl⟩
      refine ⟨rfl, fun Qy qy => ?_⟩
      refine ⟨_, rfl, _, rfl, _, rfl, _, _, rfl, rfl, d, p, deep - 1, rfl, (by omega), (by omega), iD, iW, hpd, fun v t H4 k4 D4 it wf sz => ?_⟩
      exact qy v H4 k4 (k4.tk iD) ⟨D4, iW.mono (k4.tk iD) fun o => k4 p o hpd⟩ ⟨t, it, wf, sz⟩
    · rintro H2 acc k2 t2 ⟨iD, iW⟩ hacc lacc hR
      obtain ⟨ts, i1, i2, i3⟩ := tms_of hR
      have lts : ts.length = c.toNat := by rw [i2, lacc]
      have wfs : Tm.wfs ts := Tm.wfs_of fun t m => by
        obtain ⟨j, hj⟩ := List.getElem?_of_mem m
        exact (i3 j t hj).1
      have szs : Tm.sizes ts ≤ ts.length * szB (deep - 1).toNat := sizes_le fun t m => by
        obtain ⟨j, hj⟩ := List.getElem?_of_mem m
        exact (i3 j t hj).2
      have wft : (Tm.mk z ts).wf := by
        simp only [Tm.wf]
        exact ⟨hz, by omega, wfs⟩
      have szt : (Tm.mk z ts).size ≤ szB deep.toNat := by
        simp only [Tm.size]
        rw [lts] at szs
        omega
      refine ⟨D, acc, rfl, .inl ⟨SqL.of hacc, fun u hu => ?_⟩⟩
      have s3 := same_new (o := .tup acc) hu
      have e0 : H2 t0 = some (.tup [.str z]) := t2.tup upd_same
      have k5 : Mv d H H2 := ((Kp.same (S := fun b => b = d) sl).trans k1).trans ((Kp.same s0).trans k2)
      refine ⟨t0, u, [.str z], acc, rfl, rfl, SqT.of (s3 _ _ e0), SqT.of upd_same, by simp, ?_, fun e => ?_, fun ne y hy => ?_⟩
      · have := sizeLine_eq
        rw [lacc]
        show 1 + _ ≤ _
        omega
      · subst e
        have : ts = [] := List.eq_nil_of_length_eq_zero (by rw [i2]; rfl)
        subst this
        refine q _ (Tm.mk z []) _ (k5.trans (Kp.same s3)) (iD.stay s3) ?_ wft szt
        simp only [IsTm]
        exact ⟨t0, [], rfl, s3 _ _ e0, IsTms.nil⟩
      · have s4 := same_new (o := .tup ([.str z] ++ acc)) hy
        refine q _ (Tm.mk z ts) _ (k5.trans (Kp.same (s3.trans s4))) (iD.stay (s3.trans s4)) ?_ wft szt
        simp only [IsTm]
        exact ⟨y, acc, rfl, upd_same, i1.mono (Tk.same (s3.trans s4))⟩
theorem ok_term (m_int : mg "int" = none) (m_range : mg "range" = none) (m_tuple : mg "tuple" = none) (A : FAt K mg "_law_term" s_l_term ["_law_d", "_law_works_here", "_law_deep"])
    (h_l_off : Has P w K mg base CX0 2 "_law_off" ["_law_d", "_law_most"] (spOff K)) : ∀ n, Has P w K mg base CX0 (n + 2) "_law_term" ["_law_d", "_law_works_here", "_law_deep"] (spTerm K n)
  | 0 => (Has.none (CX := CX0) (sp := spTerm K 0) A fun vs H Q E h => by
      obtain ⟨d, p, deep, _, h0, h1, _⟩ := h
      omega).mono (by omega)
  | n + 1 => ok_term1 m_int m_range m_tuple A h_l_off (ok_term m_int m_range m_tuple A h_l_off n)
end
end Ab
/-! Terms as texts. -/
namespace Ab
open PySem PySem.Spec PyProof.Rows L2
mutual
def Tm.txt : Tm → List Nat
  | .mk n ps => n.cps.toList ++ (if ps.isEmpty then [] else 40 :: (TL.joinL [44] (Tm.txts ps) ++ [41]))
def Tm.txts : List Tm → List (List Nat)
  | [] => []
  | t :: ts => t.txt :: Tm.txts ts
end
theorem Tm.txts_map : ∀ ts : List Tm, Tm.txts ts = ts.map Tm.txt
  | [] => rfl
  | t :: ts => by simp only [Tm.txts, List.map_cons, Tm.txts_map ts]
theorem joinL_len (S : List Nat) : ∀ ls : List (List Nat), (TL.joinL S ls).length ≤ (ls.map List.length).sum + ls.length * S.length
  | [] => by simp [TL.joinL]
  | [p] => by simp [TL.joinL]
  | p :: q :: r => by
    have ih := joinL_len S (q :: r)
    simp only [TL.joinL, List.length_append, List.map_cons, List.sum_cons, List.length_cons, Nat.succ_mul] at ih ⊢
    omega
mutual
theorem Tm.txt_len : ∀ t : Tm, t.wf → t.txt.length + 1 ≤ 9 * t.size
  | .mk n ps, h => by
    simp only [Tm.wf] at h
    have h1 := h.1.2.1
    have h2 := Tm.txts_len ps h.2.2
    simp only [Tm.txt, Tm.size, List.length_append]
    split
    · simp only [List.length_nil]; omega
    · have h3 := joinL_len [44] (Tm.txts ps)
      simp only [List.length_cons, List.length_append, List.length_nil] at h3 ⊢
      omega
theorem Tm.txts_len : ∀ ts : List Tm, Tm.wfs ts → ((Tm.txts ts).map List.length).sum + (Tm.txts ts).length ≤ 9 * Tm.sizes ts
  | [], _ => by simp [Tm.txts]
  | t :: ts, h => by
    simp only [Tm.wfs] at h
    have h1 := Tm.txt_len t h.1
    have h2 := Tm.txts_len ts h.2
    simp only [Tm.txts, Tm.sizes, List.map_cons, List.sum_cons, List.length_cons]
    have := t.size_pos
    omega
end
/-- values told one by one -/
theorem vals_of {α : Type} {f : α → V} {P : Nat → α → Prop} : ∀ {acc : List V}, (∀ i y, acc[i]? = some y → ∃ z, y = f z ∧ P i z) → ∃ ys : List α, acc = ys.map f ∧ ys.length = acc.length ∧ ∀ i z, ys[i]? = some z → P i z
  | [], _ => ⟨[], rfl, rfl, fun i z e => by simp at e⟩
  | v :: vs, h => by
    obtain ⟨z, h1, h2⟩ := h 0 v rfl
    obtain ⟨zs, g1, g2, g3⟩ := vals_of (f := f) (P := fun i => P (i + 1)) (acc := vs) fun i y e => h (i + 1) y (by simpa using e)
    refine ⟨z :: zs, by rw [List.map_cons, h1, g1], by simp [g2], fun i u e => ?_⟩
    cases i with
    | zero => simp at e; subst e; exact h2
    | succ i => exact g3 i u (by simpa using e)
theorem slen (z : Str) : z.length = z.cps.toList.length := Array.length_toList.symm
theorem tla (a b : Str) : (a ++ b).cps.toList = a.cps.toList ++ b.cps.toList := TL.tl_append a b
theorem sla (a b : Str) : (a ++ b).length = a.length + b.length := by rw [slen, tla, List.length_append, ← slen, ← slen]
end Ab
/-! Terms read. -/
namespace Ab
open PySem PySem.Spec PyProof.Rows L2
def nmB (l : List Nat) : Bool := decide (1 ≤ l.length) && decide (l.length ≤ 6) && l.all isLet
theorem nmB_iff {l : List Nat} : nmB l = true ↔ IsNmL l := by
  unfold nmB IsNmL
  rw [Bool.and_eq_true, Bool.and_eq_true, decide_eq_true_eq, decide_eq_true_eq, List.all_eq_true, and_assoc]
/-- what behind a name tells: the parts, or what is left -/
def afterName (f : List Nat → Option (List Tm × List Nat)) (nm : List Nat) (r : List Nat) : Option (Tm × List Nat) :=
  match r with
  | 40 :: r' => (f r').bind fun x => if x.1.length ≤ 3 then some (.mk ⟨nm.toArray⟩ x.1, x.2) else none
  | r => some (.mk ⟨nm.toArray⟩ [], r)
def afterPart (f : List Nat → Option (List Tm × List Nat)) (x : Tm × List Nat) : Option (List Tm × List Nat) :=
  match x.2 with
  | 44 :: r => (f r).bind fun y => some (x.1 :: y.1, y.2)
  | 41 :: r => some ([x.1], r)
  | _ => none
mutual
def pT : Nat → List Nat → Option (Tm × List Nat)
  | 0, _ => none
  | n + 1, l => if nmB (l.takeWhile isLet) = true then afterName (pP n) (l.takeWhile isLet) (l.dropWhile isLet) else none
def pP : Nat → List Nat → Option (List Tm × List Nat)
  | 0, _ => none
  | n + 1, l => (pT n l).bind (afterPart (pP n))
end
theorem len_tw (l : List Nat) : (l.takeWhile isLet).length + (l.dropWhile isLet).length = l.length := by
  rw [← List.length_append, List.takeWhile_append_dropWhile]
theorem nmB_pos {l : List Nat} (h : nmB l = true) : 1 ≤ l.length := (nmB_iff.mp h).1
theorem prog : ∀ n l, (∀ t r, pT n l = some (t, r) → r.length < l.length) ∧ (∀ ps r, pP n l = some (ps, r) → r.length < l.length) := by
  intro n
  induction n with
  | zero => intro l; exact ⟨fun t r h => by simp [pT] at h, fun t r h => by simp [pP] at h⟩
  | succ n ih =>
    intro l
    constructor
    · intro t r h
      simp only [pT] at h
      split at h
      · rename_i hn
        have h1 := nmB_pos hn
        have h2 := len_tw l
        unfold afterName at h
        split at h
        · rename_i r' e
          rw [e, List.length_cons] at h2
          cases hp : pP n r' with
          | none => rw [hp] at h; simp at h
          | some x =>
            rw [hp] at h
            simp only [Option.bind_some] at h
            split at h
            · injection h with h; injection h with _ h; subst h
              have := (ih r').2 x.1 x.2 hp
              omega
            · cases h
        · injection h with h; injection h with _ h; subst h
          omega
      · cases h
    · intro ps r h
      simp only [pP] at h
      cases ht : pT n l with
      | none => rw [ht] at h; simp at h
      | some x =>
        rw [ht] at h
        simp only [Option.bind_some] at h
        have h1 := (ih l).1 x.1 x.2 ht
        unfold afterPart at h
        split at h
        · rename_i r' e
          cases hp : pP n r' with
          | none => rw [hp] at h; simp at h
          | some y =>
            rw [hp] at h
            simp only [Option.bind_some] at h
            injection h with h; injection h with _ h; subst h
            have := (ih r').2 y.1 y.2 hp
            rw [e, List.length_cons] at h1
            omega
        · rename_i r' e
          injection h with h; injection h with _ h; subst h
          rw [e, List.length_cons] at h1
          omega
        · cases h
theorem fuel : ∀ n m l, (2 * l.length < n → 2 * l.length < m → pT n l = pT m l) ∧ (2 * l.length + 1 < n → 2 * l.length + 1 < m → pP n l = pP m l) := by
  intro n
  induction n with
  | zero => intro m l; exact ⟨fun h => by omega, fun h => by omega⟩
  | succ n ih =>
    intro m l
    cases m with
    | zero => exact ⟨fun _ h => by omega, fun _ h => by omega⟩
    | succ m =>
      constructor
      · intro h1 h2
        simp only [pT]
        split
        · rename_i hn
          have g1 := nmB_pos hn
          have g2 := len_tw l
          unfold afterName
          split
          · rename_i r' e
            rw [e, List.length_cons] at g2
            rw [(ih m r').2 (by omega) (by omega)]
          · rfl
        · rfl
      · intro h1 h2
        simp only [pP]
        rw [(ih m l).1 (by omega) (by omega)]
        cases ht : pT m l with
        | none => rfl
        | some x =>
          simp only [Option.bind_some]
          have h1 := (prog m l).1 x.1 x.2 ht
          unfold afterPart
          split
          · rename_i r' e
            rw [e, List.length_cons] at h1
            rw [(ih m r').2 (by omega) (by omega)]
          · rfl
          · rfl
/-- the term that begins a text, and what is left; the parts that begin a text, and what is left behind their bracket -/
def T (l : List Nat) : Option (Tm × List Nat) := pT (2 * l.length + 1) l
def PP (l : List Nat) : Option (List Tm × List Nat) := pP (2 * l.length + 2) l
theorem T_eq (l : List Nat) : T l = if nmB (l.takeWhile isLet) = true then afterName PP (l.takeWhile isLet) (l.dropWhile isLet) else none := by
  unfold T
  simp only [pT]
  split
  · rename_i hn
    have g1 := nmB_pos hn
    have g2 := len_tw l
    unfold afterName
    split
    · rename_i r' e
      rw [e, List.length_cons] at g2
      unfold PP
      rw [(fuel (2 * l.length) (2 * r'.length + 2) r').2 (by omega) (by omega)]
    · rfl
  · rfl
theorem PP_eq (l : List Nat) : PP l = (T l).bind (afterPart PP) := by
  show pP (2 * l.length + 2) l = (T l).bind (afterPart PP)
  simp only [pP]
  show (pT (2 * l.length + 1) l).bind (afterPart (pP (2 * l.length + 1))) = (pT (2 * l.length + 1) l).bind (afterPart PP)
  cases ht : pT (2 * l.length + 1) l with
  | none => rfl
  | some x =>
    have h1 := (prog _ l).1 x.1 x.2 ht
    show afterPart (pP (2 * l.length + 1)) x = afterPart PP x
    unfold afterPart
    split
    · rename_i r' e
      rw [e, List.length_cons] at h1
      rw [(fuel (2 * l.length + 1) (2 * r'.length + 2) r').2 (by omega) (by omega)]
      rfl
    · rfl
    · rfl
theorem T_prog {l : List Nat} {t : Tm} {r : List Nat} (h : T l = some (t, r)) : r.length < l.length := (prog _ l).1 t r h
theorem PP_prog {l : List Nat} {t : List Tm} {r : List Nat} (h : PP l = some (t, r)) : r.length < l.length := (prog _ l).2 t r h
theorem txt_cons (n : Str) (p : Tm) (ps : List Tm) : (Tm.mk n (p :: ps)).txt = n.cps.toList ++ 40 :: (TL.joinL [44] (Tm.txts (p :: ps)) ++ [41]) := by simp only [Tm.txt, List.isEmpty_cons, Bool.false_eq_true, if_false]
theorem txt_nil (n : Str) : (Tm.mk n []).txt = n.cps.toList := by simp [Tm.txt]
/-- what is read is written so -/
theorem T_back : ∀ k l, l.length ≤ k → (∀ t r, T l = some (t, r) → t.wf ∧ l = t.txt ++ r) ∧ (∀ ps r, PP l = some (ps, r) → ps ≠ [] ∧ Tm.wfs ps ∧ l = TL.joinL [44] (Tm.txts ps) ++ 41 :: r) := by
  intro k
  induction k with
  | zero =>
    intro l hl
    have e : l = [] := List.eq_nil_of_length_eq_zero (by omega)
    subst e
    exact ⟨fun t r h => by have := T_prog h; simp at this, fun t r h => by have := PP_prog h; simp at this⟩
  | succ k ih =>
    intro l hl
    have first : ∀ t r, T l = some (t, r) → t.wf ∧ l = t.txt ++ r := by
      intro t r h
      rw [T_eq] at h
      split at h
      · rename_i hn
        have hn2 := nmB_iff.mp hn
        have g2 := len_tw l
        have g1 := hn2.1
        unfold afterName at h
        split at h
        · rename_i r' e
          rw [e, List.length_cons] at g2
          cases hp : PP r' with
          | none => rw [hp] at h; simp at h
          | some x =>
            rw [hp] at h
            simp only [Option.bind_some] at h
            split at h
            · rename_i h3
              injection h with h; injection h with h5 h6; subst h5; subst h6
              obtain ⟨ne, w, eq⟩ := (ih r' (by omega)).2 x.1 x.2 hp
              obtain ⟨ps, r2⟩ := x
              cases ps with
              | nil => exact absurd rfl ne
              | cons p ps =>
                refine ⟨by simp only [Tm.wf]; exact ⟨hn2, h3, w⟩, ?_⟩
                rw [txt_cons]
                conv => lhs; rw [← List.takeWhile_append_dropWhile (p := isLet) (l := l), e, eq]
                simp
            · cases h
        · injection h with h; injection h with h5 h6; subst h5; subst h6
          refine ⟨by simp only [Tm.wf]; exact ⟨hn2, by simp, by simp [Tm.wfs]⟩, ?_⟩
          rw [txt_nil]
          exact (List.takeWhile_append_dropWhile (p := isLet) (l := l)).symm
      · cases h
    refine ⟨first, ?_⟩
    intro ps r h
    rw [PP_eq] at h
    cases ht : T l with
    | none => rw [ht] at h; simp at h
    | some x =>
      rw [ht] at h
      simp only [Option.bind_some] at h
      obtain ⟨t, r1⟩ := x
      obtain ⟨w1, e1⟩ := first t r1 ht
      have h1 := T_prog ht
      unfold afterPart at h
      split at h
      · rename_i r' e
        have e' : r1 = 44 :: r' := e
        cases hp : PP r' with
        | none => rw [hp] at h; simp at h
        | some y =>
          rw [hp] at h
          simp only [Option.bind_some] at h
          injection h with h; injection h with h5 h6; subst h5; subst h6
          rw [e', List.length_cons] at h1
          obtain ⟨ne, w, eq⟩ := (ih r' (by omega)).2 y.1 y.2 hp
          obtain ⟨ys, r2⟩ := y
          refine ⟨by simp, by simp only [Tm.wfs]; exact ⟨w1, w⟩, ?_⟩
          cases ys with
          | nil => exact absurd rfl ne
          | cons y ys =>
            rw [e1, e', eq]
            simp [Tm.txts, TL.joinL]
      · rename_i r' e
        have e' : r1 = 41 :: r' := e
        injection h with h; injection h with h5 h6; subst h5; subst h6
        refine ⟨by simp, by simp only [Tm.wfs]; exact ⟨w1, trivial⟩, ?_⟩
        rw [e1, e']
        simp [Tm.txts, TL.joinL]
      · cases h
theorem T_wf {l : List Nat} {t : Tm} {r : List Nat} (h : T l = some (t, r)) : t.wf := ((T_back _ l (Nat.le_refl _)).1 t r h).1
theorem T_txt {l : List Nat} {t : Tm} {r : List Nat} (h : T l = some (t, r)) : l = t.txt ++ r := ((T_back _ l (Nat.le_refl _)).1 t r h).2
theorem PP_wf {l : List Nat} {ps : List Tm} {r : List Nat} (h : PP l = some (ps, r)) : Tm.wfs ps := ((T_back _ l (Nat.le_refl _)).2 ps r h).2.1
theorem PP_txt {l : List Nat} {ps : List Tm} {r : List Nat} (h : PP l = some (ps, r)) : l = TL.joinL [44] (Tm.txts ps) ++ 41 :: r := ((T_back _ l (Nat.le_refl _)).2 ps r h).2.2
/-- behind a name no letter and no bracket stands -/
def Ends0 (r : List Nat) : Prop := ∀ c r', r = c :: r' → isLet c = false ∧ c ≠ 40
theorem tw_name {n r : List Nat} (hn : ∀ c ∈ n, isLet c = true) (hr : ∀ c r', r = c :: r' → isLet c = false) : (n ++ r).takeWhile isLet = n ∧ (n ++ r).dropWhile isLet = r := by
  induction n with
  | nil =>
    cases r with
    | nil => exact ⟨rfl, rfl⟩
    | cons c r' =>
      have := hr c r' rfl
      simp [List.takeWhile_cons, List.dropWhile_cons, this]
  | cons a n ih =>
    have ha := hn a List.mem_cons_self
    have := ih fun c hc => hn c (List.mem_cons_of_mem _ hc)
    simp [List.takeWhile_cons, List.dropWhile_cons, ha, this.1, this.2]
mutual
/-- what is written is read so -/
theorem T_of : ∀ (t : Tm) (r : List Nat), t.wf → Ends0 r → T (t.txt ++ r) = some (t, r)
  | .mk n [], r, h, hr => by
    simp only [Tm.wf] at h
    rw [txt_nil, T_eq]
    obtain ⟨e1, e2⟩ := tw_name h.1.2.2 fun c r' e => (hr c r' e).1
    rw [e1, e2, if_pos (nmB_iff.mpr h.1)]
    unfold afterName
    split
    · rename_i r'
      exact absurd rfl (hr 40 r' rfl).2
    · rfl
  | .mk n (p :: ps), r, h, hr => by
    simp only [Tm.wf] at h
    rw [txt_cons, T_eq]
    rw [List.append_assoc, List.cons_append]
    obtain ⟨e1, e2⟩ := tw_name (r := 40 :: (TL.joinL [44] (Tm.txts (p :: ps)) ++ [41] ++ r)) h.1.2.2 fun c r' e => by
      injection e with e3 _
      subst e3
      decide
    rw [e1, e2, if_pos (nmB_iff.mpr h.1)]
    unfold afterName
    simp only
    have := PP_of (p :: ps) r (by simp) h.2.2
    rw [List.append_assoc, List.singleton_append, this]
    simp only [Option.bind_some]
    rw [if_pos h.2.1]
theorem PP_of : ∀ (ps : List Tm) (r : List Nat), ps ≠ [] → Tm.wfs ps → PP (TL.joinL [44] (Tm.txts ps) ++ 41 :: r) = some (ps, r)
  | [], r, n, h => absurd rfl n
  | [p], r, _, h => by
    simp only [Tm.wfs] at h
    simp only [Tm.txts, TL.joinL]
    rw [PP_eq, T_of p (41 :: r) h.1 fun c r' e => by injection e with e3 _; subst e3; decide]
    rfl
  | p :: q :: ps, r, _, h => by
    simp only [Tm.wfs] at h
    have ih := PP_of (q :: ps) r (by simp) (by simp only [Tm.wfs]; exact h.2)
    simp only [Tm.txts, TL.joinL] at ih ⊢
    rw [List.append_assoc, List.append_assoc, List.singleton_append]
    rw [PP_eq, T_of p (44 :: _) h.1 fun c r' e => by injection e with e3 _; subst e3; decide]
    simp only [Option.bind_some, afterPart]
    rw [ih]
    rfl
end
/-- how many brackets and commas -/
def cnt (l : List Nat) : Nat := l.count 40 + l.count 44
theorem cnt_append (a b : List Nat) : cnt (a ++ b) = cnt a + cnt b := by unfold cnt; rw [List.count_append, List.count_append]; omega
theorem cnt_name {l : List Nat} (h : ∀ c ∈ l, isLet c = true) : cnt l = 0 := by
  unfold cnt
  rw [List.count_eq_zero.mpr fun m => by have := h 40 m; revert this; decide, List.count_eq_zero.mpr fun m => by have := h 44 m; revert this; decide]
mutual
theorem Tm.cnt_txt : ∀ t : Tm, t.wf → cnt t.txt + 1 = t.size
  | .mk n [], h => by
    simp only [Tm.wf] at h
    rw [txt_nil, cnt_name h.1.2.2]
    simp [Tm.size, Tm.sizes]
  | .mk n (p :: ps), h => by
    simp only [Tm.wf] at h
    have := Tm.cnt_txts (p :: ps) (by simp) h.2.2
    rw [txt_cons, cnt_append, cnt_name h.1.2.2, show (40 :: (TL.joinL [44] (Tm.txts (p :: ps)) ++ [41])) = [40] ++ TL.joinL [44] (Tm.txts (p :: ps)) ++ [41] by simp, cnt_append, cnt_append]
    have e1 : cnt [40] = 1 := by decide
    have e2 : cnt [41] = 0 := by decide
    simp only [Tm.size]
    omega
theorem Tm.cnt_txts : ∀ (ps : List Tm), ps ≠ [] → Tm.wfs ps → cnt (TL.joinL [44] (Tm.txts ps)) + 1 = Tm.sizes ps
  | [], n, h => absurd rfl n
  | [p], _, h => by
    simp only [Tm.wfs] at h
    have := Tm.cnt_txt p h.1
    simp only [Tm.txts, TL.joinL, Tm.sizes]
    omega
  | p :: q :: ps, _, h => by
    simp only [Tm.wfs] at h
    have h1 := Tm.cnt_txt p h.1
    have h2 := Tm.cnt_txts (q :: ps) (by simp) (by simp only [Tm.wfs]; exact h.2)
    simp only [Tm.txts, TL.joinL, Tm.sizes] at h2 ⊢
    rw [cnt_append, cnt_append]
    have e1 : cnt [44] = 1 := by decide
    omega
end
/-- the whole text is a term of at most forty names -/
def RD (l : List Nat) : Option Tm := match T l with
  | some (t, []) => if t.size ≤ 40 then some t else none
  | _ => none
end Ab
namespace Ab
open PySem PySem.Spec PyProof.Rows L2
open PySem.StrLaws PySem.Builtin.Str
theorem subAt_one (x : Str) (c i : Nat) : subAt x ⟨#[c]⟩ i = true ↔ x.cps.toList[i]? = some c := by
  rw [subAt_eq, beq_iff_eq]
  show (x.cps.toList.drop i).take 1 = [c] ↔ _
  cases h : x.cps.toList[i]? with
  | none =>
    rw [List.drop_eq_nil_of_le (by rw [List.getElem?_eq_none_iff] at h; exact h)]
    simp
  | some d =>
    obtain ⟨h1, h2⟩ := List.getElem?_eq_some_iff.mp h
    rw [List.drop_eq_getElem_cons h1, h2]
    simp
theorem occ_count (x : Str) (c : Nat) : ∀ (j i : Nat) (st : Array Nat × Nat), st.fst.size ≤ i → st.snd ≤ i → i + j ≤ x.length + 1 →
    (forIn (List.range' i j) st (occBody x ⟨#[c]⟩ x.length (x.length + 1))).run.fst.size = st.fst.size + ((x.cps.toList.drop i).take j).count c := by
  intro j
  induction j with
  | zero => intro i st _ _ _; simp
  | succ j ih =>
    intro i st h1 h2 h3
    have el : ((x.cps.toList.drop i).take (j + 1)).count c = (if x.cps.toList[i]? = some c then 1 else 0) + ((x.cps.toList.drop (i + 1)).take j).count c := by
      by_cases hi : i < x.cps.toList.length
      · rw [List.drop_eq_getElem_cons hi, List.take_succ_cons, List.count_cons, List.getElem?_eq_getElem hi]
        generalize x.cps.toList[i] = d
        by_cases e : d = c
        · subst e; simp; omega
        · simp [e]
      · rw [List.drop_eq_nil_of_le (by omega), List.drop_eq_nil_of_le (by omega), List.getElem?_eq_none (by omega)]
        simp
    rw [el, List.range'_succ, List.forIn_cons]
    unfold occBody
    by_cases hc : x.cps.toList[i]? = some c
    · have hi := (List.getElem?_eq_some_iff.mp hc).1
      rw [← slen] at hi
      rw [if_pos ⟨⟨⟨by omega, h2⟩, by show i + 1 ≤ x.length; omega⟩, (subAt_one x c i).mpr hc⟩, if_pos hc]
      have := ih (i + 1) (st.fst.push i, i + 1) (by simp; omega) (Nat.le_refl _) (by omega)
      simp only [Array.size_push] at this
      exact this.trans (by omega)
    · rw [if_neg (fun h => hc ((subAt_one x c i).mp h.2)), if_neg hc]
      have := ih (i + 1) st (by omega) (by omega) (by omega)
      exact this.trans (by omega)
theorem count_one (x : Str) (c : Nat) : Txt.count x ⟨#[c]⟩ = (x.cps.toList.count c : Nat) := by
  unfold Txt.count
  rw [occ_eq, Array.length_toList]
  have := occ_count x c (x.length + 1 - 0) 0 (#[], 0) (Nat.le_refl _) (Nat.le_refl _) (by omega)
  rw [this]
  have e : x.cps.toList.take (x.length + 1 - 0) = x.cps.toList := List.take_of_length_le (by rw [← slen]; omega)
  rw [List.drop_zero, e]
  simp
/-! ### slices of texts -/
theorem cutS_nat (z : Str) (a b : Nat) : (cutS z (some (a : Int)) (some (b : Int))).cps.toList = (z.cps.toList.drop a).take (b - a) := by
  unfold cutS
  show ((z.cps.toList.drop (HT.sIx z.length 0 (some (a : Int)))).take (HT.sIx z.length z.length (some (b : Int)) - HT.sIx z.length 0 (some (a : Int)))) = _
  rw [HT.sIx_nat, HT.sIx_nat]
  have hl := slen z
  by_cases h : a ≤ z.length
  · rw [Nat.min_eq_left h]
    by_cases h2 : b ≤ z.length
    · rw [Nat.min_eq_left h2]
    · rw [Nat.min_eq_right (by omega), List.take_of_length_le (by rw [List.length_drop]; omega), List.take_of_length_le (by rw [List.length_drop]; omega)]
  · rw [List.drop_eq_nil_of_le (by rw [Nat.min_eq_right (by omega)]; omega), List.drop_eq_nil_of_le (by omega)]
    simp
theorem str_ext {a b : Str} (h : a.cps.toList = b.cps.toList) : a = b := Str.ext' (Array.toList_inj.mp h)
/-- the sign at a place, as a text of one -/
theorem cut_sign (z : Str) (e c : Nat) (s : Str) (hs : s.cps.toList = [c]) : (cutS z (some (e : Int)) (some ((e : Int) + 1)) = s) ↔ ∃ r, z.cps.toList.drop e = c :: r := by
  have h := cutS_nat z e (e + 1)
  rw [show (((e + 1 : Nat)) : Int) = (e : Int) + 1 by omega, show e + 1 - e = 1 by omega] at h
  constructor
  · intro q
    rw [q, hs] at h
    cases hd : z.cps.toList.drop e with
    | nil => rw [hd] at h; simp at h
    | cons d r => rw [hd] at h; simp at h; exact ⟨r, by rw [h]⟩
  · rintro ⟨r, q⟩
    apply str_ext
    rw [h, q, hs]
    rfl
/-! ### how far the letters go -/
theorem tw_lt : ∀ (l : List Nat) (k : Nat), k < (l.takeWhile isLet).length → ∃ c, l[k]? = some c ∧ isLet c = true
  | [], k, h => by simp at h
  | a :: l, k, h => by
    rw [List.takeWhile_cons] at h
    split at h
    · rename_i ha
      cases k with
      | zero => exact ⟨a, rfl, ha⟩
      | succ k =>
        obtain ⟨c, h1, h2⟩ := tw_lt l k (by simpa using h)
        exact ⟨c, by simpa using h1, h2⟩
    · simp at h
theorem tw_eq : ∀ (l : List Nat) (c : Nat), l[(l.takeWhile isLet).length]? = some c → isLet c = false
  | [], c, h => by simp at h
  | a :: l, c, h => by
    rw [List.takeWhile_cons] at h
    split at h
    · rename_i ha
      exact tw_eq l c (by simpa using h)
    · rename_i ha
      simp at h
      subst h
      simpa using ha
theorem tw_drop (l : List Nat) : l.drop (l.takeWhile isLet).length = l.dropWhile isLet := by
  conv => lhs; arg 2; rw [← List.takeWhile_append_dropWhile (p := isLet) (l := l)]
  rw [List.drop_left]
theorem tw_take (l : List Nat) : l.take (l.takeWhile isLet).length = l.takeWhile isLet := by
  conv => lhs; arg 2; rw [← List.takeWhile_append_dropWhile (p := isLet) (l := l)]
  rw [List.take_left]
end Ab
/-! isinstance of a caught error, one class or a tuple of them. -/
namespace Ab
open PySem PySem.Spec PyProof.Rows L2
def rIsE1 (K : PySem.W.Frag) (a : Addr) (cls : Value) (d : Option Addr) : List V → Hp → VK → Prop := fun xs H Q => ∃ (D : Addr) (c : V) (cv : Value) (b : Bool), xs = [.ref a, c] ∧ cls = .ref D ∧ d = none ∧ ExcC K D ∧ ClsV c cv ∧ PySem.W.kitOne K (.ref D) cv = some b ∧ Q (.bl b) H
theorem call_isE1 {X : Cx} {a : Addr} {cls : Value} {d : Option Addr} {oe : Obj} {pn : List (Addr × Obj)} (hz : Zc cls d oe) (hf : ∃ vs, oe.data = .fields vs) : CallR (X.suite a ((a, oe) :: pn)) (.builtin "isinstance") (rIsE1 X.K a cls d) := by
  intro pins s σ H xs us Q I r h
  obtain ⟨D, c, cv, b, rfl, rfl, rfl, C, k, e, q⟩ := h
  exact call_isE C hz hf pins s σ H _ us Q I r ⟨c, cv, b, rfl, fun u hu => k.eq hu, e, q⟩
def rIsET (K : PySem.W.Frag) (a : Addr) (cls : Value) (d : Option Addr) : List V → Hp → VK → Prop := fun xs H Q => ∃ (D tp : Addr) (cs : List V) (us : List Value) (b : Bool), xs = [.ref a, .ref tp] ∧ H tp = some (.tup cs) ∧ Paired ClsV cs us ∧ cls = .ref D ∧ d = none ∧ ExcC K D ∧ PySem.W.kitAny K (.ref D) us = some b ∧ Q (.bl b) H
theorem call_isET {X : Cx} {a : Addr} {cls : Value} {d : Option Addr} {oe : Obj} {pn : List (Addr × Obj)} (hz : Zc cls d oe) (hf : ∃ vs, oe.data = .fields vs) : CallR (X.suite a ((a, oe) :: pn)) (.builtin "isinstance") (rIsET X.K a cls d) := by
  intro pins s σ H xs us Q I r h
  obtain ⟨D, tp, cs, ws, b, rfl, hT, k, rfl, rfl, C, e, q⟩ := h
  cases r with
  | cons rx rr =>
    cases rr with
    | cons rt rr =>
      cases rr
      cases rx
      cases rt
      obtain ⟨hget, _⟩ := I.pin (a, oe) (List.mem_append.mpr (.inl List.mem_cons_self))
      obtain ⟨vs, hv⟩ := hf
      have J : PySem.W.InstAt s.heap a oe D none := by
        obtain ⟨oc, od, oda, osl⟩ := oe
        obtain ⟨h1, h2⟩ := hz
        dsimp only at h1 h2 hv
        subst h1 h2 hv
        exact ⟨hget, rfl, rfl, trivial⟩
      obtain ⟨_, its, rv, o, h1, h2, n, h3⟩ := (show ObjOk X.prog X.w H s.heap tp (.tup cs) from I.hok tp _ hT)
      have e3 := ClsV.all k rv
      subst e3
      obtain ⟨oc, od, dt, sl⟩ := o
      simp only at h2 h3
      subst h2 h3
      exact PySem.W.kia_tup (PySem.W.handS_kitx_exc C.hg C.hk C.hs C.hd C.ha C.hn C.ht C.hm) I.kIn J h1 e (fun z => nomatch z) fun tk => ⟨.bl b, H, I.tok tk, rfl, q⟩
end Ab
namespace Ab
open PySem PySem.Spec PyProof.Rows L2
theorem cutS_pre (z : Str) (b : Nat) : (cutS z none (some (b : Int))).cps.toList = z.cps.toList.take b := by
  unfold cutS
  show ((z.cps.toList.drop 0).take (HT.sIx z.length z.length (some (b : Int)) - 0)) = _
  rw [HT.sIx_nat, List.drop_zero, Nat.sub_zero]
  have hl := slen z
  by_cases h : b ≤ z.length
  · rw [Nat.min_eq_left h]
  · rw [Nat.min_eq_right (by omega), List.take_of_length_le (by omega), List.take_of_length_le (by omega)]
theorem cutS_suf (z : Str) (a : Nat) : (cutS z (some (a : Int)) none).cps.toList = z.cps.toList.drop a := by
  unfold cutS
  show ((z.cps.toList.drop (HT.sIx z.length 0 (some (a : Int)))).take (z.length - HT.sIx z.length 0 (some (a : Int)))) = _
  rw [HT.sIx_nat]
  have hl := slen z
  by_cases h : a ≤ z.length
  · rw [Nat.min_eq_left h, List.take_of_length_le (by rw [List.length_drop]; omega)]
  · rw [Nat.min_eq_right (by omega), List.drop_eq_nil_of_le (by omega), List.drop_eq_nil_of_le (by omega)]
    simp
theorem cutS_one (z : Str) : (cutS z (some 1) none).cps.toList = z.cps.toList.drop 1 := cutS_suf z 1
theorem cutS_le (z : Str) (a b : Option Int) : (cutS z a b).length ≤ z.length := by
  rw [slen, slen]
  unfold cutS
  show (((z.cps.toList.drop _).take _)).length ≤ _
  exact Nat.le_trans ((List.take_sublist _ _).length_le) ((List.drop_sublist _ _).length_le)
theorem cutS_count (z : Str) (a b : Option Int) (c : Nat) : (cutS z a b).cps.toList.count c ≤ z.cps.toList.count c := by
  unfold cutS
  exact Nat.le_trans ((List.take_sublist _ _).count_le _) ((List.drop_sublist _ _).count_le _)
/-- how a text begins -/
theorem pre_sign (z : Str) (c : Nat) (s : Str) (hs : s.cps.toList = [c]) : (cutS z none (some 1) = s) ↔ ∃ r, z.cps.toList = c :: r := by
  have h := cutS_pre z 1
  rw [show (((1 : Nat)) : Int) = 1 by rfl] at h
  constructor
  · intro q
    rw [q, hs] at h
    cases hd : z.cps.toList with
    | nil => rw [hd] at h; simp at h
    | cons d r => rw [hd] at h; simp at h; exact ⟨r, by rw [h]⟩
  · rintro ⟨r, q⟩
    apply str_ext
    rw [h, q, hs]
    rfl
theorem pre_dec {z : Str} {c : Nat} {s : Str} (hs : s.cps.toList = [c]) {r : List Nat} (h : z.cps.toList = c :: r) : decide (V.str (cutS z none (some 1)) = V.str s) = true := by
  rw [(pre_sign z c s hs).mpr ⟨r, h⟩]
  exact decide_eq_true rfl
theorem pre_dec0 {z : Str} {c : Nat} {s : Str} (hs : s.cps.toList = [c]) (h : ∀ r, z.cps.toList ≠ c :: r) : decide (V.str (cutS z none (some 1)) = V.str s) = false := by
  refine decide_eq_false fun q => ?_
  injection q with q
  obtain ⟨r, hr⟩ := (pre_sign z c s hs).mp q
  exact h r hr
theorem abc_list : (PySem.Str.ofString "abcdefghijklmnopqrstuvwxyz").cps.toList = [97, 98, 99, 100, 101, 102, 103, 104, 105, 106, 107, 108, 109, 110, 111, 112, 113, 114, 115, 116, 117, 118, 119, 120, 121, 122] := by decide +kernel
theorem abc_mem (c : Nat) : decide (c ∈ (PySem.Str.ofString "abcdefghijklmnopqrstuvwxyz").cps.toList) = isLet c := by
  rw [abc_list]
  unfold isLet
  by_cases h : 97 ≤ c ∧ c ≤ 122
  · rw [decide_eq_true h.1, decide_eq_true h.2]
    refine decide_eq_true ?_
    simp only [List.mem_cons, List.not_mem_nil, or_false]
    omega
  · have : (decide (97 ≤ c) && decide (c ≤ 122)) = false := by
      rw [Bool.and_eq_false_iff, decide_eq_false_iff_not, decide_eq_false_iff_not]
      omega
    rw [this]
    refine decide_eq_false fun q => ?_
    simp only [List.mem_cons, List.not_mem_nil, or_false] at q
    omega
theorem nmB_tw (l : List Nat) : nmB (l.takeWhile isLet) = (decide (1 ≤ (l.takeWhile isLet).length) && decide ((l.takeWhile isLet).length ≤ 6)) := by
  unfold nmB
  have : (l.takeWhile isLet).all isLet = true := by
    rw [List.all_eq_true]
    intro c hc
    obtain ⟨k, hk⟩ := List.getElem?_of_mem hc
    have h1 := (List.getElem?_eq_some_iff.mp hk).1
    obtain ⟨c2, g1, g2⟩ := tw_lt l k h1
    have : (l.takeWhile isLet)[k]? = l[k]? := by
      conv => rhs; rw [← List.takeWhile_append_dropWhile (p := isLet) (l := l)]
      rw [List.getElem?_append_left h1]
    rw [← this, hk] at g1
    injection g1 with g1
    rw [g1]
    exact g2
  rw [this, Bool.and_true]
theorem and_stop {c : Bool} {A B : Prop} (hB : B) (hA : c = true → B → A) : if c = true then A else B := by
  cases c with
  | true => exact iteT (hA rfl hB)
  | false => exact iteF hB
theorem or_go {c : Bool} {A B : Prop} (hA : A) (hB : c = false → A → B) : if c = true then A else B := by
  cases c with
  | true => exact iteT hA
  | false => exact iteF (hB rfl hA)
theorem T_count {l : List Nat} {t : Tm} {r : List Nat} (h : T l = some (t, r)) (c : Nat) : r.count c ≤ l.count c := by
  have e := T_txt h
  rw [e, List.count_append]
  omega
theorem sizes_app (a b : List Tm) : Tm.sizes (a ++ b) = Tm.sizes a + Tm.sizes b := by
  induction a with
  | nil => simp [Tm.sizes]
  | cons x a ih => simp only [List.cons_append, Tm.sizes, ih]; omega
/-- what the parts read so far and the rest tell -/
def contP (acc : List Tm) (y : List Nat) : Option (List Tm × List Nat) := match y with
  | 44 :: r => (PP r).map fun x => (acc ++ x.1, x.2)
  | 41 :: r => some (acc, r)
  | _ => none
theorem contP_long {acc : List Tm} {r : List Nat} {nm : Str} (h : 3 < acc.length) : (contP acc r).bind (fun x => if x.1.length ≤ 3 then some (Tm.mk nm x.1, x.2) else none) = none := by
  unfold contP
  split
  · rename_i r'
    cases PP r' with
    | none => rfl
    | some y =>
      simp only [Option.map_some, Option.bind_some]
      rw [if_neg (by rw [List.length_append]; omega)]
  · simp only [Option.bind_some]
    rw [if_neg (by omega)]
  · rfl
theorem contP_step {acc : List Tm} {t : Tm} {r r1 : List Nat} (h : T r1 = some (t, r)) : (PP r1).map (fun x => (acc ++ x.1, x.2)) = contP (acc ++ [t]) r := by
  rw [PP_eq, h]
  simp only [Option.bind_some, afterPart]
  unfold contP
  split
  · rename_i r'
    try simp only
    cases PP r' with
    | none => rfl
    | some y => simp
  · rfl
  · rename_i q1 q2
    first
      | rfl
      | (split
         · exact absurd rfl (q1 _)
         · exact absurd rfl (q2 _)
         · rfl)
end Ab
namespace Ab
open PySem PySem.Spec PyProof.Rows L2
section
variable {P : Program} {w : World} {K : PySem.W.Frag} {mg : Str → Option Value} {base : Heap}
/-! ### the law's own reader -/
def spTaken (n : Nat) : Sp := fun vs H Q _ => ∃ z : Str, vs = [.str z] ∧ z.length ≤ 10000 ∧ z.cps.toList.count 40 < n ∧
  (∀ t r, T z.cps.toList = some (t, r) → ∀ v y p H', Same H H' → IsTm H' t v → y.cps.toList = r → H' p = some (.tup [v, .str y]) → Q (.ref p) H') ∧
  (T z.cps.toList = none → ∀ H', Same H H' → Q .non H')
def TkInv (z nm : Str) (M n : Nat) (r0 : List Nat) (H : Hp) (m : Nat) (σ : L2.St) (H1 : Hp) : Prop := ∃ (acc : List Tm) (vs : List V) (a : Addr) (y : Str) (x : Option V), m = y.length ∧
  σ = [some (.str z), some (.int (M : Int)), some (.ref a), some (.str y), x] ∧ Same H H1 ∧ H1 a = some (.tup (.str nm :: vs)) ∧ IsTms H1 acc vs ∧ acc.length ≤ 3 ∧ y.length ≤ 10000 ∧
  (y.cps.toList.drop 1).count 40 < n ∧ (acc = [] → y.cps.toList = 40 :: r0) ∧ (acc ≠ [] → PP r0 = contP acc y.cps.toList)
theorem ok_taken1 {n : Nat} (m_len : mg "len" = none) (A : FAt K mg "_law_taken" s_l_taken ["_law_text_here"]) (h_l_taken : Has P w K mg base CX0 n "_law_taken" ["_law_text_here"] (spTaken n)) :
    Has P w K mg base CX0 (n + 1) "_law_taken" ["_law_text_here"] (spTaken (n + 1)) := by
  obtain ⟨f_l_taken, d_l_taken, g_l_taken, k_l_taken, b_l_taken, G_l_taken⟩ := h_l_taken
  refine A.ok sc_l_taken (fun vs H Q E h => ?_) (fun f cdv A outer s H vs Q E hr h => ?_)
  · obtain ⟨z, rfl, _⟩ := h; rfl
  obtain ⟨z, rfl, hz, hc, qY, qN⟩ := h
  have hz2 : z.length ≤ sizeLine := by have := sizeLine_eq; omega
  have ll := slen z
  have hTW := len_tw z.cps.toList
  have hnm := tw_take z.cps.toList
  have hdr := tw_drop z.cps.toList
  have hT := T_eq z.cps.toList
  have hB := nmB_tw z.cps.toList
  have hlt := tw_lt z.cps.toList
  have heq := tw_eq z.cps.toList
  have hsub : (z.cps.toList.dropWhile isLet).count 40 ≤ z.cps.toList.count 40 := (List.dropWhile_sublist _).count_le _
  generalize hM : (z.cps.toList.takeWhile isLet).length = M at hTW hnm hdr hB hlt heq
  refine ⟨_, (pss_cons (ps_set (i := 1) sc_l_taken.nd rfl (Or.inl rfl) pe_int)
    (pss_cons (ps_while PassesOwn.never (PW.pt (pw_and (pt_cmpR op_lt (pv 1) (pe_callB call_len_str (by rfl) m_len PySem.boot_len (pa_cons (pv 0) pa_nil)) (nomark _)) (pw_and1 (pt_cmpR op_in_sign (pe_ix ix_str (pv 0) (pv 1) (fun _ _ => rfl)) pe_str rfl))))
    (pss_one (ps_set (i := 1) sc_l_taken.nd rfl (Or.inl rfl) (pe_op op_add (pv 1) pe_int))))
    (pss_cons (ps_if (pt_not (pt_chain op_le op_le pe_int (pv 1) pe_int)) (pss_one (ps_ret pe_non))
    pss_nil)
    (pss_cons (ps_set (i := 2) sc_l_taken.nd rfl (Or.inl rfl) (pe_tup (pa_cons (pe_slice sl_str (pv 0) po_none (po_some (pv 1))) pa_nil)))
    (pss_cons (ps_set (i := 3) sc_l_taken.nd rfl (Or.inl rfl) (pe_slice sl_str (pv 0) (po_some (pv 1)) po_none))
    (pss_cons (ps_if (pt_cmpR op_ne (pe_slice sl_str (pv 3) po_none (po_some pe_int)) pe_str (nomark _)) (pss_one (ps_ret (pe_tup (pa_cons (pv 2) (pa_cons (pv 3) pa_nil)))))
    pss_nil)
    (pss_cons (ps_while PassesOwn.never (PW.pt (pw_or (pt_cmpR op_eq (pe_slice sl_str (pv 3) po_none (po_some pe_int)) pe_str (nomark _)) (pw_or1 (pt_cmpR op_eq (pe_callB call_len_seq (by rfl) m_len PySem.boot_len (pa_cons (pv 2) pa_nil)) pe_int (nomark _)))))
    (pss_cons (ps_set (i := 4) sc_l_taken.nd rfl (Or.inl rfl) (pe_call G_l_taken (hr.mono (by omega)) rfl g_l_taken k_l_taken b_l_taken .nil pass0 (pa_cons (pe_slice sl_str (pv 3) (po_some pe_int) po_none) pa_nil)))
    (pss_cons (ps_if (PW.pt (pw_or (pt_cmpR op_isN (pv 4) pe_non (nomark _)) (pw_or1 (pt_cmpR op_eq (pe_callB call_len_seq (by rfl) m_len PySem.boot_len (pa_cons (pv 2) pa_nil)) pe_int (nomark _))))) (pss_one (ps_ret pe_non))
    pss_nil)
    (pss_cons (ps_set (i := 2) sc_l_taken.nd rfl (Or.inl rfl) (pe_op op_catT (pv 2) (pe_tup (pa_cons (pe_ix ix_tup (pv 4) pe_int (fun _ _ => rfl)) pa_nil))))
    (pss_one (ps_set (i := 3) sc_l_taken.nd rfl (Or.inl rfl) (pe_ix ix_tup (pv 4) pe_int (fun _ _ => rfl))))))))
    (pss_cons (ps_if (pt_cmpR op_ne (pe_slice sl_str (pv 3) po_none (po_some pe_int)) pe_str (nomark _)) (pss_one (ps_ret pe_non))
    pss_nil)
    (pss_one (ps_ret (pe_tup (pa_cons (pv 2) (pa_cons (pe_slice sl_str (pv 3) (po_some pe_int) po_none) pa_nil))))))))))))), ?_⟩
  refine ⟨fun m σ H' => ∃ k : Nat, m = M - k ∧ k ≤ M ∧ σ = [some (.str z), some (.int (k : Int)), none, none, none] ∧ H' = H, ⟨M, 0, rfl, Nat.zero_le _, rfl, rfl⟩, ?_⟩
  rintro m σ H' ⟨k, rfl, hk, rfl, rfl⟩
  refine ⟨_, rfl, _, rfl, z, rfl, hz2, _, _, rfl, rfl, _, rfl, ?_⟩
  by_cases g : k < M
  · rw [decide_eq_true (show (k : Int) < (z.length : Int) by omega)]
    refine iteT ?_
    obtain ⟨c0, g1, g2⟩ := hlt k g
    refine ⟨_, rfl, _, rfl, z, _, _, rfl, rfl, hz2, atI_nat g1, c0, _, rfl, rfl, _, rfl, ?_⟩
    rw [abc_mem, g2]
    refine iteT ?_
    refine ⟨fun σ' H2 => ∃ k2 : Nat, M - k2 < M - k ∧ k2 ≤ M ∧ σ' = [some (.str z), some (.int (k2 : Int)), none, none, none] ∧ H2 = H', fun σ' H2 ⟨k2, a1, a2⟩ => ⟨M - k2, a1, k2, rfl, a2⟩, ?_⟩
    refine ⟨_, rfl, _, _, rfl, rfl, k + 1, by omega, by omega, ?_, rfl⟩
    show [some (V.str z), some (.int ((k : Int) + 1)), none, none, none] = _
    rw [show ((k : Int) + 1) = ((k + 1 : Nat) : Int) by omega]
  obtain rfl : k = M := by omega
  refine and_stop ?_ (fun c hB => ?_)
  case refine_2 =>
    have c' : ((k : Int)) < (z.length : Int) := of_decide_eq_true c
    have hi : k < z.cps.toList.length := by omega
    obtain ⟨c0, hg⟩ : ∃ c0, z.cps.toList[k]? = some c0 := ⟨_, List.getElem?_eq_getElem hi⟩
    refine ⟨_, rfl, _, rfl, z, _, _, rfl, rfl, hz2, atI_nat hg, c0, _, rfl, rfl, _, rfl, ?_⟩
    rw [abc_mem, heq c0 hg]
    exact hB
  refine iteF ?_
  refine ⟨_, rfl, _, _, rfl, rfl, _, rfl, ?_⟩
  by_cases k1 : 1 ≤ k
  case neg =>
    rw [decide_eq_false (show ¬ (1 : Int) ≤ (k : Int) by omega)]
    refine iteF ⟨_, rfl, iteT ?_⟩
    rw [decide_eq_false k1] at hB
    rw [hB] at hT
    exact qN hT H' (Same.refl H')
  rw [decide_eq_true (show (1 : Int) ≤ (k : Int) by omega)]
  refine iteT ⟨_, _, rfl, rfl, _, rfl, ?_⟩
  by_cases k6 : k ≤ 6
  case neg =>
    rw [decide_eq_false (show ¬ (k : Int) ≤ (6 : Int) by omega)]
    refine iteT ?_
    rw [decide_eq_false k6, Bool.and_false] at hB
    rw [hB] at hT
    exact qN hT H' (Same.refl H')
  rw [decide_eq_true (show (k : Int) ≤ (6 : Int) by omega)]
  refine iteF ?_
  rw [decide_eq_true k1, decide_eq_true k6] at hB
  rw [hB, Bool.and_self, if_pos rfl] at hT
  have hpre : (cutS z none (some (k : Int))).cps.toList = z.cps.toList.takeWhile isLet := by rw [cutS_pre, hnm]
  have hsuf : (cutS z (some (k : Int)) none).cps.toList = z.cps.toList.dropWhile isLet := by rw [cutS_suf, hdr]
  have hnmS : (⟨(z.cps.toList.takeWhile isLet).toArray⟩ : Str) = cutS z none (some (k : Int)) := str_ext (by rw [hpre])
  have hsl := cutS_le z (some (k : Int)) none
  obtain ⟨nm, hN⟩ : ∃ nm, cutS z none (some (k : Int)) = nm := ⟨_, rfl⟩
  rw [hN] at hpre hnmS
  refine ⟨_, rfl, _, rfl, _, rfl, z, rfl, hz2, (by show 1 ≤ sizeLine; decide), fun t0 h0 => ?_⟩
  rw [hN]
  have s2 := same_new (o := .tup [.str nm]) h0
  have hL0 : upd H' t0 (.tup [.str nm]) t0 = some (.tup [.str nm]) := upd_same
  generalize upd H' t0 (.tup [.str nm]) = H1 at s2 hL0
  refine ⟨_, rfl, _, rfl, _, rfl, z, rfl, hz2, ?_⟩
  generalize cutS z (some (k : Int)) none = y0 at hsuf hsl
  have hy0 : y0.length ≤ sizeLine := by have := sizeLine_eq; omega
  have hob : (PySem.Str.ofString "(").cps.toList = [40] := by decide +kernel
  refine ⟨_, rfl, _, rfl, y0, rfl, hy0, rfl, _, rfl, ?_⟩
  by_cases e : ∃ r0, z.cps.toList.dropWhile isLet = 40 :: r0
  case neg =>
    have hno : ∀ r', z.cps.toList.dropWhile isLet ≠ 40 :: r' := fun r' h => e ⟨r', h⟩
    rw [pre_dec0 hob (fun r h => hno r (by rw [← hsuf]; exact h))]
    refine iteT ?_
    have hT2 : T z.cps.toList = some (.mk nm [], z.cps.toList.dropWhile isLet) := by
      rw [hT]
      unfold afterName
      split
      · rename_i r' h
        exact absurd h (hno r')
      · rw [hnmS]
    refine ⟨_, rfl, _, rfl, (by show 2 ≤ sizeLine; decide), fun p hp => ?_⟩
    have s3 := same_new (o := .tup [.ref t0, .str y0]) hp
    refine qY _ _ hT2 (.ref t0) _ p _ (s2.trans s3) ?_ hsuf upd_same
    simp only [IsTm]
    exact ⟨t0, [], rfl, s3 _ _ hL0, IsTms.nil⟩
  case pos =>
    obtain ⟨r0, hr0⟩ := e
    have hT2 : T z.cps.toList = (PP r0).bind fun x => if x.1.length ≤ 3 then some (.mk nm x.1, x.2) else none := by
      rw [hT, hr0, ← hnmS]
      rfl
    rw [hr0, List.count_cons] at hsub
    simp only [beq_self_eq_true, if_true] at hsub
    rw [hr0] at hsuf
    rw [pre_dec hob hsuf]
    refine iteF ?_
    refine ⟨fun m σ H2 => TkInv z nm k n r0 H' m σ H2, ⟨y0.length, [], [], t0, y0, none, rfl, rfl, s2, hL0, IsTms.nil, Nat.zero_le _, by omega, by rw [hsuf]; show r0.count 40 < n; omega, fun _ => hsuf, fun h => absurd rfl h⟩, ?_⟩
    rintro m σ H2 ⟨acc, vs, a, y, x, rfl, rfl, s3, ha, ia, la, hy, hyc, hA, hAc⟩
    have hy2 : y.length ≤ sizeLine := by have := sizeLine_eq; omega
    have lv := ia.length
    have hcm : (PySem.Str.ofString ",").cps.toList = [44] := by decide +kernel
    refine ⟨_, rfl, _, rfl, y, rfl, hy2, rfl, _, rfl, ?_⟩
    by_cases go : acc = [] ∨ ∃ r, y.cps.toList = 44 :: r
    · -- one more part
      refine or_go ?_ (fun c hB => ?_)
      case refine_2 =>
        have ae : acc = [] := by
          rcases go with h | ⟨r, h⟩
          · exact h
          · rw [pre_dec hcm h] at c; cases c
        refine ⟨_, rfl, a, _, rfl, .inr (SqT.of ha), rfl, _, rfl, ?_⟩
        have : decide (V.int (((V.str nm :: vs).length : Nat) : Int) = V.int 1) = true := decide_eq_true (by rw [List.length_cons, lv, ae]; rfl)
        rw [this]
        exact hB
      refine iteT ?_
      have hgo : ∃ c1 r1, y.cps.toList = c1 :: r1 ∧ PP r0 = (PP r1).map (fun x => (acc ++ x.1, x.2)) := by
        by_cases ae : acc = []
        · exact ⟨40, r0, hA ae, by rw [ae]; cases PP r0 <;> rfl⟩
        · rcases go with h | ⟨r, h⟩
          · exact absurd h ae
          · refine ⟨44, r, h, ?_⟩
            rw [hAc ae, h]
            rfl
      obtain ⟨c1, r1, hy1, hPP⟩ := hgo
      rw [hy1] at hyc
      have hyc : r1.count 40 < n := hyc
      have hcut : (cutS y (some 1) none).cps.toList = r1 := by rw [cutS_one, hy1]; rfl
      have ly := slen y
      rw [hy1, List.length_cons] at ly
      refine ⟨fun σ' H9 => ∃ m', m' < y.length ∧ TkInv z nm k n r0 H' m' σ' H9, fun σ' H9 ⟨m', lt, h⟩ => ⟨m', lt, h⟩, ?_⟩
      refine ⟨_, rfl, _, rfl, y, rfl, hy2, cutS y (some 1) none, rfl, Nat.le_trans (cutS_le _ _ _) hy, by rw [hcut]; exact hyc, fun t r ht v y' p H3 s4 iv ey hp => ?_, fun hno H3 s4 => ?_⟩
      · rw [hcut] at ht
        have ha3 := s4 _ _ ha
        have ia3 := ia.mono (Tk.same s4)
        refine ⟨_, rfl, rfl, _, rfl, iteF ?_⟩
        refine ⟨_, rfl, a, _, rfl, .inr (SqT.of ha3), rfl, _, rfl, ?_⟩
        refine ite2 (fun c => ?_) (fun c => ?_)
        · have c4 : V.int (((V.str nm :: vs).length : Nat) : Int) = V.int 4 := of_decide_eq_true c
          injection c4 with c4
          rw [List.length_cons] at c4
          refine qN ?_ H3 (s3.trans s4)
          rw [hT2, hPP, contP_step ht]
          exact contP_long (by rw [List.length_append, List.length_singleton]; omega)
        have c4 : ¬ acc.length = 3 := fun q => c (decide_eq_true (by rw [List.length_cons, lv, q]; rfl))
        refine ⟨_, rfl, _, rfl, p, _, 0, _, rfl, rfl, SqT.of hp, at0, (by show 1 ≤ sizeLine; decide), fun u hu => ?_⟩
        have s5 := same_new (o := .tup [v]) hu
        refine ⟨a, u, _, _, rfl, rfl, SqT.of (s5 _ _ ha3), SqT.of upd_same, by simp, ?_, fun e => (by cases e), fun _ q hq => ?_⟩
        · have := sizeLine_eq
          rw [List.length_cons, lv]
          show acc.length + 1 + 1 ≤ _
          omega
        have s6 := same_new (o := .tup (V.str nm :: vs ++ [v])) hq
        have hp6 := s6 _ _ (s5 _ _ hp)
        have hpr := T_prog ht
        have ly' := slen y'
        rw [ey] at ly'
        refine ⟨_, rfl, p, _, 1, _, rfl, rfl, SqT.of hp6, rfl, y'.length, by omega, acc ++ [t], vs ++ [v], q, y', some (.ref p), rfl, rfl, ((s3.trans s4).trans s5).trans s6, upd_same, (ia3.append (IsTms.one iv)).mono (Tk.same (s5.trans s6)), ?_, by omega, ?_, fun h => ?_, fun _ => ?_⟩
        · rw [List.length_append, List.length_singleton]; omega
        · rw [ey]
          exact Nat.lt_of_le_of_lt (Nat.le_trans ((List.drop_sublist _ _).count_le _) (T_count ht 40)) hyc
        · simp at h
        · rw [ey, hPP, contP_step ht]
      · rw [hcut] at hno
        refine ⟨_, rfl, rfl, _, rfl, iteT ?_⟩
        refine qN ?_ H3 (s3.trans s4)
        rw [hT2, hPP, PP_eq, hno]
        rfl
    · -- no more
      have ae : acc ≠ [] := fun h => go (.inl h)
      rw [pre_dec0 hcm (fun r h => go (.inr ⟨r, h⟩))]
      refine iteF ?_
      refine ⟨_, rfl, a, _, rfl, .inr (SqT.of ha), rfl, _, rfl, ?_⟩
      have e1 : decide (V.int (((V.str nm :: vs).length : Nat) : Int) = V.int 1) = false := decide_eq_false fun q => by
        injection q with q
        rw [List.length_cons, lv] at q
        have := List.length_pos_iff.mpr ae
        omega
      rw [e1]
      refine iteF ?_
      have hcm : (PySem.Str.ofString ")").cps.toList = [41] := by decide +kernel
      refine ⟨_, rfl, _, rfl, y, rfl, hy2, rfl, _, rfl, ?_⟩
      have hPP := hAc ae
      by_cases h41 : ∃ r, y.cps.toList = 41 :: r
      · obtain ⟨r, hr1⟩ := h41
        rw [pre_dec hcm hr1]
        refine iteF ?_
        have hcut : (cutS y (some 1) none).cps.toList = r := by rw [cutS_one, hr1]; rfl
        refine ⟨_, rfl, _, rfl, _, rfl, y, rfl, hy2, (by show 2 ≤ sizeLine; decide), fun p hp => ?_⟩
        have s4 := same_new (o := .tup [.ref a, .str (cutS y (some 1) none)]) hp
        refine qY (.mk nm acc) r ?_ (.ref a) _ p _ (s3.trans s4) ?_ hcut upd_same
        · rw [hT2, hPP, hr1]
          simp only [contP, Option.bind_some]
          rw [if_pos la]
        · simp only [IsTm]
          exact ⟨a, vs, rfl, s4 _ _ ha, ia.mono (Tk.same s4)⟩
      · rw [pre_dec0 hcm (fun r h => h41 ⟨r, h⟩)]
        refine iteT ?_
        refine qN ?_ H2 s3
        rw [hT2, hPP]
        unfold contP
        split
        · rename_i r h
          exact absurd (.inr ⟨r, h⟩) go
        · rename_i r h
          exact absurd ⟨r, h⟩ h41
        · rfl
theorem ok_taken (m_len : mg "len" = none) (A : FAt K mg "_law_taken" s_l_taken ["_law_text_here"]) : ∀ n, Has P w K mg base CX0 n "_law_taken" ["_law_text_here"] (spTaken n)
  | 0 => Has.none A fun vs H Q E h => by
      obtain ⟨z, rfl, _, hc, _⟩ := h
      omega
  | n + 1 => ok_taken1 m_len A (ok_taken m_len A n)
end
end Ab
namespace Ab
open PySem PySem.Spec PyProof.Rows L2
/-! ### letters and names -/
theorem single_lt {a b : Nat} : ([a] : List Nat) < [b] ↔ a < b := by
  rw [List.cons_lt_cons_iff]
  constructor
  · rintro (h | ⟨_, h⟩)
    · exact h
    · exact absurd h (List.lt_irrefl _)
  · exact .inl
theorem dec_single {x y : List Nat} {a b : Nat} (hx : x = [a]) (hy : y = [b]) : decide (x < y) = decide (a < b) := by
  subst hx hy
  by_cases h : a < b
  · rw [decide_eq_true h, decide_eq_true (single_lt.mpr h)]
  · rw [decide_eq_false h, decide_eq_false (fun z => h (single_lt.mp z))]
theorem bl_list {z : List Nat} {acc : List V} (l : acc.length = z.length) (h : ∀ (i : Nat) (y : V), acc[i]? = some y → ∃ c, z[i]? = some c ∧ y = .bl (isLet c)) : acc = (z.map isLet).map V.bl := by
  apply List.ext_getElem?
  intro i
  rw [List.getElem?_map, List.getElem?_map]
  by_cases hi : i < acc.length
  · obtain ⟨c, h1, h2⟩ := h i _ (List.getElem?_eq_getElem hi)
    rw [List.getElem?_eq_getElem hi, h1, h2]
    rfl
  · rw [List.getElem?_eq_none (by omega), List.getElem?_eq_none (by omega)]
    rfl
section
variable {P : Program} {w : World} {K : PySem.W.Frag} {mg : Str → Option Value} {base : Heap}
def spLetter : Sp := fun vs H Q _ => ∃ c : Nat, vs = [.str ⟨#[c]⟩] ∧ Q (.bl (isLet c)) H
theorem ok_letter (A : FAt K mg "_is_letter" s_is_letter ["sign"]) : Has P w K mg base CX0 1 "_is_letter" ["sign"] spLetter := by
  refine A.ok sc_is_letter (fun vs H Q E h => ?_) (fun f cdv A outer s H vs Q E hr h => ?_)
  · obtain ⟨c, rfl, _⟩ := h; rfl
  obtain ⟨c, rfl, q⟩ := h
  refine ⟨_, (pss_one (ps_ret (pe_chain op_le_str op_le_str pe_str (pv 0) pe_str))), ?_⟩
  refine ⟨_, rfl, _, _, rfl, rfl, _, rfl, ?_⟩
  have da : decide ((⟨#[c]⟩ : Str).cps.toList < (PySem.Str.ofString "a").cps.toList) = decide (c < 97) := dec_single rfl (by decide +kernel)
  have dz : decide ((PySem.Str.ofString "z").cps.toList < (⟨#[c]⟩ : Str).cps.toList) = decide (122 < c) := dec_single (by decide +kernel) rfl
  have e0 : isLet c = (!decide (c < 97) && !decide (122 < c)) := by
    unfold isLet
    by_cases h : c < 97
    · rw [decide_eq_true h, decide_eq_false (show ¬ 97 ≤ c by omega)]; rfl
    · rw [decide_eq_false h, decide_eq_true (show 97 ≤ c by omega)]
      by_cases h2 : 122 < c
      · rw [decide_eq_true h2, decide_eq_false (show ¬ c ≤ 122 by omega)]; rfl
      · rw [decide_eq_false h2, decide_eq_true (show c ≤ 122 by omega)]; rfl
  refine ite2 (fun e => ?_) (fun e => ?_)
  · refine ⟨_, _, rfl, rfl, ?_⟩
    rw [da] at e
    rw [e0, e, Bool.true_and, ← dz] at q
    exact q
  · rw [da] at e
    rw [e0, Bool.eq_false_iff.mpr e, Bool.false_and] at q
    exact q
def spName : Sp := fun vs H Q _ => ∃ z : Str, vs = [.str z] ∧ z.length ≤ 100000 ∧ ∀ H', Same H H' → Q (.bl (nmB z.cps.toList)) H'
theorem ok_name {tk : Tok} (m_len : mg "len" = none) (m_all : mg "all" = none) (g_MOST_LETTERS : mg "MOST_LETTERS" = some (.int 6 tk)) (A : FAt K mg "_is_name" s_is_name ["text"])
    (h_is_letter : Has P w K mg base CX0 1 "_is_letter" ["sign"] spLetter) : Has P w K mg base CX0 2 "_is_name" ["text"] spName := by
  obtain ⟨f_is_letter, d_is_letter, g_is_letter, k_is_letter, b_is_letter, G_is_letter⟩ := h_is_letter
  refine A.ok sc_is_name (fun vs H Q E h => ?_) (fun f cdv A outer s H vs Q E hr h => ?_)
  · obtain ⟨z, rfl, _⟩ := h; rfl
  obtain ⟨z, rfl, hz, q⟩ := h
  have hz2 : z.length ≤ sizeLine := by have := sizeLine_eq; omega
  have ll : z.cps.toList.length = z.length := Array.length_toList
  refine ⟨_, (pss_cons (ps_if (PW.pt (pw_or (pt_cmpR op_lt (pe_callB call_len_str (by rfl) m_len PySem.boot_len (pa_cons (pv 0) pa_nil)) pe_int (nomark _)) (pw_or1 (pt_cmpR op_gt (pe_callB call_len_str (by rfl) m_len PySem.boot_len (pa_cons (pv 0) pa_nil)) (pe_gi rfl g_MOST_LETTERS) (nomark _))))) (pss_one (ps_ret pe_bl))
    pss_nil)
    (pss_one (ps_ret (pe_callB (cr_all rfl) (by rfl) m_all (by decide +kernel) (pa_cons (pe_lc (own := [("sign", 1)]) (g := gName 1) (tt := tYes) rfl sc_is_name.nd (pi_str (pv 0)) (blkOk_by (own := [("sign", 1)]) (N := ["text", "sign"]) (sc := defScope s_is_name) (by decide +kernel)) (fun _ _ _ _ _ => (pg_name (i := 1) sc_is_name.nd rfl (Or.inl rfl))) (fun _ _ _ _ _ => pts_nil) (fun _ _ _ _ _ => (pe_call G_is_letter (hr.mono (by omega)) rfl g_is_letter k_is_letter b_is_letter .nil pass0 (pa_cons (pv 1) pa_nil)))) pa_nil))))), ?_⟩
  refine ⟨_, rfl, z, rfl, hz2, _, _, rfl, rfl, _, rfl, ?_⟩
  refine ite2 (fun e => iteT ?_) (fun e => ?_)
  · have e1 : (z.length : Int) < 1 := of_decide_eq_true e
    have e2 : nmB z.cps.toList = false := by
      unfold nmB
      rw [decide_eq_false (by omega), Bool.false_and, Bool.false_and]
    have := q H (Same.refl H)
    rw [e2] at this
    exact this
  have e1 : ¬ (z.length : Int) < 1 := fun h => e (decide_eq_true h)
  refine ⟨_, rfl, z, rfl, hz2, _, _, rfl, rfl, _, rfl, ?_⟩
  refine ite2 (fun e => ?_) (fun e => ?_)
  · have e3 : (6 : Int) < z.length := of_decide_eq_true e
    have e2 : nmB z.cps.toList = false := by
      unfold nmB
      rw [decide_eq_false (show ¬ z.cps.toList.length ≤ 6 by omega), Bool.and_false, Bool.false_and]
    have := q H (Same.refl H)
    rw [e2] at this
    exact this
  have e3 : ¬ (6 : Int) < z.length := fun h => e (decide_eq_true h)
  refine ⟨_, rfl, z, rfl, fun D hD => ?_⟩
  have zs : z.cps.size = z.length := rfl
  refine lc_grow walk_str No (fun _ => True) (fun i v _ => ∃ c, z.cps.toList[i]? = some c ∧ v = .bl (isLet c)) hD (fun z => z) (small1000 (by omega)) (fun i v H H' _ h => h) (fun _ _ _ _ _ => trivial) (fun _ _ => trivial) trivial ?_ gName_mono ?_
  · rintro i x H2 H3 hi _ k2 t2 ⟨rfl, c, hc, rfl⟩
    refine ⟨rfl, fun Qy qy => ?_⟩
    exact ⟨_, rfl, c, rfl, qy _ _ (Kp.refl _ _) (Tk.refl _) trivial ⟨c, by rw [Array.getElem?_toList]; exact hc, rfl⟩⟩
  · rintro H2 acc k2 t2 _ hacc lacc hR
    have ea := bl_list (z := z.cps.toList) (by rw [lacc, ll]; rfl) hR
    refine ⟨D, z.cps.toList.map isLet, rfl, SqL.of (by rw [hacc, ea]), ?_⟩
    have e4 : (z.cps.toList.map isLet).all id = nmB z.cps.toList := by
      unfold nmB
      rw [decide_eq_true (show 1 ≤ z.cps.toList.length by omega), decide_eq_true (show z.cps.toList.length ≤ 6 by omega), List.all_map]
      rfl
    rw [e4]
    exact q H2 k2.to_same
end
end Ab
namespace Ab
open PySem PySem.Spec PyProof.Rows L2
/-! ### need_term -/
/-- an error class of the program's own -/
structure Err (K : PySem.W.Frag) (mg : Str → Option Value) (x : Str) (C : Addr) : Prop where
  g : mg x = some (.ref C)
  x : PySem.W.excIn K C [.type "ValueError", .type "Exception", .type "BaseException", .type "object"] "ValueError.__new__" = true
  k : PySem.W.keepIn K (.ref C) = true
  e : PySem.W.subIn K (.ref C) (.type "BaseException") = some true
  t : PySem.W.typeIn K (.ref C) = some (.type "type")
mutual
def Tm.sml : Tm → Prop
  | .mk n ps => n.length ≤ 1000 ∧ ps.length ≤ 100 ∧ Tm.smls ps
def Tm.smls : List Tm → Prop
  | [] => True
  | t :: ts => t.sml ∧ Tm.smls ts
end
mutual
theorem Tm.sml_of : ∀ t : Tm, t.wf → t.sml
  | .mk n ps, h => by
    simp only [Tm.wf] at h
    simp only [Tm.sml]
    have h1 := h.1.2.1
    rw [Array.length_toList] at h1
    exact ⟨Nat.le_trans h1 (by decide), by omega, Tm.smls_of ps h.2.2⟩
theorem Tm.smls_of : ∀ ts : List Tm, Tm.wfs ts → Tm.smls ts
  | [], _ => by simp [Tm.smls]
  | t :: ts, h => by
    simp only [Tm.wfs] at h
    simp only [Tm.smls]
    exact ⟨Tm.sml_of t h.1, Tm.smls_of ts h.2⟩
end
theorem Tm.wfs_append : ∀ ts us : List Tm, Tm.wfs (ts ++ us) ↔ Tm.wfs ts ∧ Tm.wfs us
  | [], us => by simp [Tm.wfs]
  | t :: ts, us => by simp only [List.cons_append, Tm.wfs, Tm.wfs_append ts us, and_assoc]
theorem Tm.smls_append : ∀ ts us : List Tm, Tm.smls (ts ++ us) ↔ Tm.smls ts ∧ Tm.smls us
  | [], us => by simp [Tm.smls]
  | t :: ts, us => by simp only [List.cons_append, Tm.smls, Tm.smls_append ts us, and_assoc]
theorem Tm.sizes_append : ∀ ts us : List Tm, Tm.sizes (ts ++ us) = Tm.sizes ts + Tm.sizes us
  | [], us => by simp [Tm.sizes]
  | t :: ts, us => by simp only [List.cons_append, Tm.sizes, Tm.sizes_append ts us]; omega
theorem IsTms.snoc {H : Hp} : ∀ {ts : List Tm} {vs : List V}, IsTms H ts vs → vs ≠ [] → ∃ ts' u vs' v, ts = ts' ++ [u] ∧ vs = vs' ++ [v] ∧ IsTms H ts' vs' ∧ IsTm H u v
  | [], vs, h, n => by simp only [IsTms] at h; exact absurd h n
  | t :: ts, vs, h, n => by
    simp only [IsTms] at h
    obtain ⟨v, r, rfl, h1, h2⟩ := h
    by_cases e : r = []
    · subst e
      have : ts = [] := List.eq_nil_of_length_eq_zero (IsTms.length h2).symm
      subst this
      exact ⟨[], t, [], v, rfl, rfl, IsTms.nil, h1⟩
    · obtain ⟨ts', u, vs', v', rfl, rfl, g1, g2⟩ := IsTms.snoc h2 e
      refine ⟨t :: ts', u, v :: vs', v', rfl, rfl, ?_, g2⟩
      simp only [IsTms]
      exact ⟨v, vs', rfl, h1, g1⟩
section
variable {P : Program} {w : World} {K : PySem.W.Frag} {mg : Str → Option Value} {base : Heap}
def spNeed (C : Addr) : Sp := fun vs H Q E => ∃ (v : V) (t : Tm), vs = [v] ∧ IsTm H t v ∧ t.sml ∧ t.size ≤ 1000 ∧ (t.wf ∧ t.size ≤ 40 → ∀ H', Same H H' → Q .non H') ∧ (¬ (t.wf ∧ t.size ≤ 40) → ∀ H', Same H H' → E (.ref C) none H')
end
end Ab
namespace Ab
open PySem PySem.Spec PyProof.Rows L2
/-! ### terms written -/
section
variable {P : Program} {w : World} {K : PySem.W.Frag} {mg : Str → Option Value} {base : Heap}
/-- a term's text -/
def spTxt (n : Nat) : Sp := fun vs H Q _ => ∃ (v : V) (t : Tm), vs = [v] ∧ IsTm H t v ∧ t.wf ∧ t.depth ≤ n ∧ t.size ≤ 1000 ∧ ∀ z H', Same H H' → z.cps.toList = t.txt → Q (.str z) H'
theorem txt_join {ys : List Str} {ps : List Tm} (l : ys.length = ps.length) (h : ∀ (i : Nat) (z : Str), ys[i]? = some z → ∃ t : Tm, ps[i]? = some t ∧ z.cps.toList = t.txt) : (Txt.join (PySem.Str.ofString ",") ys).cps.toList = TL.joinL [44] (Tm.txts ps) := by
  have e : ys.map TL.tl = Tm.txts ps := by
    rw [Tm.txts_map]
    apply List.ext_getElem?
    intro i
    rw [List.getElem?_map, List.getElem?_map]
    by_cases hi : i < ys.length
    · obtain ⟨t, h1, h2⟩ := h i _ (List.getElem?_eq_getElem hi)
      rw [List.getElem?_eq_getElem hi, h1]
      exact congrArg some h2
    · rw [List.getElem?_eq_none (by omega), List.getElem?_eq_none (by omega)]
      rfl
  rw [TL.join_eq]
  have := TL.tl_join (PySem.Str.ofString ",") ys
  rw [e] at this
  exact this
theorem txt_sum {ys : List Str} {ps : List Tm} (l : ys.length = ps.length) (w : Tm.wfs ps) (h : ∀ (i : Nat) (z : Str), ys[i]? = some z → ∃ t : Tm, ps[i]? = some t ∧ z.cps.toList = t.txt) : (ys.map (·.length)).sum + ys.length * 1 ≤ 9 * Tm.sizes ps := by
  have e : ys.map (·.length) = (Tm.txts ps).map List.length := by
    rw [Tm.txts_map]
    apply List.ext_getElem?
    intro i
    rw [List.getElem?_map, List.getElem?_map, List.getElem?_map]
    by_cases hi : i < ys.length
    · obtain ⟨t, h1, h2⟩ := h i _ (List.getElem?_eq_getElem hi)
      rw [List.getElem?_eq_getElem hi, h1]
      show some ys[i].length = some t.txt.length
      rw [slen, h2]
    · rw [List.getElem?_eq_none (by omega), List.getElem?_eq_none (by omega)]
      rfl
  have := Tm.txts_len ps w
  rw [← e, Tm.txts_map, List.length_map, ← l] at this
  omega
theorem ok_ltext1 {n : Nat} (m_len : mg "len" = none) (A : FAt K mg "_law_text" s_l_text ["_law_term_here"]) (h_l_text : Has P w K mg base CX0 n "_law_text" ["_law_term_here"] (spTxt n)) : Has P w K mg base CX0 (n + 1) "_law_text" ["_law_term_here"] (spTxt (n + 1)) := by
  obtain ⟨f_l_text, d_l_text, g_l_text, k_l_text, b_l_text, G_l_text⟩ := h_l_text
  refine A.ok sc_l_text (fun vs H Q E h => ?_) (fun f cdv A outer s H vs Q E hr h => ?_)
  · obtain ⟨v, t, rfl, _⟩ := h; rfl
  obtain ⟨v, ⟨n', ps⟩, rfl, ht, hwf, hd, hsz, q⟩ := h
  have tl := Tm.txt_len _ hwf
  simp only [IsTm] at ht
  obtain ⟨a, vs, rfl, ha, ip⟩ := ht
  have lps := ip.length
  have sl := sizeLine_eq
  simp only [Tm.wf] at hwf
  simp only [Tm.depth] at hd
  simp only [Tm.size] at hsz tl
  simp only [Tm.txt] at q tl
  have hn6 := hwf.1.2.1
  rw [← slen] at hn6
  refine ⟨_, (pss_cons (ps_if (pt_cmpR op_eq (pe_callB call_len_seq (by rfl) m_len PySem.boot_len (pa_cons (pv 0) pa_nil)) pe_int (nomark _)) (pss_one (ps_ret (pe_ix ix_tup (pv 0) pe_int (fun _ _ => rfl))))
    pss_nil)
    (pss_one (ps_ret (pe_op op_add_str (pe_op op_add_str (pe_op op_add_str (pe_ix ix_tup (pv 0) pe_int (fun _ _ => rfl)) pe_str) (pe_join pe_str (pe_lc (own := [("_law_part", 1)]) (g := gName 1) (tt := tYes) rfl sc_l_text.nd (pi_tup (pe_slice sl_tupA (pv 0) (po_some pe_int) po_none)) (blkOk_by (own := [("_law_part", 1)]) (N := ["_law_term_here", "_law_part"]) (sc := defScope s_l_text) (by decide +kernel)) (fun _ _ _ _ _ => (pg_name (i := 1) sc_l_text.nd rfl (Or.inl rfl))) (fun _ _ _ _ _ => pts_nil) (fun _ _ _ _ _ => (pe_call G_l_text (hr.mono (by omega)) rfl g_l_text k_l_text b_l_text .nil pass0 (pa_cons (pv 1) pa_nil)))))) pe_str)))), ?_⟩
  refine ⟨_, rfl, a, _, rfl, .inr (SqT.of ha), rfl, _, rfl, ?_⟩
  refine ite2 (fun c => ?_) (fun c => ?_)
  · have c2 := of_decide_eq_true c
    injection c2 with c3
    rw [List.length_cons] at c3
    have e : ps = [] := List.eq_nil_of_length_eq_zero (by omega)
    subst e
    exact ⟨_, rfl, a, _, 0, _, rfl, rfl, SqT.of ha, at0, q n' H (Same.refl H) (by simp)⟩
  have hne : ps.isEmpty = false := by
    cases ps with
    | nil => exfalso; apply c; rw [show vs = [] from List.eq_nil_of_length_eq_zero lps]; rfl
    | cons x y => rfl
  rw [hne] at q tl
  have lb : (PySem.Str.ofString "(").length = 1 := rfl
  have lc : (PySem.Str.ofString ")").length = 1 := rfl
  refine ⟨_, rfl, a, _, 0, _, rfl, rfl, SqT.of ha, at0, _, _, rfl, rfl, by omega, ⟨_, rfl⟩, ?_⟩
  refine tsl_parts (K := K) (i := 0) rfl ha fun p hp => ⟨p, rfl, ⟨_, SqT.of upd_same⟩, fun D hD => ?_⟩
  have s0 := same_new (o := .tup vs) hp
  refine lc_grow walk_tup No (fun H => SqT K H p vs ∧ IsTms H ps vs) (fun i v _ => ∃ z : Str, v = .str z ∧ ∃ t, ps[i]? = some t ∧ z.cps.toList = t.txt) hD (fun z => z) (small1000 (by omega)) (fun i v H H' _ h => h) (fun H1 H2 e k ⟨a1, a2⟩ => ⟨?_, a2.mono k⟩) (fun _ h => h.1) ⟨SqT.of upd_same, ip.mono (Tk.same s0)⟩ ?_ gName_mono ?_
  · rcases a1 with (a1 | ⟨o, a1⟩) | a1
    · exact .inl (.inl (k.tup a1))
    · exact .inl (.inr ⟨o, k _ _ trivial a1⟩)
    · exact .inr a1
  · rintro i x H2 H3 hi ⟨i1, i2⟩ k2 t2 ⟨rfl, hx⟩
    obtain ⟨t', e1, e2⟩ := i2.get hx
    have m1 := List.mem_of_getElem? e1
    refine ⟨rfl, fun Qy qy => ?_⟩
    refine ⟨_, rfl, x, t', rfl, e2, Tm.wfs_mem hwf.2.2 m1, Nat.le_trans (Tm.depths_mem m1) (by omega), Nat.le_trans (Tm.sizes_mem m1) (by omega), fun z H4 s4 ez => ?_⟩
    exact qy _ H4 (Kp.same s4) (Tk.same s4) ⟨(Kp.same (S := No) s4 |> fun _ => by
      rcases i1 with (a1 | ⟨o, a1⟩) | a1
      · exact .inl (.inl (s4 _ _ a1))
      · exact .inl (.inr ⟨o, s4 _ _ a1⟩)
      · exact .inr a1), i2.mono (Tk.same s4)⟩ ⟨z, rfl, t', e1, ez⟩
  rintro H2 acc k2 t2 ⟨i1, i2⟩ hacc lacc hR
  obtain ⟨ys, rfl, ly, hy⟩ := vals_of hR
  have ly2 : ys.length = ps.length := by rw [ly, lacc, lps]
  have ej := txt_join ly2 hy
  have es := txt_sum ly2 hwf.2.2 hy
  have s2 : Same H H2 := s0.trans k2.to_same
  refine ⟨_, D, ys, rfl, rfl, .inl (SqL.of hacc), by show (ys.map (·.length)).sum + ys.length * 1 ≤ 16777216; omega, ?_⟩
  generalize ez : Txt.join (PySem.Str.ofString ",") ys = jz
  rw [ez] at ej
  have lj : jz.length = (TL.joinL [44] (Tm.txts ps)).length := by rw [slen, ej]
  simp only [Bool.false_eq_true, if_false, List.length_append, List.length_cons, List.length_nil] at tl
  rw [← slen] at tl
  refine ⟨_, _, rfl, rfl, by rw [sla]; omega, _, _, rfl, rfl, by rw [sla, sla]; omega, ?_⟩
  refine q _ H2 s2 ?_
  rw [tla, tla, tla, ej]
  show ((n'.cps.toList ++ [40]) ++ TL.joinL [44] (Tm.txts ps)) ++ [41] = n'.cps.toList ++ (40 :: (TL.joinL [44] (Tm.txts ps) ++ [41]))
  simp
theorem ok_ltext (m_len : mg "len" = none) (A : FAt K mg "_law_text" s_l_text ["_law_term_here"]) : ∀ n, Has P w K mg base CX0 n "_law_text" ["_law_term_here"] (spTxt n)
  | 0 => Has.none A fun vs H Q E h => by
      obtain ⟨v, ⟨n, ps⟩, rfl, _, _, hd, _⟩ := h
      simp [Tm.depth] at hd
  | n + 1 => ok_ltext1 m_len A (ok_ltext m_len A n)
end
end Ab
namespace Ab
open PySem PySem.Spec PyProof.Rows L2
section
variable {P : Program} {w : World} {K : PySem.W.Frag} {mg : Str → Option Value} {base : Heap}
/-! ### shown -/
def spShown (C : Addr) : Sp := fun vs H Q E => ∃ (v : V) (t : Tm), vs = [v] ∧ IsTm H t v ∧ t.sml ∧ t.size ≤ 1000 ∧ (t.wf ∧ t.size ≤ 40 → ∀ z H', Same H H' → z.cps.toList = t.txt → Q (.str z) H') ∧ (¬ (t.wf ∧ t.size ≤ 40) → ∀ H', Same H H' → E (.ref C) none H')
end
end Ab
namespace Ab
open PySem PySem.Spec PyProof.Rows L2
section
variable {P : Program} {w : World} {K : PySem.W.Frag} {mg : Str → Option Value} {base : Heap}
/-! ### reading -/
def spEnd : Sp := fun vs H Q _ => ∃ (z : Str) (s : Nat), vs = [.str z, .int (s : Int)] ∧ s ≤ z.length ∧ z.length ≤ 10000 ∧ Q (.int ((s + ((z.cps.toList.drop s).takeWhile isLet).length : Nat) : Int)) H
theorem ok_end (m_len : mg "len" = none) (A : FAt K mg "_letters_end" s_letters_end ["text", "start"]) (h_is_letter : Has P w K mg base CX0 1 "_is_letter" ["sign"] spLetter) : Has P w K mg base CX0 2 "_letters_end" ["text", "start"] spEnd := by
  obtain ⟨f_is_letter, d_is_letter, g_is_letter, k_is_letter, b_is_letter, G_is_letter⟩ := h_is_letter
  refine A.ok sc_letters_end (fun vs H Q E h => ?_) (fun f cdv A outer s H vs Q E hr h => ?_)
  · obtain ⟨z, s, rfl, _⟩ := h; rfl
  obtain ⟨z, s0, rfl, hs, hz, q⟩ := h
  have hz2 : z.length ≤ sizeLine := by have := sizeLine_eq; omega
  have ll := slen z
  generalize hM : ((z.cps.toList.drop s0).takeWhile isLet).length = M at q
  refine ⟨_, (pss_cons (ps_set (i := 2) sc_letters_end.nd rfl (Or.inl rfl) (pv 1))
    (pss_cons (ps_while PassesOwn.never (PW.pt (pw_and (pt_cmpR op_lt (pv 2) (pe_callB call_len_str (by rfl) m_len PySem.boot_len (pa_cons (pv 0) pa_nil)) (nomark _)) (pw_and1 (pt_val (pe_call G_is_letter (hr.mono (by omega)) rfl g_is_letter k_is_letter b_is_letter .nil pass0 (pa_cons (pe_ix ix_str (pv 0) (pv 2) (fun _ _ => rfl)) pa_nil))))))
    (pss_one (ps_aug (i := 2) sc_letters_end.nd rfl (Or.inl rfl) pe_int ip_add)))
    (pss_one (ps_ret (pv 2))))), ?_⟩
  refine ⟨_, rfl, ?_⟩
  refine ⟨fun m σ H' => ∃ k : Nat, m = M - k ∧ k ≤ M ∧ σ = [some (.str z), some (.int (s0 : Int)), some (.int ((s0 : Int) + k))] ∧ H' = H, ⟨M, 0, rfl, Nat.zero_le _, by rw [show ((s0 : Int) + ((0 : Nat) : Int)) = s0 by omega]; rfl, rfl⟩, ?_⟩
  rintro m σ H' ⟨k, rfl, hk, rfl, rfl⟩
  refine ⟨_, rfl, _, rfl, z, rfl, hz2, _, _, rfl, rfl, _, rfl, ?_⟩
  have stop : k = M → (tRet (tVar 2)) { nx := fun _ H' => Q .non H', rt := Q } [some (.str z), some (.int (s0 : Int)), some (.int ((s0 : Int) + k))] H' := by
    intro e
    subst e
    refine ⟨_, rfl, ?_⟩
    show Q (.int ((s0 : Int) + k)) H'
    rw [show ((s0 : Int) + k) = ((s0 + k : Nat) : Int) by omega]
    exact q
  refine ite2 (fun c => ?_) (fun c => ?_)
  · have c' : ((s0 : Int) + k) < (z.length : Int) := of_decide_eq_true c
    have hi : s0 + k < z.cps.toList.length := by omega
    obtain ⟨c0, hg⟩ : ∃ c0, z.cps.toList[s0 + k]? = some c0 := ⟨_, List.getElem?_eq_getElem hi⟩
    have hat : atI z.cps.toList ((s0 : Int) + k) = some c0 := by
      rw [show ((s0 : Int) + k) = ((s0 + k : Nat) : Int) by omega]
      exact atI_nat hg
    have hgd : (z.cps.toList.drop s0)[k]? = some c0 := by rw [List.getElem?_drop]; exact hg
    refine ⟨_, rfl, _, rfl, z, _, _, rfl, rfl, hz2, hat, _, rfl, _, rfl, ?_⟩
    refine ite2 (fun e => ?_) (fun e => ?_)
    · have kM : k < M := by
        by_cases g : k < M
        · exact g
        · exfalso
          have : k = M := by omega
          subst this
          rw [← hM] at hgd
          have := tw_eq _ _ hgd
          rw [this] at e
          cases e
      refine ⟨fun σ' H2 => ∃ k2 : Nat, M - k2 < M - k ∧ k2 ≤ M ∧ σ' = [some (.str z), some (.int (s0 : Int)), some (.int ((s0 : Int) + k2))] ∧ H2 = H', fun σ' H2 ⟨k2, a1, a2⟩ => ⟨M - k2, a1, k2, rfl, a2⟩, ?_⟩
      refine ⟨_, rfl, _, _, rfl, rfl, k + 1, by omega, by omega, ?_, rfl⟩
      show [some (V.str z), some (.int (s0 : Int)), some (.int ((s0 : Int) + k + 1))] = _
      rw [show ((s0 : Int) + k + 1) = ((s0 : Int) + (k + 1 : Nat)) by omega]
    · refine stop ?_
      by_cases g : k < M
      · exfalso
        obtain ⟨c2, g1, g2⟩ := tw_lt (z.cps.toList.drop s0) k (by rw [hM]; exact g)
        rw [hgd] at g1
        injection g1 with g1
        rw [g1] at e
        exact e g2
      · omega
  · refine stop ?_
    have c' : ¬ ((s0 : Int) + k) < (z.length : Int) := fun h => c (decide_eq_true h)
    have h1 : M ≤ (z.cps.toList.drop s0).length := by rw [← hM]; exact (List.takeWhile_prefix _).length_le
    rw [List.length_drop] at h1
    omega
end
end Ab
namespace Ab
open PySem PySem.Spec PyProof.Rows L2
section
variable {P : Program} {w : World} {K : PySem.W.Frag} {mg : Str → Option Value} {base : Heap}
def spTermAt (C : Addr) (n : Nat) : Sp := fun vs H Q E => ∃ (z : Str) (s : Nat), vs = [.str z, .int (s : Int)] ∧ s ≤ z.length ∧ z.length ≤ 10000 ∧ (z.cps.toList.drop s).count 40 < n ∧
  (∀ t r, T (z.cps.toList.drop s) = some (t, r) → ∀ v p H', Same H H' → IsTm H' t v → H' p = some (.tup [v, .int ((z.length - r.length : Nat) : Int)]) → Q (.ref p) H') ∧
  (T (z.cps.toList.drop s) = none → ∀ H', Same H H' → E (.ref C) none H')
def spPartsAt (C : Addr) (n : Nat) : Sp := fun vs H Q E => ∃ (z : Str) (s : Nat) (r0 : List Nat), vs = [.str z, .int (s : Int)] ∧ z.length ≤ 10000 ∧ z.cps.toList.drop s = 40 :: r0 ∧ r0.count 40 < n ∧
  (∀ ps r, PP r0 = some (ps, r) → ps.length ≤ 3 → ∀ L vs p H', Same H H' → IsTms H' ps vs → H' L = some (.lst vs) → H' p = some (.tup [.ref L, .int ((z.length - r.length : Nat) : Int)]) → Q (.ref p) H') ∧
  ((∀ ps r, PP r0 = some (ps, r) → 3 < ps.length) → ∀ H', Same H H' → E (.ref C) none H')
/-- a suffix of a text is what stands behind a place -/
theorem suffix_drop {l a r : List Nat} {k : Nat} (h : l.drop k = a ++ r) (hk : k ≤ l.length) : l.drop (l.length - r.length) = r := by
  have h1 := congrArg List.length h
  rw [List.length_drop, List.length_append] at h1
  have h2 : l.length - r.length = k + a.length := by omega
  rw [h2, ← List.drop_drop, h, List.drop_left]
theorem ok_term_at {C : Addr} {n : Nat} (T0 : Err K mg "BadText" C) (A : FAt K mg "_term_at" s_term_at ["text", "start"]) (h_letters_end : Has P w K mg base CX0 2 "_letters_end" ["text", "start"] spEnd)
    (h_is_name : Has P w K mg base CX0 2 "_is_name" ["text"] spName) (h_parts_at : Has P w K mg base (L2.CX P w) (2 * n + 3) "_parts_at" ["text", "start"] (spPartsAt C n)) :
    Has P w K mg base (L2.CX P w) (2 * n + 4) "_term_at" ["text", "start"] (spTermAt C (n + 1)) := by
  obtain ⟨f_letters_end, d_letters_end, g_letters_end, k_letters_end, b_letters_end, G_letters_end⟩ := h_letters_end
  obtain ⟨f_is_name, d_is_name, g_is_name, k_is_name, b_is_name, G_is_name⟩ := h_is_name
  obtain ⟨f_parts_at, d_parts_at, g_parts_at, k_parts_at, b_parts_at, G_parts_at⟩ := h_parts_at
  obtain ⟨g_BadText, x_BadText, k_BadText, e_BadText, t_BadText⟩ := T0
  refine A.okX sc_term_at (fun vs H Q E h => ?_) (fun f cdv A outer s H vs Q E hr h => ?_)
  · obtain ⟨z, s, rfl, _⟩ := h; rfl
  obtain ⟨z, s0, rfl, hs, hz, hc, qY, qN⟩ := h
  have hz2 : z.length ≤ sizeLine := by have := sizeLine_eq; omega
  have ll := slen z
  refine ⟨_, (pss_cons (ps_set (i := 2) sc_term_at.nd rfl (Or.inl rfl) (pe_call G_letters_end (hr.mono (by omega)) rfl g_letters_end k_letters_end b_letters_end .nil pass0 (pa_cons (pv 0) (pa_cons (pv 1) pa_nil))))
    (pss_cons (ps_set (i := 3) sc_term_at.nd rfl (Or.inl rfl) (pe_slice sl_str (pv 0) (po_some (pv 1)) (po_some (pv 2))))
    (pss_cons (ps_if (pt_not (pt_val (pe_call G_is_name (hr.mono (by omega)) rfl g_is_name k_is_name b_is_name .nil pass0 (pa_cons (pv 3) pa_nil)))) (pss_one (ps_raise rfl (takes_of rfl rfl rfl rfl) (pmk_own PySem.F.excBase_ValueError x_BadText g_BadText k_BadText (raises_own e_BadText t_BadText) rfl)))
    pss_nil)
    (pss_cons (ps_if (pt_cmpR op_ne (pe_slice sl_str (pv 0) (po_some (pv 2)) (po_some (pe_op op_add (pv 2) pe_int))) pe_str (nomark _)) (pss_one (ps_ret (pe_tup (pa_cons (pe_tup (pa_cons (pv 3) pa_nil)) (pa_cons (pv 2) pa_nil)))))
    pss_nil)
    (pss_cons (ps_asg (pe_call G_parts_at (hr.mono (by omega)) rfl g_parts_at k_parts_at b_parts_at .nil (passes_call (takes_of rfl rfl rfl rfl) (fun _ _ _ _ h => h)) (pa_cons (pv 0) (pa_cons (pv 2) pa_nil))) (pg_tup rfl (pgs_cons (pg_name (i := 4) sc_term_at.nd rfl (Or.inl rfl)) (pgs_cons (pg_name (i := 2) sc_term_at.nd rfl (Or.inl rfl)) pgs_nil))))
    (pss_one (ps_ret (pe_tup (pa_cons (pe_tup (pa_cons (pv 3) (StX.pa_star (pv 4) pa_nil))) (pa_cons (pv 2) pa_nil)))))))))), ?_⟩
  refine ⟨_, rfl, _, rfl, z, s0, rfl, hs, hz, ?_⟩
  have hTW := len_tw (z.cps.toList.drop s0)
  rw [List.length_drop] at hTW
  have hnm : ((z.cps.toList.drop s0).take ((z.cps.toList.drop s0).takeWhile isLet).length) = (z.cps.toList.drop s0).takeWhile isLet := tw_take _
  have hdr : z.cps.toList.drop (s0 + ((z.cps.toList.drop s0).takeWhile isLet).length) = (z.cps.toList.drop s0).dropWhile isLet := by rw [← List.drop_drop]; exact tw_drop _
  have hT := T_eq (z.cps.toList.drop s0)
  have hsub : ((z.cps.toList.drop s0).dropWhile isLet).count 40 ≤ (z.cps.toList.drop s0).count 40 := (List.dropWhile_sublist _).count_le _
  generalize hM : ((z.cps.toList.drop s0).takeWhile isLet).length = M at hnm hdr hTW
  have hcut : (cutS z (some (s0 : Int)) (some ((s0 + M : Nat) : Int))).cps.toList = (z.cps.toList.drop s0).takeWhile isLet := by
    rw [cutS_nat, show s0 + M - s0 = M by omega, hnm]
  refine ⟨_, rfl, _, rfl, _, rfl, _, rfl, _, rfl, z, rfl, hz2, ?_⟩
  generalize hN : cutS z (some (s0 : Int)) (some ((s0 + M : Nat) : Int)) = nm at hcut
  have lnm : nm.length = M := by rw [slen, hcut, hM]
  have hMl : M ≤ z.length := by omega
  refine ⟨_, rfl, nm, rfl, by omega, fun H1 s1 => ⟨_, rfl, ?_⟩⟩
  rw [hcut]
  refine ite2 (fun c => ?_) (fun c => ?_)
  · -- no name
    have c2 : ¬ nmB ((z.cps.toList.drop s0).takeWhile isLet) = true := fun h => by rw [h] at c; cases c
    rw [if_neg c2] at hT
    exact qN hT H1 s1
  have c2 : nmB ((z.cps.toList.drop s0).takeWhile isLet) = true := by
    cases h : nmB ((z.cps.toList.drop s0).takeWhile isLet) with
    | true => rfl
    | false => rw [h] at c; exact absurd rfl c
  rw [if_pos c2] at hT
  have hnmS : (⟨((z.cps.toList.drop s0).takeWhile isLet).toArray⟩ : Str) = nm := str_ext (by rw [hcut])
  refine ⟨_, rfl, _, rfl, _, rfl, _, rfl, _, _, rfl, rfl, _, rfl, z, rfl, hz2, rfl, _, rfl, ?_⟩
  have hsign := cut_sign z (s0 + M) 40 (PySem.Str.ofString "(") (by decide +kernel)
  rw [hdr] at hsign
  refine ite2 (fun e => ?_) (fun e => ?_)
  · -- a name alone
    have hno : ∀ r', (z.cps.toList.drop s0).dropWhile isLet ≠ 40 :: r' := fun r' h => by
      have := hsign.mpr ⟨r', h⟩
      rw [show (cutS z (some ((s0 + M : Nat) : Int)) (some (((s0 + M : Nat) : Int) + 1))) = PySem.Str.ofString "(" from this] at e
      rw [decide_eq_true rfl] at e
      cases e
    have hT2 : T (z.cps.toList.drop s0) = some (.mk nm [], (z.cps.toList.drop s0).dropWhile isLet) := by
      rw [hT]
      unfold afterName
      split
      · rename_i r' h
        exact absurd h (hno r')
      · rw [hnmS]
    refine ⟨_, rfl, (by show 1 ≤ sizeLine; decide), fun t0 h0 => ⟨_, rfl, (by show 2 ≤ sizeLine; decide), fun p hp => ?_⟩⟩
    have s2 := same_new (o := .tup [.str nm]) h0
    have s3 := same_new (o := .tup [.ref t0, .int ((s0 + M : Nat) : Int)]) hp
    refine qY _ _ hT2 (.ref t0) p _ ((s1.trans s2).trans s3) ?_ ?_
    · simp only [IsTm]
      exact ⟨t0, [], rfl, s3 _ _ upd_same, IsTms.nil⟩
    · rw [upd_same]
      have : z.length - ((z.cps.toList.drop s0).dropWhile isLet).length = s0 + M := by omega
      rw [this]
  · -- with parts
    have hyes : cutS z (some ((s0 + M : Nat) : Int)) (some (((s0 + M : Nat) : Int) + 1)) = PySem.Str.ofString "(" := by
      by_cases h : cutS z (some ((s0 + M : Nat) : Int)) (some (((s0 + M : Nat) : Int) + 1)) = PySem.Str.ofString "("
      · exact h
      · exfalso
        apply e
        rw [decide_eq_false (fun q => h (by injection q))]
        rfl
    obtain ⟨r0, hr0⟩ := hsign.mp hyes
    have hT2 : T (z.cps.toList.drop s0) = (PP r0).bind fun x => if x.1.length ≤ 3 then some (.mk nm x.1, x.2) else none := by
      rw [hT, hr0, ← hnmS]
      rfl
    rw [hr0, List.count_cons] at hsub
    simp only [beq_self_eq_true, if_true] at hsub
    refine ⟨_, rfl, _, rfl, z, s0 + M, r0, rfl, hz, by rw [hdr, hr0], by omega, fun ps r hps h3 L vs p H2 s2 iv hL hp => ?_, fun hno H2 s2 => ?_⟩
    · have hT3 : T (z.cps.toList.drop s0) = some (.mk nm ps, r) := by rw [hT2, hps]; simp only [Option.bind_some]; rw [if_pos h3]
      refine ⟨p, _, rfl, SqT.of hp, rfl, _, _, rfl, _, _, rfl, rfl, ?_⟩
      have lv := iv.length
      refine ⟨_, rfl, _, rfl, L, vs, rfl, .inr (SqL.of hL), ?_, fun t0 h0 => ⟨_, rfl, (by show 2 ≤ sizeLine; decide), fun q hq => ?_⟩⟩
      · show (V.str nm :: (vs ++ [])).length ≤ sizeLine
        have := sizeLine_eq
        rw [List.length_cons, List.length_append]
        show vs.length + 0 + 1 ≤ _
        omega
      · have s3 := same_new (o := .tup (V.str nm :: (vs ++ []))) h0
        have s4 := same_new (o := .tup [.ref t0, .int ((z.length - r.length : Nat) : Int)]) hq
        refine qY _ _ hT3 (.ref t0) q _ (((s1.trans s2).trans s3).trans s4) ?_ upd_same
        simp only [IsTm]
        refine ⟨t0, vs, rfl, ?_, iv.mono (Tk.same (s3.trans s4))⟩
        rw [s4 _ _ upd_same, List.append_nil]
    · refine qN ?_ H2 (s1.trans s2)
      rw [hT2]
      cases hps : PP r0 with
      | none => rfl
      | some x =>
        have := hno x.1 x.2 hps
        simp only [Option.bind_some]
        rw [if_neg (by omega)]
theorem ok_parts_at {C : Addr} {n : Nat} {tk : Tok} (m_len : mg "len" = none) (g_MOST_PARTS : mg "MOST_PARTS" = some (.int 3 tk)) (T0 : Err K mg "BadText" C) (A : FAt K mg "_parts_at" s_parts_at ["text", "start"])
    (h_term_at : Has P w K mg base (L2.CX P w) (2 * n + 2) "_term_at" ["text", "start"] (spTermAt C n)) : Has P w K mg base (L2.CX P w) (2 * n + 3) "_parts_at" ["text", "start"] (spPartsAt C n) := by
  obtain ⟨f_term_at, d_term_at, g_term_at, k_term_at, b_term_at, G_term_at⟩ := h_term_at
  obtain ⟨g_BadText, x_BadText, k_BadText, e_BadText, t_BadText⟩ := T0
  refine A.okX sc_parts_at (fun vs H Q E h => ?_) (fun f cdv A outer s H vs Q E hr h => ?_)
  · obtain ⟨z, s, r0, rfl, _⟩ := h; rfl
  obtain ⟨z, s0, r0, rfl, hz, hd, hc, qY, qN⟩ := h
  have hz2 : z.length ≤ sizeLine := by have := sizeLine_eq; omega
  have ll := slen z
  have hlen : s0 + r0.length + 1 = z.length := by
    have := congrArg List.length hd
    rw [List.length_drop, List.length_cons] at this
    omega
  have hd1 : z.cps.toList.drop (s0 + 1) = r0 := by rw [← List.drop_drop, hd]; rfl
  refine ⟨_, (pss_cons (ps_set (i := 2) sc_parts_at.nd rfl (Or.inl rfl) (pe_lst pa_nil))
    (pss_cons (ps_set (i := 3) sc_parts_at.nd rfl (Or.inl rfl) (pv 1))
    (pss_cons (ps_set (i := 4) sc_parts_at.nd rfl (Or.inl rfl) pe_bl)
    (pss_cons (ps_while (passes_of rfl) (pt_val (pv 4))
    (pss_cons (ps_asg (pe_call G_term_at (hr.mono (by omega)) rfl g_term_at k_term_at b_term_at .nil (passes_call (takes_of rfl rfl rfl rfl) (fun _ _ _ _ h => h)) (pa_cons (pv 0) (pa_cons (pe_op op_add (pv 3) pe_int) pa_nil))) (pg_tup rfl (pgs_cons (pg_name (i := 5) sc_parts_at.nd rfl (Or.inl rfl)) (pgs_cons (pg_name (i := 3) sc_parts_at.nd rfl (Or.inl rfl)) pgs_nil))))
    (pss_cons (ps_expr (pe_bm PySem.F.plainAttrs_list PySem.F.slot_list_append PySem.F.type_list_append mt_append (pv 2) (pa_cons (pv 5) pa_nil)))
    (pss_one (ps_set (i := 4) sc_parts_at.nd rfl (Or.inl rfl) (pe_cmpR op_eq (pe_slice sl_str (pv 0) (po_some (pv 3)) (po_some (pe_op op_add (pv 3) pe_int))) pe_str (nomark _)))))))
    (pss_cons (ps_if (pt_cmpR op_ne (pe_slice sl_str (pv 0) (po_some (pv 3)) (po_some (pe_op op_add (pv 3) pe_int))) pe_str (nomark _)) (pss_one (ps_raise rfl (takes_of rfl rfl rfl rfl) (pmk_own PySem.F.excBase_ValueError x_BadText g_BadText k_BadText (raises_own e_BadText t_BadText) rfl)))
    pss_nil)
    (pss_cons (ps_if (pt_cmpR op_gt (pe_callB call_len_seq (by rfl) m_len PySem.boot_len (pa_cons (pv 2) pa_nil)) (pe_gi rfl g_MOST_PARTS) (nomark _)) (pss_one (ps_raise rfl (takes_of rfl rfl rfl rfl) (pmk_own PySem.F.excBase_ValueError x_BadText g_BadText k_BadText (raises_own e_BadText t_BadText) rfl)))
    pss_nil)
    (pss_one (ps_ret (pe_tup (pa_cons (pv 2) (pa_cons (pe_op op_add (pv 3) pe_int) pa_nil))))))))))), ?_⟩
  refine ⟨by show 0 ≤ sizeLine; decide, fun L hL => ⟨_, rfl, ?_⟩⟩
  have sL := same_new (o := .lst []) hL
  refine ⟨fun m σ H1 => ∃ (acc : List Tm) (vsA : List V) (e : Nat) (more : Bool) (x : Option V), m = (z.length - e) + (if more then 1 else 0) ∧ σ = [some (.str z), some (.int (s0 : Int)), some (.ref L), some (.int (e : Int)), some (.bl more), x] ∧ Same H H1 ∧ H1 L = some (.lst vsA) ∧ IsTms H1 acc vsA ∧ acc.length ≤ e ∧ s0 ≤ e ∧
      (more = true → e < z.length ∧ PP r0 = (PP (z.cps.toList.drop (e + 1))).map (fun x => (acc ++ x.1, x.2))) ∧
      (more = false → e ≤ z.length ∧ PP r0 = match z.cps.toList.drop e with | 41 :: r => some (acc, r) | _ => none), ⟨_, [], [], s0, true, none, rfl, rfl, sL, upd_same, IsTms.nil, Nat.zero_le _, Nat.le_refl _, fun _ => ⟨by omega, by rw [hd1]; cases PP r0 <;> rfl⟩, fun h => by cases h⟩, ?_⟩
  rintro m σ H1 ⟨acc, vsA, e, more, x, rfl, rfl, s1, hL1, ia, la, le, hT, hF⟩
  refine ⟨_, rfl, more, rfl, ?_⟩
  have lv := ia.length
  cases more with
  | true =>
    refine iteT ?_
    obtain ⟨he, hPP⟩ := hT rfl
    refine ⟨fun σ' H' => ∃ (acc : List Tm) (vsA : List V) (e2 : Nat) (more : Bool) (x : Option V), (z.length - e2) + (if more then 1 else 0) < (z.length - e) + 1 ∧ σ' = [some (.str z), some (.int (s0 : Int)), some (.ref L), some (.int (e2 : Int)), some (.bl more), x] ∧ Same H H' ∧ H' L = some (.lst vsA) ∧ IsTms H' acc vsA ∧ acc.length ≤ e2 ∧ s0 ≤ e2 ∧
      (more = true → e2 < z.length ∧ PP r0 = (PP (z.cps.toList.drop (e2 + 1))).map (fun x => (acc ++ x.1, x.2))) ∧
      (more = false → e2 ≤ z.length ∧ PP r0 = match z.cps.toList.drop e2 with | 41 :: r => some (acc, r) | _ => none), fun σ' H' ⟨acc, vsA, e2, more, x, c1, c2⟩ => ⟨_, c1, acc, vsA, e2, more, x, rfl, c2⟩, ?_⟩
    have hcc : (z.cps.toList.drop (e + 1)).count 40 < n := by
      have h1 : z.cps.toList.drop (e + 1) = r0.drop (e - s0) := by
        rw [← hd1, List.drop_drop]
        congr 1
        omega
      rw [h1]
      exact Nat.lt_of_le_of_lt ((List.drop_sublist _ _).count_le 40) hc
    refine ⟨_, rfl, _, rfl, _, _, rfl, rfl, z, e + 1, ?_, by omega, hz, hcc, fun t r ht v p H2 s2 iv hp => ?_, fun hno H2 s2 => ?_⟩
    · show [V.str z, V.int ((e : Int) + 1)] = [V.str z, V.int ((e + 1 : Nat) : Int)]
      rw [show ((e : Int) + 1) = ((e + 1 : Nat) : Int) by omega]
    · -- a part was read
      have hp1 := T_prog ht
      rw [List.length_drop] at hp1
      have htx := T_txt ht
      have hdr : z.cps.toList.drop (z.length - r.length) = r := by rw [ll]; exact suffix_drop htx (by omega)
      refine ⟨p, _, rfl, SqT.of hp, rfl, _, _, rfl, _, _, rfl, rfl, ?_⟩
      have hL2 := s2 _ _ hL1
      refine ⟨_, rfl, .inl ⟨rfl, _, SqL.of hL2⟩, _, rfl, L, vsA, v, rfl, rfl, hL2, ?_, ?_⟩
      · have := sizeLine_eq
        omega
      have i3 : IsTms (upd H2 L (.lst (vsA ++ [v]))) (acc ++ [t]) (vsA ++ [v]) := ((ia.mono (Tk.same s2)).append (IsTms.one iv)).mono (Tk.lst hL2)
      have s3 : Same H (upd H2 L (.lst (vsA ++ [v]))) := fun b o q => by
        rw [upd_ne (ne_of_none q hL)]
        exact s2 _ _ (s1 _ _ q)
      have hL3 : upd H2 L (.lst (vsA ++ [v])) L = some (.lst (vsA ++ [v])) := upd_same
      generalize upd H2 L (.lst (vsA ++ [v])) = H3 at i3 s3 hL3
      have hPP2 : PP r0 = (afterPart PP (t, r)).map (fun x => (acc ++ x.1, x.2)) := by
        rw [hPP, PP_eq, ht]
        rfl
      have hsign := cut_sign z (z.length - r.length) 44 (PySem.Str.ofString ",") (by decide +kernel)
      rw [hdr] at hsign
      refine ⟨_, rfl, _, rfl, _, rfl, _, rfl, _, _, rfl, rfl, _, rfl, z, rfl, hz2, rfl, ?_⟩
      have hlr : r.length ≤ z.length := by omega
      refine ⟨acc ++ [t], vsA ++ [v], z.length - r.length, decide (V.str (cutS z (some ((z.length - r.length : Nat) : Int)) (some (((z.length - r.length : Nat) : Int) + 1))) = V.str (PySem.Str.ofString ",")), some v, ?_, rfl, s3, hL3, i3, ?_, by omega, fun h => ?_, fun h => ?_⟩
      · split <;> omega
      · rw [List.length_append, List.length_singleton]; omega
      · have h2 := of_decide_eq_true h
        injection h2 with h2
        obtain ⟨r', hr'⟩ := hsign.mp h2
        have hl' := congrArg List.length hr'
        rw [List.length_cons] at hl'
        refine ⟨by omega, ?_⟩
        have h3 : z.cps.toList.drop (z.length - r.length + 1) = r' := by rw [← List.drop_drop, hdr, hr']; rfl
        rw [hPP2, h3, hr']
        simp only [afterPart]
        cases PP r' with
        | none => rfl
        | some y => simp
      · refine ⟨by omega, ?_⟩
        have h2 := of_decide_eq_false h
        have hno : ∀ r', r ≠ 44 :: r' := fun r' q => h2 (by rw [hsign.mpr ⟨r', q⟩])
        rw [hPP2, hdr]
        unfold afterPart
        simp only
        split
        · exact absurd rfl (hno _)
        · rfl
        · rename_i q1 q2
          split
          · exact absurd rfl (q2 _)
          · rfl
    · -- no part was read
      refine qN (fun ps r h => ?_) H2 (s1.trans s2)
      rw [hPP, PP_eq, hno] at h
      simp at h
  | false =>
    refine iteF ?_
    obtain ⟨he, hPP⟩ := hF rfl
    have hsign := cut_sign z e 41 (PySem.Str.ofString ")") (by decide +kernel)
    refine ⟨_, rfl, _, rfl, _, rfl, _, rfl, _, _, rfl, rfl, _, rfl, z, rfl, hz2, rfl, _, rfl, ?_⟩
    refine ite2 (fun c => ?_) (fun c => ?_)
    · -- no bracket
      refine qN (fun ps r h => ?_) H1 s1
      have hno : ∀ r', z.cps.toList.drop e ≠ 41 :: r' := fun r' q => by
        rw [show cutS z (some (e : Int)) (some ((e : Int) + 1)) = PySem.Str.ofString ")" from hsign.mpr ⟨r', q⟩, decide_eq_true rfl] at c
        cases c
      rw [hPP] at h
      split at h
      · rename_i r' q
        exact absurd q (hno r')
      · cases h
    have hyes : cutS z (some (e : Int)) (some ((e : Int) + 1)) = PySem.Str.ofString ")" := by
      by_cases h : cutS z (some (e : Int)) (some ((e : Int) + 1)) = PySem.Str.ofString ")"
      · exact h
      · exfalso
        apply c
        rw [decide_eq_false (fun q => h (by injection q))]
        rfl
    obtain ⟨r, hr'⟩ := hsign.mp hyes
    rw [hr'] at hPP
    have hPP : PP r0 = some (acc, r) := hPP
    have hl' := congrArg List.length hr'
    rw [List.length_drop, List.length_cons] at hl'
    refine ⟨_, rfl, L, _, rfl, .inl (SqL.of hL1), _, _, rfl, rfl, _, rfl, ?_⟩
    refine ite2 (fun c => ?_) (fun c => ?_)
    · have c2 : (3 : Int) < ((vsA.length : Nat) : Int) := of_decide_eq_true c
      refine qN (fun ps r2 h => ?_) H1 s1
      rw [hPP] at h
      injection h with h; injection h with h1 h2
      rw [← h1]
      omega
    · have c2 : ¬ (3 : Int) < ((vsA.length : Nat) : Int) := fun h => c (decide_eq_true h)
      refine ⟨_, rfl, _, rfl, _, _, rfl, rfl, (by show 2 ≤ sizeLine; decide), fun p hp => ?_⟩
      have s2 := same_new (o := .tup [.ref L, .int ((e : Int) + 1)]) hp
      refine qY acc r hPP (by omega) L vsA p _ (s1.trans s2) (ia.mono (Tk.same s2)) (s2 _ _ hL1) ?_
      rw [upd_same]
      show some (HO.tup [V.ref L, V.int ((e : Int) + 1)]) = _
      rw [show ((e : Int) + 1) = ((z.length - r.length : Nat) : Int) by omega]
theorem ok_reads {C : Addr} {tk : Tok} (m_len : mg "len" = none) (g_MOST_PARTS : mg "MOST_PARTS" = some (.int 3 tk)) (T0 : Err K mg "BadText" C) (A1 : FAt K mg "_term_at" s_term_at ["text", "start"]) (A2 : FAt K mg "_parts_at" s_parts_at ["text", "start"])
    (h_letters_end : Has P w K mg base CX0 2 "_letters_end" ["text", "start"] spEnd) (h_is_name : Has P w K mg base CX0 2 "_is_name" ["text"] spName) : ∀ n, Has P w K mg base (L2.CX P w) (2 * n + 2) "_term_at" ["text", "start"] (spTermAt C n)
  | 0 => (Has.none (CX := L2.CX P w) (sp := spTermAt C 0) A1 fun vs H Q E h => by
      obtain ⟨z, s, _, _, _, hc, _⟩ := h
      omega).mono (by omega)
  | n + 1 => ok_term_at T0 A1 h_letters_end h_is_name (ok_parts_at m_len g_MOST_PARTS T0 A2 (ok_reads m_len g_MOST_PARTS T0 A1 A2 h_letters_end h_is_name n))
end
end Ab
namespace Ab
open PySem PySem.Spec PyProof.Rows L2
section
variable {P : Program} {w : World} {K : PySem.W.Frag} {mg : Str → Option Value} {base : Heap}
def spRead (C : Addr) : Sp := fun vs H Q E => ∃ z : Str, vs = [.str z] ∧ z.length ≤ 10000 ∧ (∀ t, RD z.cps.toList = some t → ∀ v H', Same H H' → IsTm H' t v → Q v H') ∧ (RD z.cps.toList = none → ∀ H', Same H H' → E (.ref C) none H')
theorem count_t (z s : Str) (c : Nat) (h : s = ⟨#[c]⟩) : Txt.count z s = (z.cps.toList.count c : Nat) := by subst h; exact count_one z c
theorem RD_some {l : List Nat} {t : Tm} (h : RD l = some t) : T l = some (t, []) ∧ t.size ≤ 40 := by
  unfold RD at h
  split at h
  · rename_i t' e
    split at h
    · injection h with h; subst h; exact ⟨e, by assumption⟩
    · cases h
  · cases h
theorem RD_of {l : List Nat} {t : Tm} (h : T l = some (t, [])) (s : t.size ≤ 40) : RD l = some t := by
  unfold RD
  rw [h]
  simp only
  rw [if_pos s]
theorem T_cnt {l : List Nat} {t : Tm} (h : T l = some (t, [])) : cnt l + 1 = t.size := by
  have h1 := T_txt h
  rw [List.append_nil] at h1
  rw [h1]
  exact t.cnt_txt (T_wf h)
theorem ok_read {C : Addr} {tk : Tok} (m_len : mg "len" = none) (g_MOST_NAMES : mg "MOST_NAMES" = some (.int 40 tk)) (T0 : Err K mg "BadText" C) (A : FAt K mg "read" s_read ["text"])
    (h_term_at : Has P w K mg base (L2.CX P w) 82 "_term_at" ["text", "start"] (spTermAt C 40)) : Has P w K mg base (L2.CX P w) 83 "read" ["text"] (spRead C) := by
  obtain ⟨f_term_at, d_term_at, g_term_at, k_term_at, b_term_at, G_term_at⟩ := h_term_at
  obtain ⟨g_BadText, x_BadText, k_BadText, e_BadText, t_BadText⟩ := T0
  refine A.okX sc_read (fun vs H Q E h => ?_) (fun f cdv A outer s H vs Q E hr h => ?_)
  · obtain ⟨z, rfl, _⟩ := h; rfl
  obtain ⟨z, rfl, hz, qY, qN⟩ := h
  have hz2 : z.length ≤ sizeLine := by have := sizeLine_eq; omega
  have ll := slen z
  have c1 := count_t z (PySem.Str.ofString "(") 40 (by decide +kernel)
  have c2 := count_t z (PySem.Str.ofString ",") 44 (by decide +kernel)
  refine ⟨_, (pss_cons (ps_if (pt_cmpR op_ge (pe_op op_add (pe_m1 PySem.F.slot_str_count PySem.F.type_str_count mt_count (pv 0) pe_str) (pe_m1 PySem.F.slot_str_count PySem.F.type_str_count mt_count (pv 0) pe_str)) (pe_gi rfl g_MOST_NAMES) (nomark _)) (pss_one (ps_raise rfl (takes_of rfl rfl rfl rfl) (pmk_own PySem.F.excBase_ValueError x_BadText g_BadText k_BadText (raises_own e_BadText t_BadText) rfl)))
    pss_nil)
    (pss_cons (ps_asg (pe_call G_term_at (hr.mono (by omega)) rfl g_term_at k_term_at b_term_at .nil (passes_call (takes_of rfl rfl rfl rfl) (fun _ _ _ _ h => h)) (pa_cons (pv 0) (pa_cons pe_int pa_nil))) (pg_tup rfl (pgs_cons (pg_name (i := 1) sc_read.nd rfl (Or.inl rfl)) (pgs_cons (pg_name (i := 2) sc_read.nd rfl (Or.inl rfl)) pgs_nil))))
    (pss_cons (ps_if (pt_cmpR op_lt (pv 2) (pe_callB call_len_str (by rfl) m_len PySem.boot_len (pa_cons (pv 0) pa_nil)) (nomark _)) (pss_one (ps_raise rfl (takes_of rfl rfl rfl rfl) (pmk_own PySem.F.excBase_ValueError x_BadText g_BadText k_BadText (raises_own e_BadText t_BadText) rfl)))
    pss_nil)
    (pss_one (ps_ret (pv 1)))))), ?_⟩
  refine ⟨_, rfl, ⟨_, rfl⟩, z, _, rfl, rfl, _, rfl, ⟨_, rfl⟩, z, _, rfl, rfl, _, _, rfl, rfl, _, _, rfl, rfl, _, rfl, ?_⟩
  rw [c1, c2]
  refine ite2 (fun c => ?_) (fun c => ?_)
  · have c' : (40 : Int) ≤ ((z.cps.toList.count 40 : Nat) : Int) + ((z.cps.toList.count 44 : Nat) : Int) := of_decide_eq_true c
    refine qN ?_ H (Same.refl H)
    cases h : RD z.cps.toList with
    | none => rfl
    | some t =>
      obtain ⟨h1, h2⟩ := RD_some h
      have := T_cnt h1
      unfold cnt at this
      omega
  have c' : ¬ (40 : Int) ≤ ((z.cps.toList.count 40 : Nat) : Int) + ((z.cps.toList.count 44 : Nat) : Int) := fun h => c (decide_eq_true h)
  refine ⟨_, rfl, z, 0, rfl, Nat.zero_le _, hz, by rw [List.drop_zero]; omega, fun t r ht v p H1 s1 iv hp => ?_, fun hno H1 s1 => ?_⟩
  · rw [List.drop_zero] at ht
    refine ⟨p, _, rfl, SqT.of hp, rfl, _, _, rfl, _, _, rfl, rfl, ?_⟩
    refine ⟨_, rfl, _, rfl, z, rfl, hz2, _, _, rfl, rfl, _, rfl, ?_⟩
    have hl := T_prog ht
    refine ite2 (fun e => ?_) (fun e => ?_)
    · have e' : ((z.length - r.length : Nat) : Int) < (z.length : Int) := of_decide_eq_true e
      refine qN ?_ H1 s1
      unfold RD
      rw [ht]
      cases r with
      | nil => simp at e'
      | cons a b => rfl
    · have e' : ¬ ((z.length - r.length : Nat) : Int) < (z.length : Int) := fun h => e (decide_eq_true h)
      have er : r = [] := List.eq_nil_of_length_eq_zero (by omega)
      subst er
      have := T_cnt ht
      unfold cnt at this
      exact ⟨_, rfl, qY t (RD_of ht (by omega)) v H1 s1 iv⟩
  · rw [List.drop_zero] at hno
    refine qN ?_ H1 s1
    unfold RD
    rw [hno]
end
end Ab
/-! A dict of the module's own, texts to texts: asked, read, walked. -/
namespace Ab
open PySem PySem.Spec PyProof.Rows L2
def WEnt (kv : Str × Str) (e : DictEntry) : Prop := (∃ t, e.key = .str kv.1 t) ∧ ∃ t, e.val = .str kv.2 t
def WD (K : PySem.W.Frag) (w : World) (d : Addr) (kvs : List (Str × Str)) : Prop :=
  (d == sysModules) = false ∧ ∃ es n, K.lookup d = some ⟨.type "dict", none, .dict es n, #[]⟩ ∧ PySem.W.KeysLit w.params es.toList ∧ Paired WEnt kvs es.toList
theorem isStr_key (k z : Str) (t : Tok) : (Value.str k t).isStr z = decide (k = z) := by
  rw [PySem.W.isStr_of]
  by_cases h : k = z
  · subst h; simp [Value.isStrOf]
  · simp [Value.isStrOf, h]
theorem find_w {z : Str} : ∀ {kvs : List (Str × Str)} {l : List DictEntry}, Paired WEnt kvs l → (∀ v, kvs.lookup z = some v → ∃ e t, l.find? (·.key.isStr z) = some e ∧ e.val = .str v t) ∧ (kvs.lookup z = none → l.find? (·.key.isStr z) = none ∧ l.any (·.refKey) = false)
  | _, _, .nil => ⟨fun v h => by simp at h, fun _ => ⟨rfl, rfl⟩⟩
  | _, _, .cons (a := kv) (b := e) (l₁ := kvs) (l₂ := l) ⟨⟨t, ek⟩, ⟨u, ev⟩⟩ r => by
    have ih := find_w (z := z) r
    have hr : e.refKey = false := by unfold DictEntry.refKey; rw [ek]
    by_cases h : z = kv.1
    · subst h
      refine ⟨fun v hv => ?_, fun hv => ?_⟩
      · rw [List.lookup_cons] at hv
        simp only [beq_self_eq_true] at hv
        injection hv with hv
        subst hv
        exact ⟨e, u, by rw [List.find?_cons, ek, isStr_key, decide_eq_true rfl], ev⟩
      · rw [List.lookup_cons] at hv
        simp at hv
    · have hb : (z == kv.1) = false := by simpa using h
      have hd : e.key.isStr z = false := by rw [ek, isStr_key]; exact decide_eq_false (fun q => h q.symm)
      refine ⟨fun v hv => ?_, fun hv => ?_⟩
      · rw [List.lookup_cons, hb] at hv
        obtain ⟨e', t', h1, h2⟩ := ih.1 v hv
        exact ⟨e', t', by rw [List.find?_cons, hd]; exact h1, h2⟩
      · rw [List.lookup_cons, hb] at hv
        obtain ⟨h1, h2⟩ := ih.2 hv
        exact ⟨by rw [List.find?_cons, hd]; exact h1, by rw [List.any_cons, hr, h2]; rfl⟩
section
variable {K : PySem.W.Frag} {w : World} {d : Addr} {kvs : List (Str × Str)} {z v : Str}
theorem WD.get (h : WD K w d kvs) (hv : kvs.lookup z = some v) : ∃ t, PySem.W.nsIn K d z = some (some (.str v t)) := by
  obtain ⟨_, es, n, hl, _, r⟩ := h
  obtain ⟨e, t, h1, h2⟩ := (find_w (z := z) r).1 v hv
  refine ⟨t, ?_⟩
  unfold PySem.W.nsIn
  rw [hl]
  simp only [h1, h2]
theorem WD.none (h : WD K w d kvs) (hv : kvs.lookup z = Option.none) : PySem.W.nsIn K d z = some Option.none := by
  obtain ⟨_, es, n, hl, _, r⟩ := h
  obtain ⟨h1, h2⟩ := (find_w (z := z) r).2 hv
  unfold PySem.W.nsIn
  rw [hl]
  simp only [h1, h2]
  rfl
theorem WD.kdct (h : WD K w d kvs) (hv : kvs.lookup z = some v) : KDct K w d z (.str v) := by
  obtain ⟨t, h1⟩ := h.get hv
  obtain ⟨_, es, n, hl, hk, _⟩ := h
  exact ⟨es, n, _, hl, hk, h1, ⟨t, rfl⟩⟩
theorem WD.kd (h : WD K w d kvs) : ∃ es n, KDict K w d es n := by
  obtain ⟨lo, es, n, hl, hk, _⟩ := h
  exact ⟨es, n, ⟨hl, hk, lo⟩⟩
end
/-- x in D, x not in D -/
theorem op_inW {X : Cx} {d : Addr} {kvs : List (Str × Str)} (D : WD X.K X.w d kvs) : OpR X (compareOp .In) (fun x y H Q => ∃ z : Str, x = .str z ∧ y = .ref d ∧ Q (.bl (kvs.lookup z).isSome) H) := by
  obtain ⟨es, n, kd⟩ := D.kd
  intro pins s σ H x y v u Q I rx ry ⟨z, e1, e2, q⟩
  refine op_in_kd kd pins s σ H x y v u Q I rx ry ?_
  cases h : kvs.lookup z with
  | none => exact ⟨z, _, e1, e2, D.none h, by rw [h] at q; exact q⟩
  | some r =>
    obtain ⟨t, ht⟩ := D.get h
    exact ⟨z, _, e1, e2, ht, by rw [h] at q; exact q⟩
theorem op_notInW {X : Cx} {d : Addr} {kvs : List (Str × Str)} (D : WD X.K X.w d kvs) : OpR X (compareOp .NotIn) (fun x y H Q => ∃ z : Str, x = .str z ∧ y = .ref d ∧ Q (.bl (!(kvs.lookup z).isSome)) H) := by
  obtain ⟨es, n, kd⟩ := D.kd
  intro pins s σ H x y v u Q I rx ry ⟨z, e1, e2, q⟩
  refine op_notIn_kd kd pins s σ H x y v u Q I rx ry ?_
  cases h : kvs.lookup z with
  | none => exact ⟨z, _, e1, e2, D.none h, by rw [h] at q; exact q⟩
  | some r =>
    obtain ⟨t, ht⟩ := D.get h
    exact ⟨z, _, e1, e2, ht, by rw [h] at q; exact q⟩
/-! ### its keys walked -/
def ItW (kvs : List (Str × Str)) : It := ⟨fun i _ => i < kvs.length, fun i H x H' => H' = H ∧ ∃ kv, kvs[i]? = some kv ∧ x = .str kv.1, fun i _ => kvs.length ≤ i⟩
theorem paired_at {α β : Type} {G : α → β → Prop} : ∀ {l₁ : List α} {l₂ : List β}, Paired G l₁ l₂ → ∀ {i : Nat} {a : α}, l₁[i]? = some a → ∃ b, l₂[i]? = some b ∧ G a b
  | _, _, .nil, i, a, h => by simp at h
  | _, _, .cons r t, 0, a, h => by simp at h; subst h; exact ⟨_, rfl, r⟩
  | _, _, .cons r t, i + 1, a, h => by simp at h; obtain ⟨b, h1, h2⟩ := paired_at t h; exact ⟨b, by simpa using h1, h2⟩
theorem turn_keysW {P : Program} {w : World} {K : PySem.W.Frag} {tg : Expr} {d : Addr} {es : Array DictEntry} {n : Nat} {kvs : List (Str × Str)} (it : Addr) (hl : K.lookup d = some ⟨.type "dict", none, .dict es n, #[]⟩) (pr : Paired WEnt kvs es.toList) :
    Turn P w K tg (ItW kvs) [it] it (fun i h => h.IsKeyIter it d i kvs.length n) where
  mem := by simp
  obj := fun i h st b hb => by
    have e : b = it := by simpa using hb
    subst e
    obtain ⟨oi, e, c, dd⟩ := st
    exact ⟨oi, e, fun v z => by rw [dd] at z; cases z⟩
  keep := fun i h h' st k => st.at fun oi e => k it (by simp) oi e
  item := by
    intro X hP hw hK hc i pins s σ H E I hf st hg
    subst hP hw hK
    obtain ⟨f0, f1, f2, f3, f4, f5⟩ := hf it (by simp)
    obtain ⟨kv, hkv⟩ : ∃ p, kvs[i]? = some p := ⟨kvs[i], List.getElem?_eq_getElem hg⟩
    obtain ⟨en, hen, ⟨t, hkey⟩, _⟩ := paired_at pr hkv
    have hsz : es.size = kvs.length := by rw [← Array.length_toList]; exact pr.length.symm
    refine next_key_item st (I.kIn _ _ hl) rfl hsz (by rw [← Array.getElem?_toList]; exact hen) fun h' st' sb => ?_
    have I1 : Inv X pins σ H { s with heap := h' } := I.turned (t' := s.toks) (fun b ob hb e => (sb.2 b hb).trans e) f0 f1 f3 f4 f5
    obtain ⟨oi, e, c, dd⟩ := id st'
    exact ⟨en.key, rfl, go_of (s := { s with heap := h' }) e c dd (by decide) ⟨.str kv.1, H, I1, ⟨t, hkey⟩, ⟨rfl, kv, hkv, rfl⟩, st', fun b hb => (hf b hb).1⟩⟩
  done := by
    intro X hP hw hK hc i pins s σ H E I hf st hg
    subst hP hw hK
    obtain ⟨f0, f1, f2, f3, f4, f5⟩ := hf it (by simp)
    have hsz : es.size = kvs.length := by rw [← Array.length_toList]; exact pr.length.symm
    exact next_key_end (I.ok.hd hc) st (I.kIn _ _ hl) rfl hsz hg fun h' eb => ⟨rfl, I.turned (t' := s.toks) (fun b ob hb e => eb b ob hb e) f0 f1 f3 f4 f5⟩
  self := fun A i s Q E st h => wpAny_pyIter_keyiter st h
def iKeysW (d : Addr) (kvs : List (Str × Str)) (td : TE) : TI := fun σ H R => td σ H fun x H1 => x = .ref d ∧ R (ItW kvs) H1
theorem pi_keysW {X : Cx} {tg e : Expr} {td : TE} {d : Addr} {kvs : List (Str × Str)} (D : WD X.K X.w d kvs) (he : PE X e td) : PI X tg e (iKeysW d kvs td) := by
  obtain ⟨lo, es, n, hl, hk, pr⟩ := D
  refine ⟨fun pins s σ H R I h => ?_⟩
  refine thn (he.run pins s σ H _ I h) fun u s1 ⟨x, H1, I1, rx, ex, q⟩ => ?_
  subst ex
  obtain rfl : u = Value.ref d := rx
  have hsz : es.size = kvs.length := by rw [← Array.length_toList]; exact pr.length.symm
  refine iter_keys lo (I1.kIn _ _ hl) ⟨rfl, rfl, rfl⟩ rfl (pi_one (tk := s1.toks) I1 _ (turn_keysW _ hl pr) ⟨_, Heap.get?_push_size _ rfl, rfl, ?_⟩ q)
  rw [hsz] <;> rfl
theorem walk_keysW {kvs : List (Str × Str)} : Walk (ItW kvs) kvs.length (fun _ => True) (fun i H x H' => H' = H ∧ ∃ kv, kvs[i]? = some kv ∧ x = .str kv.1) :=
  ⟨fun _ _ hi _ => hi, fun _ _ => Nat.le_refl _, fun _ _ _ _ _ _ y => y⟩
end Ab
/-! Facts. -/
namespace Ab
open PySem PySem.Spec PyProof.Rows L2
structure Fc where
  w : Str
  s : Tm
  t : Tm
def SG : List (Str × Str) := [("alike", "="), ("unlike", "!="), ("most", "<="), ("over", ">")]
def OP : List (Str × Str) := [("alike", "unlike"), ("unlike", "alike"), ("most", "over"), ("over", "most")]
def Tm.ok (t : Tm) : Prop := t.wf ∧ t.size ≤ 40
def Fc.ok (f : Fc) : Prop := (SG.lookup f.w).isSome = true ∧ f.s.ok ∧ f.t.ok
def IsFc (H : Hp) (f : Fc) (v : V) : Prop := ∃ (a : Addr) (va vb : V), v = .ref a ∧ H a = some (.tup [.str f.w, va, vb]) ∧ IsTm H f.s va ∧ IsTm H f.t vb
theorem IsFc.mono {H H' : Hp} {f : Fc} {v : V} (k : Tk H H') (h : IsFc H f v) : IsFc H' f v := by
  obtain ⟨a, va, vb, e, h1, h2, h3⟩ := h
  exact ⟨a, va, vb, e, k.tup h1, h2.mono k, h3.mono k⟩
def Fc.data (f : Fc) : PyData := .tuple [.str f.w, f.s.data, f.t.data]
theorem IsFc.dp {K : PySem.W.Frag} {H : Hp} {f : Fc} {v : V} (h : IsFc H f v) : Dp K H v f.data := by
  obtain ⟨a, va, vb, rfl, h1, h2, h3⟩ := h
  exact .tup (SqT.of h1) (.cons (.str _) (.cons h2.dp (.cons h3.dp .nil)))
/-- the four words -/
theorem word_cases {w : Str} (h : (SG.lookup w).isSome = true) : w = "alike" ∨ w = "unlike" ∨ w = "most" ∨ w = "over" := by
  by_cases h1 : w = "alike"
  · exact .inl h1
  by_cases h2 : w = "unlike"
  · exact .inr (.inl h2)
  by_cases h3 : w = "most"
  · exact .inr (.inr (.inl h3))
  by_cases h4 : w = "over"
  · exact .inr (.inr (.inr h4))
  · exfalso
    have e1 : (w == ("alike" : Str)) = false := by simpa using h1
    have e2 : (w == ("unlike" : Str)) = false := by simpa using h2
    have e3 : (w == ("most" : Str)) = false := by simpa using h3
    have e4 : (w == ("over" : Str)) = false := by simpa using h4
    unfold SG at h
    rw [List.lookup_cons, e1, List.lookup_cons, e2, List.lookup_cons, e3, List.lookup_cons, e4] at h
    simp at h
theorem word_ok {w : Str} (h : (SG.lookup w).isSome = true) : PyData.strOk w = true := by
  rcases word_cases h with rfl | rfl | rfl | rfl <;> decide +kernel
theorem Fc.shaped {f : Fc} (h : f.ok) : SeqAt.shaped f.data = true := by
  have l1 := f.s.lay h.2.1.1
  have l2 := f.t.lay h.2.2.1
  have d1 := f.s.ddepth
  have d2 := f.t.ddepth
  have d3 := f.s.depth_le
  have d4 := f.t.depth_le
  have z1 := h.2.1.2
  have z2 := h.2.2.2
  show (f.data.canLay0 && decide (f.data.depth ≤ 64)) = true
  rw [Bool.and_eq_true]
  refine ⟨?_, decide_eq_true ?_⟩
  · simp only [Fc.data, PyData.canLay0, PyData.canLayAll0, Bool.and_eq_true]
    exact ⟨word_ok h.1, l1, l2, trivial⟩
  · simp only [Fc.data, PyData.depth, PyData.depthAll]
    omega
theorem Fc.eqv (f g : Fc) : PyData.eqv f.data g.data = true ↔ f = g := by
  obtain ⟨w, s, t⟩ := f
  obtain ⟨w', s', t'⟩ := g
  simp only [Fc.data, PyData.eqv, PyData.eqvAll, Bool.and_eq_true, beq_iff_eq, Fc.mk.injEq, and_true]
  exact and_congr Iff.rfl (and_congr (Tm.eqv s s') (Tm.eqv t t'))
def Fc.opp (f : Fc) : Fc := ⟨(OP.lookup f.w).getD Str.empty, f.s, f.t⟩
theorem Fc.opp_ok {f : Fc} (h : f.ok) : f.opp.ok := by
  refine ⟨?_, h.2⟩
  show (SG.lookup ((OP.lookup f.w).getD Str.empty)).isSome = true
  rcases word_cases h.1 with e | e | e | e <;> rw [e] <;> decide +kernel
theorem Fc.opp_opp {f : Fc} (h : f.ok) : f.opp.opp = f := by
  obtain ⟨w, s, t⟩ := f
  show (⟨(OP.lookup ((OP.lookup w).getD Str.empty)).getD Str.empty, s, t⟩ : Fc) = ⟨w, s, t⟩
  have : (OP.lookup ((OP.lookup w).getD Str.empty)).getD Str.empty = w := by
    rcases word_cases h.1 with e | e | e | e
    all_goals (change w = _ at e; subst e; decide +kernel)
  rw [this]
theorem op_some {w : Str} (h : (SG.lookup w).isSome = true) : OP.lookup w = some ((OP.lookup w).getD Str.empty) := by
  rcases word_cases h with rfl | rfl | rfl | rfl <;> decide +kernel
theorem sg_some {w : Str} (h : (SG.lookup w).isSome = true) : SG.lookup w = some ((SG.lookup w).getD Str.empty) := by
  cases e : SG.lookup w with
  | none => rw [e] at h; cases h
  | some x => rfl
/-- a fact's text -/
def Fc.sign (f : Fc) : Str := (SG.lookup f.w).getD Str.empty
def Fc.txt (f : Fc) : List Nat := f.s.txt ++ 32 :: (f.sign.cps.toList ++ 32 :: f.t.txt)
theorem sign_len {f : Fc} (h : f.ok) : f.sign.length ≤ 2 := by
  unfold Fc.sign
  rcases word_cases h.1 with e | e | e | e <;> rw [e] <;> decide +kernel
theorem sign_free {f : Fc} (h : f.ok) : 32 ∉ f.sign.cps.toList := by
  unfold Fc.sign
  rcases word_cases h.1 with e | e | e | e <;> rw [e] <;> decide +kernel
/-- the word of a sign -/
def sgOf (s : Str) : Option Str := (SG.find? fun kv => kv.2 == s).map (·.1)
theorem sgOf_sign {f : Fc} (h : f.ok) : sgOf f.sign = some f.w := by
  unfold Fc.sign
  rcases word_cases h.1 with e | e | e | e <;> rw [e] <;> decide +kernel
theorem sgOf_ok {s w : Str} (h : sgOf s = some w) : (SG.lookup w).isSome = true := by
  unfold sgOf at h
  cases e : SG.find? fun kv => kv.2 == s with
  | none => rw [e] at h; simp at h
  | some kv =>
    rw [e] at h
    simp at h
    subst h
    have := List.mem_of_find?_eq_some e
    unfold SG at this
    simp only [List.mem_cons, List.not_mem_nil, or_false] at this
    rcases this with rfl | rfl | rfl | rfl <;> decide +kernel
/-- what a text split at its blanks tells -/
def RFs (ps : List Str) : Option Fc := match ps with
  | [a, s, b] => match sgOf s, RD a.cps.toList, RD b.cps.toList with
    | some w, some t, some u => some ⟨w, t, u⟩
    | _, _, _ => none
  | _ => none
def SP : Str := " "
theorem letters_free : ∀ {l : List Nat}, (∀ c ∈ l, isLet c = true) → 32 ∉ l := fun h m => by
  have := h 32 m
  revert this
  decide
mutual
theorem Tm.free : ∀ t : Tm, t.wf → 32 ∉ t.txt
  | .mk n [], h => by
    simp only [Tm.wf] at h
    rw [txt_nil]
    exact letters_free h.1.2.2
  | .mk n (p :: ps), h => by
    simp only [Tm.wf] at h
    have h1 := letters_free h.1.2.2
    have h2 := Tm.frees (p :: ps) h.2.2
    rw [txt_cons]
    simp only [List.mem_append, List.mem_cons, List.not_mem_nil, or_false]
    rintro (m | m | m | m)
    · exact h1 m
    · cases m
    · exact h2 m
    · cases m
theorem Tm.frees : ∀ ts : List Tm, Tm.wfs ts → 32 ∉ TL.joinL [44] (Tm.txts ts)
  | [], _ => by simp [Tm.txts, TL.joinL]
  | [p], h => by
    simp only [Tm.wfs] at h
    simp only [Tm.txts, TL.joinL]
    exact Tm.free p h.1
  | p :: q :: ps, h => by
    simp only [Tm.wfs] at h
    have h1 := Tm.free p h.1
    have h2 := Tm.frees (q :: ps) (by simp only [Tm.wfs]; exact h.2)
    simp only [Tm.txts, TL.joinL, List.mem_append, List.mem_cons, List.not_mem_nil, or_false] at h2 ⊢
    rintro (m | m | m)
    · exact h1 m
    · cases m
    · exact h2 m
end
theorem RD_txt {t : Tm} {l : List Nat} (h : t.wf) (s : t.size ≤ 40) (e : l = t.txt) : RD l = some t := by
  subst e
  unfold RD
  have := T_of t [] h (fun c r' e => by cases e)
  rw [List.append_nil] at this
  rw [this]
  simp only
  rw [if_pos s]
/-- a written fact is split into its three -/
theorem split_fact {f : Fc} (h : f.ok) {z : Str} (hz : z.cps.toList = f.txt) : RFs (Txt.split z SP) = some f := by
  have e : z = Txt.join SP [⟨f.s.txt.toArray⟩, f.sign, ⟨f.t.txt.toArray⟩] := by
    apply str_ext
    rw [TL.join_eq]
    have := TL.tl_join SP [⟨f.s.txt.toArray⟩, f.sign, ⟨f.t.txt.toArray⟩]
    have e2 : (Str.join SP [⟨f.s.txt.toArray⟩, f.sign, ⟨f.t.txt.toArray⟩]).cps.toList = TL.joinL (TL.tl SP) ([(⟨f.s.txt.toArray⟩ : Str), f.sign, ⟨f.t.txt.toArray⟩].map TL.tl) := this
    rw [e2, hz]
    show f.txt = f.s.txt ++ ([32] ++ (f.sign.cps.toList ++ ([32] ++ f.t.txt)))
    unfold Fc.txt
    simp
  rw [e, TL.split_join (y := SP) (s := 32) (S := []) (by decide +kernel) (by decide +kernel) (by simp) ?_]
  · unfold RFs
    simp only
    rw [sgOf_sign h, RD_txt h.2.1.1 h.2.1.2 rfl, RD_txt h.2.2.1 h.2.2.2 rfl]
  · intro p hp
    simp only [List.mem_cons, List.not_mem_nil, or_false] at hp
    rcases hp with rfl | rfl | rfl
    · exact f.s.free h.2.1.1
    · exact sign_free h
    · exact f.t.free h.2.2.1
theorem join_split (z : Str) : Str.join SP (Txt.split z SP) = z := by
  unfold Txt.split
  split
  · rfl
  · split
    · rfl
    · rw [← PySem.StrLaws.glued_eq_join]
      exact PySem.StrLaws.glued_between_self z SP _
theorem piece_len {z a s b : Str} (h : Txt.split z SP = [a, s, b]) : a.length ≤ z.length ∧ s.length ≤ z.length ∧ b.length ≤ z.length := by
  have e := join_split z
  rw [h] at e
  have e2 : (a ++ SP ++ (s ++ SP ++ b)).length = z.length := congrArg Str.length e
  rw [sla, sla, sla, sla] at e2
  omega
theorem Fc.txt_len {f : Fc} (h : f.ok) : f.txt.length ≤ 1000 := by
  have h1 := f.s.txt_len h.2.1.1
  have h2 := f.t.txt_len h.2.2.1
  have h3 := sign_len h
  rw [slen] at h3
  have z1 := h.2.1.2
  have z2 := h.2.2.2
  unfold Fc.txt
  simp only [List.length_append, List.length_cons]
  omega
end Ab
namespace Ab
open PySem PySem.Spec PyProof.Rows L2
section
variable {P : Program} {w : World} {K : PySem.W.Frag} {mg : Str → Option Value} {base : Heap}
/-! ### facts -/
def spNeedF (CF CT : Addr) : Sp := fun vs H Q E => ∃ (v : V) (a : Addr) (wd : Str) (ts : List Tm) (us : List V), vs = [v] ∧ v = .ref a ∧ H a = some (.tup (.str wd :: us)) ∧ IsTms H ts us ∧ Tm.smls ts ∧ Tm.sizes ts ≤ 1000 ∧
  (ts.length = 2 → (SG.lookup wd).isSome = true → (∀ t ∈ ts, t.ok) → ∀ H', Same H H' → Q .non H') ∧
  (¬ (ts.length = 2 ∧ (SG.lookup wd).isSome = true) → ∀ H', Same H H' → E (.ref CF) none H') ∧
  (ts.length = 2 → (SG.lookup wd).isSome = true → (¬ ∀ t ∈ ts, t.ok) → ∀ H', Same H H' → E (.ref CT) none H')
def spOpp : Sp := fun vs H Q _ => ∃ (v : V) (f : Fc), vs = [v] ∧ IsFc H f v ∧ f.ok ∧ ∀ v' H', Same H H' → IsFc H' f.opp v' → Q v' H'
def spShownF : Sp := fun vs H Q _ => ∃ (v : V) (f : Fc), vs = [v] ∧ IsFc H f v ∧ f.ok ∧ ∀ z H', Same H H' → z.cps.toList = f.txt → Q (.str z) H'
def spWordOf (C : Addr) : Sp := fun vs H Q E => ∃ z : Str, vs = [.str z] ∧ (∀ x, sgOf z = some x → Q (.str x) H) ∧ (sgOf z = none → E (.ref C) none H)
theorem ok_wordOf {dS C : Addr} (g_SIGNS : mg "SIGNS" = some (.ref dS)) (D_SIGNS : WD K w dS SG) (T : Err K mg "BadText" C) (A : FAt K mg "_word_of" s_word_of ["sign"]) : Has P w K mg base (L2.CX P w) 1 "_word_of" ["sign"] (spWordOf C) := by
  obtain ⟨g_BadText, x_BadText, k_BadText, e_BadText, t_BadText⟩ := T
  refine A.okX sc_word_of (fun vs H Q E h => ?_) (fun f cdv A outer s H vs Q E hr h => ?_)
  · obtain ⟨v, rfl, _⟩ := h; rfl
  obtain ⟨z, rfl, qY, qN⟩ := h
  refine ⟨_, (pss_cons (ps_for (passes_of rfl) rfl (pi_keysW D_SIGNS (pe_gr rfl g_SIGNS)) (pg_name (i := 1) sc_word_of.nd rfl (Or.inl rfl))
    (pss_one (ps_if (pt_cmpR op_eq (pe_ix ix_kdict (pe_gr rfl g_SIGNS) (pv 1) (fun _ _ => rfl)) (pv 0) (nomark _)) (pss_one (ps_ret (pv 1)))
    pss_nil)))
    (pss_one (ps_raise rfl (takes_of rfl rfl rfl rfl) (pmk_own PySem.F.excBase_ValueError x_BadText g_BadText k_BadText (raises_own e_BadText t_BadText) rfl)))), ?_⟩
  refine ⟨rfl, for_it walk_keysW (fun i σ H' => (∃ x, σ = [some (.str z), x]) ∧ H' = H ∧ ∀ j kv, j < i → SG[j]? = some kv → kv.2 ≠ z) ⟨⟨none, rfl⟩, rfl, fun j kv h => by omega⟩ (fun _ _ _ _ _ => trivial) ?_ ?_⟩
  · rintro i x σ H1 H2 hi ⟨⟨y, rfl⟩, rfl, hno⟩ ⟨rfl, kv, hkv, rfl⟩
    have hlk : SG.lookup kv.1 = some kv.2 := by
      have hm := List.mem_of_getElem? hkv
      unfold SG at hm
      simp only [List.mem_cons, List.not_mem_nil, or_false] at hm
      rcases hm with rfl | rfl | rfl | rfl <;> decide +kernel
    refine ⟨_, rfl, dS, kv.1, _, rfl, rfl, D_SIGNS.kdct hlk, _, rfl, rfl, _, rfl, ?_⟩
    refine ite2 (fun c => ?_) (fun c => ?_)
    · have c2 := of_decide_eq_true c
      injection c2 with c2
      refine ⟨_, rfl, qY kv.1 ?_⟩
      subst c2
      have hm := List.mem_of_getElem? hkv
      unfold SG at hm
      simp only [List.mem_cons, List.not_mem_nil, or_false] at hm
      rcases hm with rfl | rfl | rfl | rfl <;> decide +kernel
    · refine ⟨⟨_, rfl⟩, rfl, fun j kv' hj hkv' => ?_⟩
      by_cases e : j = i
      · subst e
        rw [hkv] at hkv'
        injection hkv' with hkv'
        subst hkv'
        intro q
        exact c (decide_eq_true (by rw [q]))
      · exact hno j kv' (by omega) hkv'
  · rintro σ H1 ⟨⟨y, rfl⟩, rfl, hno⟩
    refine qN ?_
    unfold sgOf
    rw [List.find?_eq_none.mpr ?_]
    · rfl
    · intro kv hm
      obtain ⟨j, hj⟩ := List.getElem?_of_mem hm
      have hj2 := (List.getElem?_eq_some_iff.mp hj).1
      have := hno j kv hj2 hj
      simpa using this
def spReadF (C : Addr) : Sp := fun vs H Q E => ∃ z : Str, vs = [.str z] ∧ z.length ≤ 5000 ∧ (∀ f, RFs (Txt.split z SP) = some f → ∀ v H', Same H H' → IsFc H' f v → Q v H') ∧ (RFs (Txt.split z SP) = none → ∀ H', Same H H' → E (.ref C) none H')
theorem ok_readF {C : Addr} (m_len : mg "len" = none) (T : Err K mg "BadText" C) (A : FAt K mg "read_fact" s_read_fact ["text"]) (h_read : Has P w K mg base (L2.CX P w) 83 "read" ["text"] (spRead C))
    (h_word_of : Has P w K mg base (L2.CX P w) 1 "_word_of" ["sign"] (spWordOf C)) : Has P w K mg base (L2.CX P w) 84 "read_fact" ["text"] (spReadF C) := by
  obtain ⟨f_read, d_read, g_read, k_read, b_read, G_read⟩ := h_read
  obtain ⟨f_word_of, d_word_of, g_word_of, k_word_of, b_word_of, G_word_of⟩ := h_word_of
  obtain ⟨g_BadText, x_BadText, k_BadText, e_BadText, t_BadText⟩ := T
  refine A.okX sc_read_fact (fun vs H Q E h => ?_) (fun f cdv A outer s H vs Q E hr h => ?_)
  · obtain ⟨v, rfl, _⟩ := h; rfl
  obtain ⟨z, rfl, hz, qY, qN⟩ := h
  have sl := sizeLine_eq
  refine ⟨_, (pss_cons (ps_set (i := 1) sc_read_fact.nd rfl (Or.inl rfl) (pe_split (pv 0) pe_str))
    (pss_cons (ps_if (pt_cmpR op_ne (pe_callB call_len_seq (by rfl) m_len PySem.boot_len (pa_cons (pv 1) pa_nil)) pe_int (nomark _)) (pss_one (ps_raise rfl (takes_of rfl rfl rfl rfl) (pmk_own PySem.F.excBase_ValueError x_BadText g_BadText k_BadText (raises_own e_BadText t_BadText) rfl)))
    pss_nil)
    (pss_cons (ps_asg (pv 1) (pg_unl rfl (pgs_cons (pg_name (i := 2) sc_read_fact.nd rfl (Or.inl rfl)) (pgs_cons (pg_name (i := 3) sc_read_fact.nd rfl (Or.inl rfl)) (pgs_cons (pg_name (i := 4) sc_read_fact.nd rfl (Or.inl rfl)) pgs_nil)))))
    (pss_one (ps_ret (pe_tup (pa_cons (pe_call G_word_of (hr.mono (by omega)) rfl g_word_of k_word_of b_word_of .nil (passes_call (takes_of rfl rfl rfl rfl) (fun _ _ _ _ h => h)) (pa_cons (pv 3) pa_nil)) (pa_cons (pe_call G_read (hr.mono (by omega)) rfl g_read k_read b_read .nil (passes_call (takes_of rfl rfl rfl rfl) (fun _ _ _ _ h => h)) (pa_cons (pv 2) pa_nil)) (pa_cons (pe_call G_read (hr.mono (by omega)) rfl g_read k_read b_read .nil (passes_call (takes_of rfl rfl rfl rfl) (fun _ _ _ _ h => h)) (pa_cons (pv 4) pa_nil)) pa_nil))))))))), ?_⟩
  refine ⟨_, rfl, ⟨_, rfl⟩, z, SP, rfl, rfl, by decide +kernel, by omega, fun L hL => ?_⟩
  have pl := fun a s b => piece_len (z := z) (a := a) (s := s) (b := b)
  generalize Txt.split z SP = ps at qY qN pl
  have s1 := same_new (o := .lst (ps.map V.str)) hL
  refine ⟨_, rfl, L, _, rfl, .inl (SqL.of upd_same), rfl, _, rfl, ?_⟩
  refine ite2 (fun c => ?_) (fun c => ?_)
  · refine qN ?_ _ s1
    unfold RFs
    split
    · rename_i a s b
      rw [decide_eq_true (by rfl)] at c
      cases c
    · rfl
  have l3 : ps.length = 3 := by
    by_cases h : V.int (((ps.map V.str).length : Nat) : Int) = V.int 3
    · injection h with h
      rw [List.length_map] at h
      omega
    · exfalso
      apply c
      rw [decide_eq_false h]
      rfl
  match ps, l3, pl, qY, qN, s1 with
  | [a, sg, b], _, pl, qY, qN, s1 =>
  obtain ⟨la, ls, lb⟩ := pl a sg b rfl
  refine ⟨_, rfl, L, _, rfl, SqL.of upd_same, rfl, _, _, rfl, _, _, rfl, _, _, rfl, rfl, ?_⟩
  have hR : RFs [a, sg, b] = match sgOf sg, RD a.cps.toList, RD b.cps.toList with
    | some w, some t, some u => some ⟨w, t, u⟩
    | _, _, _ => none := rfl
  refine ⟨_, rfl, sg, rfl, fun x hx => ?_, fun hno => qN (by rw [hR, hno]) _ s1⟩
  refine ⟨_, rfl, a, rfl, by omega, fun t ht va H2 s2 ia => ?_, fun hno H2 s2 => qN (by rw [hR, hx, hno]) _ (s1.trans s2)⟩
  refine ⟨_, rfl, b, rfl, by omega, fun u hu vb H3 s3 ib => ?_, fun hno H3 s3 => qN (by rw [hR, hx, ht, hno]) _ ((s1.trans s2).trans s3)⟩
  refine ⟨by show 3 ≤ sizeLine; decide, fun p hp => ?_⟩
  have s4 := same_new (o := .tup [.str x, va, vb]) hp
  exact qY ⟨x, t, u⟩ (by rw [hR, hx, ht, hu]) _ _ (((s1.trans s2).trans s3).trans s4) ⟨p, va, vb, rfl, upd_same, ia.mono (Tk.same (s3.trans s4)), ib.mono (Tk.same s4)⟩
end
end Ab
namespace Ab
open PySem PySem.Spec PyProof.Rows L2
section
variable {P : Program} {w : World} {K : PySem.W.Frag} {mg : Str → Option Value} {base : Heap}
theorem szB2 : szB 2 = 9 := by decide
theorem same_new2 {H : Hp} {p : Addr} {o u : HO} (h : H p = none) : Same H (upd (upd H p o) p u) := fun b x e => by
  have n := ne_of_none e h
  rw [upd_ne n, upd_ne n]
  exact e
theorem IsTm.tup {H : Hp} {t : Tm} {v : V} (h : IsTm H t v) : ∃ a xs, v = .ref a ∧ H a = some (.tup xs) := by
  obtain ⟨n, ps⟩ := t
  simp only [IsTm] at h
  obtain ⟨a, vs, e, h1, _⟩ := h
  exact ⟨a, _, e, h1⟩
/-! ### a drawn fact -/
def spFact (K : PySem.W.Frag) : Sp := fun vs H Q _ => ∃ (d p : Addr), vs = [.ref d, .ref p, .int 2] ∧ Dice K H d ∧ Works H p ∧ p ≠ d ∧ ∀ v f H', Mv d H H' → Dice K H' d → IsFc H' f v → f.ok → f.s.size ≤ 9 → f.t.size ≤ 9 → Q v H'
theorem ok_fact (A : FAt K mg "_law_fact" s_l_fact ["_law_d", "_law_works_here", "_law_deep"]) (h_l_off : Has P w K mg base CX0 2 "_law_off" ["_law_d", "_law_most"] (spOff K)) (h_l_term : Has P w K mg base CX0 6 "_law_term" ["_law_d", "_law_works_here", "_law_deep"] (spTerm K 4)) :
    Has P w K mg base CX0 7 "_law_fact" ["_law_d", "_law_works_here", "_law_deep"] (spFact K) := by
  obtain ⟨f_l_off, d_l_off, g_l_off, k_l_off, b_l_off, G_l_off⟩ := h_l_off
  obtain ⟨f_l_term, d_l_term, g_l_term, k_l_term, b_l_term, G_l_term⟩ := h_l_term
  refine A.ok sc_l_fact (fun vs H Q E h => ?_) (fun f cdv A outer s H vs Q E hr h => ?_)
  · obtain ⟨d, p, rfl, _⟩ := h; rfl
  obtain ⟨d, p, rfl, hD, hW, hpd, q⟩ := h
  refine ⟨_, (pss_cons (ps_set (i := 3) sc_l_fact.nd rfl (Or.inl rfl) (pe_ix ix_list (pe_lst (pa_cons pe_str (pa_cons pe_str (pa_cons pe_str (pa_cons pe_str (pa_cons pe_str (pa_cons pe_str pa_nil))))))) (pe_call G_l_off (hr.mono (by omega)) rfl g_l_off k_l_off b_l_off .nil pass0 (pa_cons (pv 0) (pa_cons pe_int pa_nil))) (fun _ _ => rfl)))
    (pss_cons (ps_set (i := 4) sc_l_fact.nd rfl (Or.inl rfl) (pe_call G_l_term (hr.mono (by omega)) rfl g_l_term k_l_term b_l_term .nil pass0 (pa_cons (pv 0) (pa_cons (pv 1) (pa_cons (pv 2) pa_nil)))))
    (pss_one (ps_ret (pe_tup (pa_cons (pv 3) (pa_cons (pv 4) (pa_cons (pe_call G_l_term (hr.mono (by omega)) rfl g_l_term k_l_term b_l_term .nil pass0 (pa_cons (pv 0) (pa_cons (pv 1) (pa_cons (pv 2) pa_nil)))) pa_nil)))))))), ?_⟩
  refine ⟨(by show 6 ≤ sizeLine; decide), fun l hl => ?_⟩
  have sl := same_new (o := .lst [.str "alike", .str "alike", .str "unlike", .str "most", .str "most", .str "over"]) hl
  have D0 := hD.stay sl
  have W0 := hW.mono (Tk.same sl) fun o e => sl _ _ e
  refine ⟨_, rfl, d, 6, rfl, D0, by decide, by decide, fun r H1 r0 r1 k1 D1 => ?_⟩
  have W1 := W0.mono (k1.tk D0) fun o => k1 p o hpd
  have j : ∃ wd : Str, atI [V.str "alike", .str "alike", .str "unlike", .str "most", .str "most", .str "over"] r = some (.str wd) ∧ (SG.lookup wd).isSome = true := by
    have h : r = 0 ∨ r = 1 ∨ r = 2 ∨ r = 3 ∨ r = 4 ∨ r = 5 := by omega
    rcases h with rfl | rfl | rfl | rfl | rfl | rfl
    · exact ⟨"alike", rfl, by decide +kernel⟩
    · exact ⟨"alike", rfl, by decide +kernel⟩
    · exact ⟨"unlike", rfl, by decide +kernel⟩
    · exact ⟨"most", rfl, by decide +kernel⟩
    · exact ⟨"most", rfl, by decide +kernel⟩
    · exact ⟨"over", rfl, by decide +kernel⟩
  obtain ⟨wd, hwd, ok⟩ := j
  refine ⟨l, _, r, _, rfl, rfl, SqL.of (k1 l _ (hD.ne hl) upd_same), hwd, ?_⟩
  refine ⟨_, rfl, _, rfl, _, rfl, d, p, 2, rfl, by decide, by decide, D1, W1, hpd, fun v1 t1 H2 k2 D2 i1 wf1 z1 => ?_⟩
  have W2 := W1.mono (k2.tk D1) fun o => k2 p o hpd
  refine ⟨_, rfl, _, rfl, _, rfl, _, rfl, _, rfl, d, p, 2, rfl, by decide, by decide, D2, W2, hpd, fun v2 t2 H3 k3 D3 i2 wf2 z2 => ?_⟩
  refine ⟨(by show 3 ≤ sizeLine; decide), fun a ha => ?_⟩
  have s4 := same_new (o := .tup [.str wd, v1, v2]) ha
  have b1 : t1.size ≤ 9 := by rw [← szB2]; exact z1
  have b2 : t2.size ≤ 9 := by rw [← szB2]; exact z2
  exact q (.ref a) ⟨wd, t1, t2⟩ _ ((Kp.same sl).trans (k1.trans (k2.trans (k3.trans (Kp.same s4))))) (D3.stay s4) ⟨a, v1, v2, rfl, upd_same, (i1.mono (k3.tk D2)).mono (Tk.same s4), i2.mono (Tk.same s4)⟩ ⟨ok, ⟨wf1, by show t1.size ≤ 40; omega⟩, wf2, by show t2.size ≤ 40; omega⟩ b1 b2
def sgK : List (Key × V) := [(.inr "alike", .str " = "), (.inr "unlike", .str " != "), (.inr "most", .str " <= "), (.inr "over", .str " > ")]
theorem sgK_val {x : Str} (h : (SG.lookup x).isSome = true) : ∃ z : Str, valV (mergeK [] sgK) (.inr x) = some (.str z) ∧ z.cps.toList = 32 :: (((SG.lookup x).getD Str.empty).cps.toList ++ [32]) ∧ z.length ≤ 4 ∧ cnt z.cps.toList = 0 := by
  rcases word_cases h with rfl | rfl | rfl | rfl
  · exact ⟨" = ", rfl, by decide +kernel, by decide +kernel, by decide +kernel⟩
  · exact ⟨" != ", rfl, by decide +kernel, by decide +kernel, by decide +kernel⟩
  · exact ⟨" <= ", rfl, by decide +kernel, by decide +kernel, by decide +kernel⟩
  · exact ⟨" > ", rfl, by decide +kernel, by decide +kernel, by decide +kernel⟩
end
end Ab
namespace Ab
open PySem PySem.Spec PyProof.Rows L2
/-- what the caught class C2 and the others say -/
structure Caught (K : PySem.W.Frag) (CB C2 C3 C4 C5 C6 C7 : Addr) : Prop where
  exm : PySem.W.exmOne K (.ref C2) (.ref CB) = some true
  no : PySem.W.kitAny K (.ref C2) [.ref C3, .ref C4, .ref C5, .ref C6, .ref C7] = some false
  yes : PySem.W.kitOne K (.ref C2) (.ref C2) = some true
  val : PySem.W.kitOne K (.ref C2) (.type "ValueError") = some true
  exc : ExcC K C2
def wdK : List (Key × V) := [(.inr "=", .str "alike"), (.inr "!=", .str "unlike"), (.inr "<=", .str "most"), (.inr ">", .str "over")]
theorem wd_val (s : Str) : valV (mergeK [] wdK) (.inr s) = (sgOf s).map V.str := by
  by_cases h1 : s = "="
  · subst h1; rfl
  by_cases h2 : s = "!="
  · subst h2; rfl
  by_cases h3 : s = "<="
  · subst h3; rfl
  by_cases h4 : s = ">"
  · subst h4; rfl
  have e : mergeK [] wdK = wdK := rfl
  rw [e]
  unfold wdK sgOf SG
  rw [valV_neg (fun q => h1 (by injection q with q; exact q.symm)), valV_neg (fun q => h2 (by injection q with q; exact q.symm)), valV_neg (fun q => h3 (by injection q with q; exact q.symm)), valV_neg (fun q => h4 (by injection q with q; exact q.symm)), valV_nil]
  rw [List.find?_eq_none.mpr ?_]
  · rfl
  · intro kv hm
    simp only [List.mem_cons, List.not_mem_nil, or_false] at hm
    rcases hm with rfl | rfl | rfl | rfl
    · simpa using fun q : ("=" : Str) = s => h1 q.symm
    · simpa using fun q : ("!=" : Str) = s => h2 q.symm
    · simpa using fun q : ("<=" : Str) = s => h3 q.symm
    · simpa using fun q : (">" : Str) = s => h4 q.symm
theorem piece_cnt {z a s b : Str} (h : Txt.split z SP = [a, s, b]) : cnt a.cps.toList ≤ cnt z.cps.toList ∧ cnt b.cps.toList ≤ cnt z.cps.toList := by
  have e := join_split z
  rw [h] at e
  have e2 : (a ++ SP ++ (s ++ SP ++ b)).cps.toList = z.cps.toList := congrArg (fun x : Str => x.cps.toList) e
  rw [tla, tla, tla, tla] at e2
  rw [← e2]
  simp only [cnt_append]
  omega
theorem RD_T {l : List Nat} {t : Tm} (h : T l = some (t, [])) (c : cnt l < 40) : RD l = some t := RD_of h (by have := T_cnt h; omega)
theorem RD_none1 {l : List Nat} (h : T l = none) : RD l = none := by unfold RD; rw [h]
theorem RD_none3 {l : List Nat} {t : Tm} {r : List Nat} (h : T l = some (t, r)) (h2 : r ≠ []) : RD l = none := by
  cases e : RD l with
  | none => rfl
  | some t' =>
    obtain ⟨h3, h4⟩ := RD_some e
    rw [h] at h3
    injection h3 with h3; injection h3 with _ h3
    exact absurd h3 h2
theorem RFs_a {a sg b : Str} (h : RD a.cps.toList = none) : RFs [a, sg, b] = none := by
  unfold RFs
  simp only [h]
  split <;> first | rfl | (rename_i h1 h2 h3; cases h2)
theorem RFs_b {a sg b : Str} (h : RD b.cps.toList = none) : RFs [a, sg, b] = none := by
  unfold RFs
  simp only [h]
  split <;> first | rfl | (rename_i h1 h2 h3; cases h3)
section
variable {P : Program} {w : World} {K : PySem.W.Frag} {mg : Str → Option Value} {base : Heap}
def spDue : Sp := fun vs H Q _ => ∃ z : Str, vs = [.str z] ∧ z.length ≤ 4000 ∧ cnt z.cps.toList < 40 ∧
  (∀ f, RFs (Txt.split z SP) = some f → f.ok → ∀ v H', Same H H' → IsFc H' f v → Q v H') ∧ (RFs (Txt.split z SP) = none → ∀ H', Same H H' → Q .non H')
theorem cnt40 {l : List Nat} (h : cnt l < 40) : l.count 40 < 45 := by unfold cnt at h; omega
theorem ok_due (m_len : mg "len" = none) (A : FAt K mg "_law_due" s_l_due ["_law_text_here"]) (h_l_taken : Has P w K mg base CX0 45 "_law_taken" ["_law_text_here"] (spTaken 45)) : Has P w K mg base CX0 46 "_law_due" ["_law_text_here"] spDue := by
  obtain ⟨f_l_taken, d_l_taken, g_l_taken, k_l_taken, b_l_taken, G_l_taken⟩ := h_l_taken
  refine A.ok sc_l_due (fun vs H Q E h => ?_) (fun f cdv A outer s H vs Q E hr h => ?_)
  · obtain ⟨z, rfl, _⟩ := h; rfl
  obtain ⟨z, rfl, hz, hc, qY, qN⟩ := h
  have sl := sizeLine_eq
  refine ⟨_, (pss_cons (ps_set (i := 1) sc_l_due.nd rfl (Or.inl rfl) (pe_disp (pps_cons pe_str pe_str (pps_cons pe_str pe_str (pps_cons pe_str pe_str (pps_cons pe_str pe_str pps_nil)))) (by rfl) (by rfl) (fun z => by cases z) (by decide)))
    (pss_cons (ps_set (i := 2) sc_l_due.nd rfl (Or.inl rfl) (pe_split (pv 0) pe_str))
    (pss_cons (ps_if (PW.pt (pw_or (pt_cmpR op_ne (pe_callB call_len_seq (by rfl) m_len PySem.boot_len (pa_cons (pv 2) pa_nil)) pe_int (nomark _)) (pw_or1 (pt_cmp (pc_dnotin (hu_of hr) (pe_ix ix_list (pv 2) pe_int (fun _ _ => rfl)) (pv 1)) rfl)))) (pss_one (ps_ret pe_non))
    pss_nil)
    (pss_cons (ps_set (i := 3) sc_l_due.nd rfl (Or.inl rfl) (pe_call G_l_taken (hr.mono (by omega)) rfl g_l_taken k_l_taken b_l_taken .nil pass0 (pa_cons (pe_ix ix_list (pv 2) pe_int (fun _ _ => rfl)) pa_nil)))
    (pss_cons (ps_set (i := 4) sc_l_due.nd rfl (Or.inl rfl) (pe_call G_l_taken (hr.mono (by omega)) rfl g_l_taken k_l_taken b_l_taken .nil pass0 (pa_cons (pe_ix ix_list (pv 2) pe_int (fun _ _ => rfl)) pa_nil)))
    (pss_cons (ps_if (PW.pt (pw_or (pt_cmpR op_isN (pv 3) pe_non (nomark _)) (pw_or (pt_cmpR op_isN (pv 4) pe_non (nomark _)) (pw_or (pt_cmpR op_ne (pe_ix ix_tup (pv 3) pe_int (fun _ _ => rfl)) pe_str (nomark _)) (pw_or1 (pt_cmpR op_ne (pe_ix ix_tup (pv 4) pe_int (fun _ _ => rfl)) pe_str (nomark _))))))) (pss_one (ps_ret pe_non))
    pss_nil)
    (pss_one (ps_ret (pe_tup (pa_cons (pe_dget (hu_of hr) (pv 1) (pe_ix ix_list (pv 2) pe_int (fun _ _ => rfl)) (fun _ _ => rfl)) (pa_cons (pe_ix ix_tup (pv 3) pe_int (fun _ _ => rfl)) (pa_cons (pe_ix ix_tup (pv 4) pe_int (fun _ _ => rfl)) pa_nil)))))))))))), ?_⟩
  refine fun D hD => ⟨upd_same, wdK, rfl, by decide, ?_⟩
  have s1 := same_new2 (o := .dK []) (u := .dK (mergeK [] wdK)) hD
  have eD : upd (upd H D (.dK [])) D (.dK (mergeK [] wdK)) D = some (.dK (mergeK [] wdK)) := upd_same
  generalize upd (upd H D (.dK [])) D (.dK (mergeK [] wdK)) = H1 at s1 eD
  refine ⟨_, rfl, ⟨_, rfl⟩, z, SP, rfl, rfl, by decide +kernel, by omega, fun L hL => ?_⟩
  have pl := fun a s b => piece_len (z := z) (a := a) (s := s) (b := b)
  have pc := fun a s b => piece_cnt (z := z) (a := a) (s := s) (b := b)
  generalize Txt.split z SP = ps at qY qN pl pc
  have s2 := same_new (o := .lst (ps.map V.str)) hL
  refine ⟨_, rfl, L, _, rfl, .inl (SqL.of upd_same), rfl, _, rfl, ?_⟩
  refine ite2 (fun c => ?_) (fun c => ?_)
  · refine iteT (qN ?_ _ (s1.trans s2))
    unfold RFs
    split
    · rename_i a s b
      rw [decide_eq_true (by rfl)] at c
      cases c
    · rfl
  have l3 : ps.length = 3 := by
    by_cases h : V.int (((ps.map V.str).length : Nat) : Int) = V.int 3
    · injection h with h
      rw [List.length_map] at h
      omega
    · exfalso
      apply c
      rw [decide_eq_false h]
      rfl
  match ps, l3, pl, pc, qY, qN, s2 with
  | [a, sg, b], _, pl, pc, qY, qN, s2 =>
  obtain ⟨la, ls, lb⟩ := pl a sg b rfl
  obtain ⟨ca, cb⟩ := pc a sg b rfl
  have ca : cnt a.cps.toList < 40 := by omega
  have cb : cnt b.cps.toList < 40 := by omega
  have eL : upd H1 L (.lst ([a, sg, b].map V.str)) L = some (.lst [.str a, .str sg, .str b]) := upd_same
  have eD2 := s2 _ _ eD
  have s12 := s1.trans s2
  generalize upd H1 L (.lst ([a, sg, b].map V.str)) = H2 at s2 eL eD2 s12
  have hR : RFs [a, sg, b] = match sgOf sg, RD a.cps.toList, RD b.cps.toList with
    | some w, some t, some u => some ⟨w, t, u⟩
    | _, _, _ => none := rfl
  refine ⟨_, rfl, L, _, 1, _, rfl, rfl, SqL.of eL, rfl, _, rfl, D, _, rfl, DGet.k eD2 (k := .inr sg), _, rfl, ?_⟩
  rw [wd_val]
  cases hsg : sgOf sg with
  | none =>
    refine iteT (qN ?_ _ s12)
    rw [hR, hsg]
  | some x =>
  refine iteF ?_
  refine ⟨_, rfl, L, _, 0, _, rfl, rfl, SqL.of eL, at0, a, rfl, by omega, cnt40 ca, fun t r ht v1 y1 p1 H3 s3 i1 ey1 hp1 => ?_, fun hno H3 s3 => ?_⟩
  · refine ⟨_, rfl, L, _, 2, _, rfl, rfl, SqL.of (s3 _ _ eL), rfl, b, rfl, by omega, cnt40 cb, fun u r2 hu v2 y2 p2 H4 s4 i2 ey2 hp2 => ?_, fun hno H4 s4 => ?_⟩
    · have s14 := (s12.trans s3).trans s4
      have hp1' := s4 _ _ hp1
      refine ⟨_, rfl, rfl, _, rfl, iteF ?_⟩
      refine ⟨_, rfl, rfl, _, rfl, iteF ?_⟩
      refine ⟨_, rfl, p1, _, 1, _, rfl, rfl, SqT.of hp1', rfl, rfl, _, rfl, ?_⟩
      by_cases cr : r = []
      case neg =>
        rw [decide_eq_false (fun e => cr (by injection e with e; rw [e] at ey1; exact ey1.symm))]
        exact iteT (qN (RFs_a (RD_none3 ht cr)) _ s14)
      subst cr
      have hy : y1 = PySem.Str.ofString "" := str_ext (by rw [ey1]; rfl)
      rw [hy, decide_eq_true rfl]
      refine iteF ?_
      refine ⟨_, rfl, p2, _, 1, _, rfl, rfl, SqT.of hp2, rfl, rfl, _, rfl, ?_⟩
      by_cases cr : r2 = []
      case neg =>
        rw [decide_eq_false (fun e => cr (by injection e with e; rw [e] at ey2; exact ey2.symm))]
        exact iteT (qN (RFs_b (RD_none3 hu cr)) _ s14)
      subst cr
      have hy : y2 = PySem.Str.ofString "" := str_ext (by rw [ey2]; rfl)
      rw [hy, decide_eq_true rfl]
      refine iteF ?_
      have eL4 := s4 _ _ (s3 _ _ eL)
      have eD4 := s4 _ _ (s3 _ _ eD2)
      have g := DGet.k eD4 (k := .inr sg)
      rw [wd_val, hsg] at g
      refine ⟨_, rfl, _, rfl, L, _, 1, _, rfl, rfl, SqL.of eL4, rfl, D, .str x, rfl, g, _, rfl, p1, _, 0, _, rfl, rfl, SqT.of hp1', at0, _, rfl, p2, _, 0, _, rfl, rfl, SqT.of hp2, at0, (by show 3 ≤ sizeLine; decide), fun q hq => ?_⟩
      have s5 := same_new (o := .tup [.str x, v1, v2]) hq
      have r1 := RD_T ht ca
      have r2 := RD_T hu cb
      refine qY ⟨x, t, u⟩ (by rw [hR, hsg, r1, r2]) ⟨sgOf_ok hsg, ⟨T_wf ht, (RD_some r1).2⟩, T_wf hu, (RD_some r2).2⟩ _ _ (s14.trans s5) ⟨q, v1, v2, rfl, upd_same, i1.mono (Tk.same (s4.trans s5)), i2.mono (Tk.same s5)⟩
    · refine ⟨_, rfl, rfl, _, rfl, iteF ?_⟩
      refine ⟨_, rfl, rfl, _, rfl, iteT (iteT ?_)⟩
      exact qN (RFs_b (RD_none1 hno)) _ ((s12.trans s3).trans s4)
  · have e := RFs_a (sg := sg) (b := b) (RD_none1 hno)
    refine ⟨_, rfl, L, _, 2, _, rfl, rfl, SqL.of (s3 _ _ eL), rfl, b, rfl, by omega, cnt40 cb, fun u r2 hu v2 y2 p2 H4 s4 i2 ey2 hp2 => ?_, fun hno H4 s4 => ?_⟩
    · exact ⟨_, rfl, rfl, _, rfl, iteT (iteT (qN e _ ((s12.trans s3).trans s4)))⟩
    · exact ⟨_, rfl, rfl, _, rfl, iteT (iteT (qN e _ ((s12.trans s3).trans s4)))⟩
end
end Ab
namespace Ab
open PySem PySem.Spec PyProof.Rows L2
section
variable {P : Program} {w : World} {K : PySem.W.Frag} {mg : Str → Option Value} {base : Heap}
def spIsRead : Sp := fun vs H Q _ => ∃ z : Str, vs = [.str z] ∧ z.length ≤ 4000 ∧ cnt z.cps.toList < 40 ∧ ∀ H', Same H H' → Q (.bl true) H'
theorem RFs_ok {ps : List Str} {f : Fc} (h : RFs ps = some f) : f.ok := by
  unfold RFs at h
  split at h
  · rename_i a s b
    split at h
    · rename_i x t u h1 h2 h3
      injection h with h
      subst h
      exact ⟨sgOf_ok h1, ⟨T_wf (RD_some h2).1, (RD_some h2).2⟩, T_wf (RD_some h3).1, (RD_some h3).2⟩
    · cases h
  · cases h
theorem ok_is_read {C_BoardError C_BadText C_NoTerm C_NoFact C_Full C_NoMark C_Clash : Addr} (cg : Caught K C_BoardError C_BadText C_NoTerm C_NoFact C_Full C_NoMark C_Clash) (m_isinstance : mg "isinstance" = none) (m_tuple : mg "tuple" = none) (m_ValueError : mg "ValueError" = none)
    (g_BoardError : mg "BoardError" = some (.ref C_BoardError)) (g_BadText : mg "BadText" = some (.ref C_BadText)) (g_NoTerm : mg "NoTerm" = some (.ref C_NoTerm)) (g_NoFact : mg "NoFact" = some (.ref C_NoFact)) (g_Full : mg "Full" = some (.ref C_Full)) (g_NoMark : mg "NoMark" = some (.ref C_NoMark)) (g_Clash : mg "Clash" = some (.ref C_Clash))
    (A : FAt K mg "_law_is_read" s_l_is_read ["_law_text_here"]) (h_l_due : Has P w K mg base CX0 46 "_law_due" ["_law_text_here"] spDue) (h_read_fact : Has P w K mg base (L2.CX P w) 84 "read_fact" ["text"] (spReadF C_BadText)) :
    Has P w K mg base CX0 85 "_law_is_read" ["_law_text_here"] spIsRead := by
  obtain ⟨f_l_due, d_l_due, g_l_due, k_l_due, b_l_due, G_l_due⟩ := h_l_due
  obtain ⟨f_read_fact, d_read_fact, g_read_fact, k_read_fact, b_read_fact, G_read_fact⟩ := h_read_fact
  refine A.ok sc_l_is_read (fun vs H Q E h => ?_) (fun f cdv A outer s H vs Q E hr h => ?_)
  · obtain ⟨z, rfl, _⟩ := h; rfl
  obtain ⟨z, rfl, hz, hc, q⟩ := h
  refine ⟨_, (pss_cons (ps_set (i := 1) sc_l_is_read.nd rfl (Or.inl rfl) (pe_call G_l_due (hr.mono (by omega)) rfl g_l_due k_l_due b_l_due .nil pass0 (pa_cons (pv 0) pa_nil)))
    (pss_cons (ps_try_as (i := 3) rfl rfl sc_l_is_read.nd rfl rfl ⟨rfl, by decide, .inl g_BoardError⟩ takes0 (fun W pn xe tk _ => (pss_one (ps_set (i := 2) sc_l_is_read.nd rfl (Or.inl rfl) (pe_callS G_read_fact (hr.mono (by omega)) rfl g_read_fact k_read_fact b_read_fact (fun σ => passAt tk σ) (pa_cons (pv 0) pa_nil))))) (fun a oe cls d pn hz hf => (pss_cons (ps_if (pt_val (pe_callB (call_isET hz hf) (by rfl) m_isinstance (by decide +kernel) (pa_cons (pv 3) (pa_cons (pe_tup (pa_cons (pe_glob (v := .ref C_NoTerm) rfl g_NoTerm rfl) (pa_cons (pe_glob (v := .ref C_NoFact) rfl g_NoFact rfl) (pa_cons (pe_glob (v := .ref C_Full) rfl g_Full rfl) (pa_cons (pe_glob (v := .ref C_NoMark) rfl g_NoMark rfl) (pa_cons (pe_glob (v := .ref C_Clash) rfl g_Clash rfl) pa_nil)))))) pa_nil)))) (pss_one (ps_ret pe_bl))
    pss_nil)
    (pss_one (ps_ret (pe_and (pe_cmpR op_isN (pv 1) pe_non (nomark _)) (pe_and (pe_callB (call_isE1 hz hf) (by rfl) m_isinstance (by decide +kernel) (pa_cons (pv 3) (pa_cons (pe_glob (v := .ref C_BadText) rfl g_BadText rfl) pa_nil))) (pe_one (pe_callB (call_isE1 hz hf) (by rfl) m_isinstance (by decide +kernel) (pa_cons (pv 3) (pa_cons (pe_bltn (v := .ty "ValueError") (by rfl) m_ValueError (by decide +kernel) rfl) pa_nil)))))))))))
    (pss_one (ps_ret (pe_and (pe_cmpR op_notN (pv 1) pe_non (nomark _)) (pe_and (pe_callB call_isi (by rfl) m_isinstance (by decide +kernel) (pa_cons (pv 2) (pa_cons (pe_bltn (v := .ty "tuple") (by rfl) m_tuple (by decide +kernel) rfl) pa_nil))) (pe_one (pe_cmpR (op_eqD (hu64 hr)) (pv 2) (pv 1) (nomark _))))))))), ?_⟩
  refine ⟨_, rfl, z, rfl, hz, hc, fun f hf hok v H1 s1 iv => ?_, fun hno H1 s1 => ?_⟩
  · refine ⟨_, rfl, z, rfl, by omega, fun f' hf' v' H2 s2 i2 => ?_, fun hno => (by rw [hf] at hno; cases hno)⟩
    rw [hf] at hf'
    injection hf' with hf'
    subst hf'
    obtain ⟨o, _, _, rfl, ho, _, _⟩ := id i2
    obtain ⟨o1, _, _, rfl, ho1, _, _⟩ := id iv
    have sh := Fc.shaped hok
    refine ⟨_, rfl, rfl, _, rfl, iteT ?_⟩
    refine ⟨_, rfl, _, _, _, _, true, rfl, .ty "tuple", .base (.tup ho), kit_ty (by decide +kernel), _, rfl, iteT ?_⟩
    refine ⟨_, rfl, _, rfl, f.data, f.data, i2.dp, (iv.mono (Tk.same s2)).dp, sh, sh, ?_⟩
    rw [(Fc.eqv f f).mpr rfl]
    exact q _ (s1.trans s2)
  · refine ⟨_, rfl, z, rfl, by omega, fun f' hf' => (by rw [hno] at hf'; cases hf'), fun _ H2 s2 => ⟨true, cg.exm, fun _ e he => ?_, fun q => (by cases q)⟩⟩
    refine ⟨_, rfl, (by show 5 ≤ sizeLine; decide), fun tp htp => ⟨C_BadText, tp, _, _, false, rfl, upd_same, .cons (.own _) (.cons (.own _) (.cons (.own _) (.cons (.own _) (.cons (.own _) .nil)))), rfl, rfl, cg.exc, cg.no, _, rfl, iteF ?_⟩⟩
    refine ⟨_, rfl, rfl, _, rfl, iteT ?_⟩
    refine ⟨_, rfl, C_BadText, _, _, true, rfl, rfl, rfl, cg.exc, .own _, cg.yes, _, rfl, iteT ?_⟩
    refine ⟨_, rfl, C_BadText, _, _, true, rfl, rfl, rfl, cg.exc, .ty _, cg.val, ?_⟩
    exact q _ ((s1.trans s2).trans (same_new htp))
end
end Ab
namespace Ab
open PySem PySem.Spec PyProof.Rows L2
def some20 : List Str := ["", " ", "a", "a =", "= a", "a = ", " = a", "a  = b", "a = b ", " a = b", "a == b", "a < b", "a >= b", "a ! b", "a = b = c", "a=b", "a =b", "a != b", "a <= b", "a > b"]
theorem some20_ok : ∀ x ∈ some20, x.length ≤ 100 ∧ cnt x.cps.toList ≤ 4 := by decide +kernel
theorem some20_at {r : Int} (h0 : 0 ≤ r) (h1 : r < 20) : ∃ x : Str, atI (some20.map V.str) r = some (.str x) ∧ x.length ≤ 4000 ∧ cnt x.cps.toList < 40 := by
  obtain ⟨i, rfl⟩ : ∃ i : Nat, r = (i : Int) := ⟨r.toNat, by omega⟩
  have hi : i < some20.length := by show i < 20; omega
  have ok := some20_ok some20[i] (List.getElem_mem hi)
  refine ⟨some20[i], atI_nat ?_, by omega, by omega⟩
  rw [List.getElem?_map, List.getElem?_eq_getElem hi]
  rfl
theorem sign20 {r : Int} (h0 : 0 ≤ r) (h1 : r < 20) : ∃ c, atI (PySem.Str.ofString "(),=!<> abz09AZ_.-+&").cps.toList r = some c := by
  obtain ⟨i, rfl⟩ : ∃ i : Nat, r = (i : Int) := ⟨r.toNat, by omega⟩
  have hl : (PySem.Str.ofString "(),=!<> abz09AZ_.-+&").cps.toList.length = 20 := by decide +kernel
  have hi : i < (PySem.Str.ofString "(),=!<> abz09AZ_.-+&").cps.toList.length := by rw [hl]; omega
  exact ⟨_, atI_nat (List.getElem?_eq_getElem hi)⟩
theorem three {H : Hp} {g1 g2 g3 : Addr} {o1 o2 o3 : HO} (h1 : H g1 = none) (h2 : upd H g1 o1 g2 = none) (h3 : upd (upd H g1 o1) g2 o2 g3 = none) : Same H (upd (upd (upd H g1 o1) g2 o2) g3 o3) :=
  ((same_new h1).trans (same_new h2)).trans (same_new h3)
theorem cutS_cnt (z : Str) (a b : Option Int) : cnt (cutS z a b).cps.toList ≤ cnt z.cps.toList := by
  have h1 := cutS_count z a b 40
  have h2 := cutS_count z a b 44
  unfold cnt
  omega
theorem cnt_le (l : List Nat) : cnt l ≤ 2 * l.length := by
  have h1 := List.count_le_length (l := l) (a := 40)
  have h2 := List.count_le_length (l := l) (a := 44)
  unfold cnt
  omega
section
variable {P : Program} {w : World} {K : PySem.W.Frag} {mg : Str → Option Value} {base : Heap}
def spLaw (K : PySem.W.Frag) : Sp := fun vs H Q _ => ∃ (a : Addr) (ns : List Int), vs = [.ref a] ∧ SqF K H a (ns.map V.int) ∧ ns.length ≤ 63 ∧ ∀ H', Q (.bl true) H'
theorem ok_law (m_len : mg "len" = none) {fl : Addr} {fdl : FuncData} (F : Fun K "law" "law" s_law fl fdl)
    (h_l_dice : Has P w K mg base CX0 2 "_law_dice" ["_law_script", "_law_k"] (spDice K)) (h_l_off : Has P w K mg base CX0 2 "_law_off" ["_law_d", "_law_most"] (spOff K)) (h_l_works : Has P w K mg base CX0 3 "_law_works" ["_law_d"] (spWorks K))
    (h_l_fact : Has P w K mg base CX0 7 "_law_fact" ["_law_d", "_law_works_here", "_law_deep"] (spFact K)) (h_l_text : Has P w K mg base CX0 40 "_law_text" ["_law_term_here"] (spTxt 40))
    (h_l_is_read : Has P w K mg base CX0 85 "_law_is_read" ["_law_text_here"] spIsRead) : FnOk P w K mg base CX0 86 fl fdl ["_law_script"] (spLaw K) := by
  obtain ⟨f_l_dice, d_l_dice, g_l_dice, k_l_dice, b_l_dice, G_l_dice⟩ := h_l_dice
  obtain ⟨f_l_off, d_l_off, g_l_off, k_l_off, b_l_off, G_l_off⟩ := h_l_off
  obtain ⟨f_l_works, d_l_works, g_l_works, k_l_works, b_l_works, G_l_works⟩ := h_l_works
  obtain ⟨f_l_fact, d_l_fact, g_l_fact, k_l_fact, b_l_fact, G_l_fact⟩ := h_l_fact
  obtain ⟨f_l_text, d_l_text, g_l_text, k_l_text, b_l_text, G_l_text⟩ := h_l_text
  obtain ⟨f_l_is_read, d_l_is_read, g_l_is_read, k_l_is_read, b_l_is_read, G_l_is_read⟩ := h_l_is_read
  refine F.ok sc_law (fun vs H Q E h => ?_) (fun cdv A outer s H vs Q E hr h => ?_)
  · obtain ⟨a, ns, rfl, _⟩ := h; rfl
  obtain ⟨a, ns, rfl, hS, h63, q⟩ := h
  have sl := sizeLine_eq
  refine ⟨_, (pss_cons (ps_set (i := 1) sc_law.nd rfl (Or.inl rfl) (pe_call G_l_dice (hr.mono (by omega)) rfl g_l_dice k_l_dice b_l_dice .nil pass0 (pa_cons (pv 0) (pa_cons pe_int pa_nil))))
    (pss_cons (ps_asg (pe_call G_l_fact (hr.mono (by omega)) rfl g_l_fact k_l_fact b_l_fact .nil pass0 (pa_cons (pv 1) (pa_cons (pe_call G_l_works (hr.mono (by omega)) rfl g_l_works k_l_works b_l_works .nil pass0 (pa_cons (pv 1) pa_nil)) (pa_cons pe_int pa_nil)))) (pg_tup rfl (pgs_cons (pg_name (i := 2) sc_law.nd rfl (Or.inl rfl)) (pgs_cons (pg_name (i := 3) sc_law.nd rfl (Or.inl rfl)) (pgs_cons (pg_name (i := 4) sc_law.nd rfl (Or.inl rfl)) pgs_nil)))))
    (pss_cons (ps_set (i := 5) sc_law.nd rfl (Or.inl rfl) (pe_dget (hu_of hr) (pe_disp (pps_cons pe_str pe_str (pps_cons pe_str pe_str (pps_cons pe_str pe_str (pps_cons pe_str pe_str pps_nil)))) (by rfl) (by rfl) (fun z => by cases z) (by decide)) (pv 2) (fun _ _ => rfl)))
    (pss_cons (ps_set (i := 6) sc_law.nd rfl (Or.inl rfl) (pe_op op_add_str (pe_op op_add_str (pe_call G_l_text (hr.mono (by omega)) rfl g_l_text k_l_text b_l_text .nil pass0 (pa_cons (pv 3) pa_nil)) (pv 5)) (pe_call G_l_text (hr.mono (by omega)) rfl g_l_text k_l_text b_l_text .nil pass0 (pa_cons (pv 4) pa_nil))))
    (pss_cons (ps_set (i := 7) sc_law.nd rfl (Or.inl rfl) (pe_call G_l_off (hr.mono (by omega)) rfl g_l_off k_l_off b_l_off .nil pass0 (pa_cons (pv 1) (pa_cons (pe_op op_add (pe_callB call_len_str (by rfl) m_len PySem.boot_len (pa_cons (pv 6) pa_nil)) pe_int) pa_nil))))
    (pss_cons (ps_set (i := 8) sc_law.nd rfl (Or.inl rfl) (pe_ix ix_str pe_str (pe_call G_l_off (hr.mono (by omega)) rfl g_l_off k_l_off b_l_off .nil pass0 (pa_cons (pv 1) (pa_cons pe_int pa_nil))) (fun _ _ => rfl)))
    (pss_cons (ps_set (i := 6) sc_law.nd rfl (Or.inl rfl) (pe_op op_add_str (pe_op op_add_str (pe_slice sl_str (pv 6) po_none (po_some (pv 7))) (pe_slice sl_str (pv 8) po_none (po_some (pe_call G_l_off (hr.mono (by omega)) rfl g_l_off k_l_off b_l_off .nil pass0 (pa_cons (pv 1) (pa_cons pe_int pa_nil)))))) (pe_slice sl_str (pv 6) (po_some (pe_op op_add (pv 7) (pe_call G_l_off (hr.mono (by omega)) rfl g_l_off k_l_off b_l_off .nil pass0 (pa_cons (pv 1) (pa_cons pe_int pa_nil))))) po_none)))
    (pss_cons (ps_set (i := 9) sc_law.nd rfl (Or.inl rfl) (pe_lst (pa_cons pe_str (pa_cons pe_str (pa_cons pe_str (pa_cons pe_str (pa_cons pe_str (pa_cons pe_str (pa_cons pe_str (pa_cons pe_str (pa_cons pe_str (pa_cons pe_str (pa_cons pe_str (pa_cons pe_str pa_nil))))))))))))))
    (pss_cons (ps_set (i := 9) sc_law.nd rfl (Or.inl rfl) (pe_op op_cat (pv 9) (pe_lst (pa_cons pe_str (pa_cons pe_str (pa_cons pe_str (pa_cons pe_str (pa_cons pe_str (pa_cons pe_str (pa_cons pe_str (pa_cons pe_str pa_nil)))))))))))
    (pss_one (ps_ret (pe_and (pe_call G_l_is_read (hr.mono (by omega)) rfl g_l_is_read k_l_is_read b_l_is_read .nil pass0 (pa_cons (pv 6) pa_nil)) (pe_one (pe_call G_l_is_read (hr.mono (by omega)) rfl g_l_is_read k_l_is_read b_l_is_read .nil pass0 (pa_cons (pe_ix ix_list (pv 9) (pe_call G_l_off (hr.mono (by omega)) rfl g_l_off k_l_off b_l_off .nil pass0 (pa_cons (pv 1) (pa_cons pe_int pa_nil))) (fun _ _ => rfl)) pa_nil))))))))))))))), ?_⟩
  refine ⟨_, rfl, a, ns, 0, rfl, hS, h63, by decide, fun d H1 f1 s1 D1 => ?_⟩
  refine ⟨_, rfl, _, rfl, d, rfl, D1, fun p H2 fp np k2 D2 W2 => ⟨d, p, rfl, D2, W2, np, fun v f H3 k3 D3 fi hok q1 q2 => ?_⟩⟩
  obtain ⟨b, va, vb, rfl, e1, e2, e3⟩ := id fi
  refine ⟨b, _, rfl, SqT.of e1, rfl, _, _, rfl, _, _, rfl, _, _, rfl, rfl, ?_⟩
  refine fun p hp => ⟨upd_same, sgK, rfl, by decide, ?_⟩
  have s4 := same_new2 (o := .dK []) (u := .dK (mergeK [] sgK)) hp
  have g2 := e2.mono (Tk.same s4)
  have g3 := e3.mono (Tk.same s4)
  have D4 := D3.stay s4
  obtain ⟨z, hz, cz, lz, nz⟩ := sgK_val hok.1
  refine ⟨_, rfl, p, .str z, rfl, ?_, ?_⟩
  · have := DGet.k (H := upd (upd H3 p (.dK [])) p (.dK (mergeK [] sgK))) (a := p) (k := .inr f.w) upd_same
    rw [hz] at this
    exact this
  generalize upd (upd H3 p (.dK [])) p (.dK (mergeK [] sgK)) = H4 at s4 g2 g3 D4
  have dp1 := f.s.depth_le
  have dp2 := f.t.depth_le
  have t1 := f.s.txt_len hok.2.1.1
  have t2 := f.t.txt_len hok.2.2.1
  refine ⟨_, rfl, va, f.s, rfl, g2, hok.2.1.1, by omega, by omega, fun x1 H5 s5 c1 => ?_⟩
  have lx1 : x1.length = f.s.txt.length := by rw [slen, c1]
  refine ⟨_, rfl, x1, z, rfl, rfl, by omega, ?_⟩
  refine ⟨_, rfl, vb, f.t, rfl, g3.mono (Tk.same s5), hok.2.2.1, by omega, by omega, fun x2 H6 s6 c2 => ?_⟩
  have lx2 : x2.length = f.t.txt.length := by rw [slen, c2]
  refine ⟨_, _, rfl, rfl, by rw [sla]; omega, ?_⟩
  have lx : (x1 ++ z ++ x2).length ≤ 400 := by rw [sla, sla]; omega
  have nx : cnt (x1 ++ z ++ x2).cps.toList ≤ 16 := by
    have n1 := f.s.cnt_txt hok.2.1.1
    have n2 := f.t.cnt_txt hok.2.2.1
    rw [tla, tla, cnt_append, cnt_append, c1, c2]
    omega
  generalize x1 ++ z ++ x2 = x at lx nx
  have D6 := (D4.stay s5).stay s6
  refine ⟨_, rfl, _, rfl, x, rfl, by omega, _, _, rfl, rfl, d, _, rfl, D6, by omega, by omega, fun r1 H7 a1 b1 k7 D7 => ?_⟩
  refine ⟨_, rfl, d, 20, rfl, D7, by decide, by decide, fun r2 H8 a2 b2 k8 D8 => ?_⟩
  obtain ⟨c, hc⟩ := sign20 a2 b2
  refine ⟨_, _, c, rfl, rfl, (by show 20 ≤ sizeLine; decide), hc, ?_⟩
  refine ⟨_, rfl, _, rfl, _, rfl, x, rfl, by omega, ?_⟩
  refine ⟨_, rfl, _, rfl, d, 2, rfl, D8, by decide, by decide, fun r3 H9 a3 b3 k9 D9 => ?_⟩
  refine ⟨_, rfl, ⟨#[c]⟩, rfl, (by show 1 ≤ sizeLine; decide), ?_⟩
  have l1 := cutS_le x none (some r1)
  have n1 := cutS_cnt x none (some r1)
  have l2 : (cutS (⟨#[c]⟩ : Str) none (some r3)).length ≤ 1 := cutS_le (⟨#[c]⟩ : Str) none (some r3)
  have n2 : cnt (cutS (⟨#[c]⟩ : Str) none (some r3)).cps.toList ≤ 2 := Nat.le_trans (cutS_cnt _ _ _) (cnt_le [c])
  refine ⟨_, _, rfl, rfl, by omega, ?_⟩
  refine ⟨_, rfl, _, rfl, _, rfl, d, 2, rfl, D9, by decide, by decide, fun r4 H10 a4 b4 k10 D10 => ?_⟩
  refine ⟨_, _, rfl, rfl, _, rfl, x, rfl, by omega, ?_⟩
  have l3 := cutS_le x (some (r1 + r4)) none
  have n3 := cutS_cnt x (some (r1 + r4)) none
  refine ⟨_, _, rfl, rfl, by rw [sla]; omega, ?_⟩
  have lz : (cutS x none (some r1) ++ cutS (⟨#[c]⟩ : Str) none (some r3) ++ cutS x (some (r1 + r4)) none).length ≤ 4000 := by rw [sla, sla]; omega
  have cz : cnt (cutS x none (some r1) ++ cutS (⟨#[c]⟩ : Str) none (some r3) ++ cutS x (some (r1 + r4)) none).cps.toList < 40 := by
    rw [tla, tla, cnt_append, cnt_append]
    omega
  generalize cutS x none (some r1) ++ cutS (⟨#[c]⟩ : Str) none (some r3) ++ cutS x (some (r1 + r4)) none = z1 at lz cz
  refine ⟨(by show 12 ≤ sizeLine; decide), fun y1 h1 => ?_⟩
  refine ⟨_, rfl, (by show 8 ≤ sizeLine; decide), fun y2 h2 => ?_⟩
  refine ⟨y1, y2, _, _, rfl, rfl, same_new h2 _ _ upd_same, upd_same, (by show 20 ≤ sizeLine; decide), fun y3 h3 => ?_⟩
  have s11 := three (o3 := .lst (some20.map V.str)) h1 h2 h3
  have D11 := D10.stay s11
  have ny3 : y3 ≠ d := (D10.stay ((same_new h1).trans (same_new h2))).ne h3
  refine ⟨_, rfl, z1, rfl, lz, cz, fun H13 s13 => ⟨_, rfl, iteT ?_⟩⟩
  have hy3 : H13 y3 = some (HO.lst (some20.map V.str)) := s13 _ _ upd_same
  refine ⟨_, rfl, _, rfl, d, 20, rfl, D11.stay s13, by decide, by decide, fun r6 H14 a6 b6 k14 D14 => ?_⟩
  obtain ⟨x6, hx6, lx6, cx6⟩ := some20_at a6 b6
  exact ⟨y3, _, r6, _, rfl, rfl, SqL.of (k14 y3 _ ny3 hy3), hx6, x6, rfl, lx6, cx6, fun H15 s15 => q _⟩
end
end Ab
namespace Ab
open PySem PySem.Spec PyProof.Rows L2
/-! ### the end -/
theorem err_mk {K : PySem.W.Frag} {h : Heap} {mg : Str → Option Value} {x : Str} {C : Addr} (X : K.In h) (G : h.Ns mainGlobals mg) (a : PySem.W.nsIn K mainGlobals x = some (some (.ref C)))
    (q : PySem.W.excIn K C [.type "ValueError", .type "Exception", .type "BaseException", .type "object"] "ValueError.__new__" = true) (k : PySem.W.keepIn K (.ref C) = true)
    (e : PySem.W.subIn K (.ref C) (.type "BaseException") = some true) (t : PySem.W.typeIn K (.ref C) = some (.type "type")) : Err K mg x C := ⟨PySem.W.mg_of X G a, q, k, e, t⟩
theorem wd_mk {K : PySem.W.Frag} {w : World} {d : Addr} {kvs : List (Str × Str)} {es : Array DictEntry} {n : Nat} (lk : K.lookup d = some ⟨.type "dict", none, .dict es n, #[]⟩) (lo : (d == sysModules) = false) (kl : PySem.W.KeysLit w.params es.toList) (pr : Paired WEnt kvs es.toList) : WD K w d kvs :=
  ⟨lo, es, n, lk, kl, pr⟩
theorem all_law {l : PySem.W.OpenLaw} {w : World} {K : PySem.W.Frag} {h : Heap} {mg : Str → Option Value} {fa f1 C_BoardError C_BadText C_NoTerm C_NoFact C_Full C_NoMark C_Clash dS : Addr} {t1 t2 t3 : Tok} (X : K.In h) (G : h.Ns mainGlobals mg) (hfa : mg "law" = some (.ref fa))
    {od1 an1 : Option Addr} {sl1 : Array (Option Value)} {oc1 kV1 dc1 pm1 cd1 ct1 : Value}
    (a1 : PySem.W.nsIn K mainGlobals "law" = some (some (.ref f1))) (l1 : K.lookup f1 = some ⟨oc1, od1, .func (PySem.W.fnOf "law" "law" (defArgs s_law) (defBody s_law) (defScope s_law) .none kV1 dc1 pm1 an1 cd1 ct1), sl1⟩) (c1 : PySem.W.codeIn K cd1 "law" = true) (k1 : PySem.W.keepIn K (.ref f1) = true)
    (A_read : FAt K mg "read" s_read ["text"])
    (A_is_letter : FAt K mg "_is_letter" s_is_letter ["sign"])
    (A_is_name : FAt K mg "_is_name" s_is_name ["text"])
    (A_term_at : FAt K mg "_term_at" s_term_at ["text", "start"])
    (A_parts_at : FAt K mg "_parts_at" s_parts_at ["text", "start"])
    (A_letters_end : FAt K mg "_letters_end" s_letters_end ["text", "start"])
    (A_read_fact : FAt K mg "read_fact" s_read_fact ["text"])
    (A_word_of : FAt K mg "_word_of" s_word_of ["sign"])
    (A_l_cell : FAt K mg "_law_cell" s_l_cell ["_law_script", "_law_k"])
    (A_l_dice : FAt K mg "_law_dice" s_l_dice ["_law_script", "_law_k"])
    (A_l_off : FAt K mg "_law_off" s_l_off ["_law_d", "_law_most"])
    (A_l_works : FAt K mg "_law_works" s_l_works ["_law_d"])
    (A_l_term : FAt K mg "_law_term" s_l_term ["_law_d", "_law_works_here", "_law_deep"])
    (A_l_fact : FAt K mg "_law_fact" s_l_fact ["_law_d", "_law_works_here", "_law_deep"])
    (A_l_text : FAt K mg "_law_text" s_l_text ["_law_term_here"])
    (A_l_taken : FAt K mg "_law_taken" s_l_taken ["_law_text_here"])
    (A_l_due : FAt K mg "_law_due" s_l_due ["_law_text_here"])
    (A_l_is_read : FAt K mg "_law_is_read" s_l_is_read ["_law_text_here"])
    (z_len : PySem.W.nsIn K mainGlobals "len" = some none) (z_abs : PySem.W.nsIn K mainGlobals "abs" = some none) (z_max : PySem.W.nsIn K mainGlobals "max" = some none) (z_int : PySem.W.nsIn K mainGlobals "int" = some none) (z_tuple : PySem.W.nsIn K mainGlobals "tuple" = some none) (z_str : PySem.W.nsIn K mainGlobals "str" = some none)
    (z_isinstance : PySem.W.nsIn K mainGlobals "isinstance" = some none) (z_all : PySem.W.nsIn K mainGlobals "all" = some none) (z_range : PySem.W.nsIn K mainGlobals "range" = some none)
    (n_letters : PySem.W.nsIn K mainGlobals "MOST_LETTERS" = some (some (.int 6 t1))) (n_parts : PySem.W.nsIn K mainGlobals "MOST_PARTS" = some (some (.int 3 t2))) (n_names : PySem.W.nsIn K mainGlobals "MOST_NAMES" = some (some (.int 40 t3)))
    (n_BoardError : PySem.W.nsIn K mainGlobals "BoardError" = some (some (.ref C_BoardError))) (n_BadText : PySem.W.nsIn K mainGlobals "BadText" = some (some (.ref C_BadText))) (n_NoTerm : PySem.W.nsIn K mainGlobals "NoTerm" = some (some (.ref C_NoTerm))) (n_NoFact : PySem.W.nsIn K mainGlobals "NoFact" = some (some (.ref C_NoFact))) (n_Full : PySem.W.nsIn K mainGlobals "Full" = some (some (.ref C_Full))) (n_NoMark : PySem.W.nsIn K mainGlobals "NoMark" = some (some (.ref C_NoMark))) (n_Clash : PySem.W.nsIn K mainGlobals "Clash" = some (some (.ref C_Clash)))
    (n_SIGNS : PySem.W.nsIn K mainGlobals "SIGNS" = some (some (.ref dS))) (DS : WD K w dS SG)
    (cg : Caught K C_BoardError C_BadText C_NoTerm C_NoFact C_Full C_NoMark C_Clash) (z_ValueError : PySem.W.nsIn K mainGlobals "ValueError" = some none)
    (E2 : Err K mg "BadText" C_BadText) :
    ∃ fd : FuncData, (∀ (s : Shared) (v : Value), BindsTo s fd ⟨[v], []⟩ [("_law_script", v)]) ∧ ∀ base : Heap, K.In base → base.Ns mainGlobals mg → FnOk l.prog w K mg base CX0 86 fa fd ["_law_script"] (spLaw K) := by
  have e := hfa.symm.trans (PySem.W.mg_of X G a1)
  cases e
  have F1 := fun_mk (st := s_law) l1 c1 k1
  have m_len := PySem.W.mg_none_of X G z_len
  have m_abs := PySem.W.mg_none_of X G z_abs
  have m_max := PySem.W.mg_none_of X G z_max
  have m_int := PySem.W.mg_none_of X G z_int
  have m_tuple := PySem.W.mg_none_of X G z_tuple
  have m_str := PySem.W.mg_none_of X G z_str
  have m_isinstance := PySem.W.mg_none_of X G z_isinstance
  have m_all := PySem.W.mg_none_of X G z_all
  have m_range := PySem.W.mg_none_of X G z_range
  refine ⟨PySem.W.fnOf "law" "law" (defArgs s_law) (defBody s_law) (defScope s_law) .none kV1 dc1 pm1 an1 cd1 ct1, fun s v => .of_eq rfl, fun base _ _ => ?_⟩
  have m_ValueError := PySem.W.mg_none_of X G z_ValueError
  have h_cell := ok_cell (P := l.prog) (w := w) (base := base) m_len A_l_cell
  have h_dice := ok_dice (P := l.prog) (w := w) (base := base) m_abs m_int A_l_dice h_cell
  have h_off := ok_off (P := l.prog) (w := w) (base := base) m_abs m_max m_len A_l_off h_cell
  have h_works := ok_works (P := l.prog) (w := w) (base := base) m_range A_l_works h_off
  have h_term := ok_term (P := l.prog) (w := w) (base := base) m_int m_range m_tuple A_l_term h_off 4
  have h_letter := ok_letter (P := l.prog) (w := w) (base := base) (K := K) A_is_letter
  have h_name := ok_name (P := l.prog) (w := w) (base := base) m_len m_all (PySem.W.mg_of X G n_letters) A_is_name h_letter
  have h_end := ok_end (P := l.prog) (w := w) (base := base) m_len A_letters_end h_letter
  have h_term_at := ok_reads (P := l.prog) (w := w) (base := base) m_len (PySem.W.mg_of X G n_parts) E2 A_term_at A_parts_at h_end h_name 40
  have h_read := ok_read (P := l.prog) (w := w) (base := base) m_len (PySem.W.mg_of X G n_names) E2 A_read h_term_at
  have h_ltext := ok_ltext (P := l.prog) (w := w) (base := base) m_len A_l_text 40
  have h_taken := ok_taken (P := l.prog) (w := w) (base := base) m_len A_l_taken 45
  have h_due := ok_due (P := l.prog) (w := w) (base := base) m_len A_l_due h_taken
  have h_wordOf := ok_wordOf (P := l.prog) (w := w) (base := base) (PySem.W.mg_of X G n_SIGNS) DS E2 A_word_of
  have h_readF := ok_readF (P := l.prog) (w := w) (base := base) m_len E2 A_read_fact h_read h_wordOf
  have h_lfact := ok_fact (P := l.prog) (w := w) (base := base) A_l_fact h_off h_term
  have h_is := ok_is_read (P := l.prog) (w := w) (base := base) cg m_isinstance m_tuple m_ValueError (PySem.W.mg_of X G n_BoardError) (PySem.W.mg_of X G n_BadText) (PySem.W.mg_of X G n_NoTerm) (PySem.W.mg_of X G n_NoFact) (PySem.W.mg_of X G n_Full) (PySem.W.mg_of X G n_NoMark) (PySem.W.mg_of X G n_Clash) A_l_is_read h_due h_readF
  exact ok_law m_len F1 h_dice h_off h_works h_lfact h_ltext h_is
theorem walk {l : PySem.W.OpenLaw} {q : Program} {loose : List Str} {XP : (Str → Option Value) → Heap → Prop} {YP : World → Heap → Prop} {d : DefRec} {K : Params → PySem.W.Frag} (hn : l.most = some 63) (hdf : d.params.defaults = [])
    (hY : ∀ (w : World) (h : Heap), YP w h → (K w.params).In h)
    (F : ∀ (w : World) (mg : Str → Option Value) (fa : Addr) (h : Heap), (K w.params).In h → h.Ns mainGlobals mg → mg d.name = some (.ref fa) →
      ∃ fd : FuncData, (∀ (s : Shared) (u : Value), BindsTo s fd ⟨[u], []⟩ [("_law_script", u)]) ∧ ∀ base : Heap, (K w.params).In base → base.Ns mainGlobals mg → FnOk l.prog w (K w.params) mg base CX0 86 fa fd ["_law_script"] (spLaw (K w.params))) :
    PySem.W.WalkO q loose XP YP l.row.toRowW d [] (fun f vs => PySem.call f vs) :=
  L2.walk_of (n := 63) (k := 86) (x := "_law_script") (CX := fun _ => CX0) (sp := fun w => spLaw (K w.params)) hn (by decide) hdf ⟨rfl, by decide, by decide⟩ hY F (fun _ _ a ns hl o hS => ⟨a, ns, rfl, SqF.only o hS, hl, fun _ => rfl⟩) fun _ _ _ _ _ z => z
end Ab
open PySem PySem.W PyProof.Rows
set_option maxRecDepth 100000 in
theorem PySem.Challenge.cw_alikeboard_k06_facts_read_or_refused_holds : PySem.Challenge.rw_alikeboard_k06_facts_read_or_refused.Holds := by
  w_on; o_law; k_head; (case hw => w_witness2)
  k_fill
  refine Ab.walk (l := PySem.Challenge.rw_alikeboard_k06_facts_read_or_refused) rfl rfl (fun w h Y => PySem.W.kIn_of Y) ?F
  case F =>
    intro w mg fa h KX G hmg
    refine' Ab.all_law KX G hmg ?a1 ?l1 ?c1 ?k1 ?A_read ?A_is_letter ?A_is_name ?A_term_at ?A_parts_at ?A_letters_end ?A_read_fact ?A_word_of ?A_l_cell ?A_l_dice ?A_l_off ?A_l_works ?A_l_term ?A_l_fact ?A_l_text ?A_l_taken ?A_l_due ?A_l_is_read ?z_len ?z_abs ?z_max ?z_int ?z_tuple ?z_str ?z_isinstance ?z_all ?z_range ?n_letters ?n_parts ?n_names ?n_BoardError ?n_BadText ?n_NoTerm ?n_NoFact ?n_Full ?n_NoMark ?n_Clash ?n_SIGNS ?DS ?cg ?z_ValueError ?E2
    (case a1 => k_is); (case l1 => k_is); (case c1 => k_is); (case k1 => k_is)
    (case A_read => refine' Ab.fat_mk KX G (fun _ _ _ _ _ _ us hl => match us, hl with | [_], _ => rfl) ?a ?l ?c ?k; (case a => k_is); (case l => k_is); (case c => k_is); (case k => k_is))
    (case A_is_letter => refine' Ab.fat_mk KX G (fun _ _ _ _ _ _ us hl => match us, hl with | [_], _ => rfl) ?a ?l ?c ?k; (case a => k_is); (case l => k_is); (case c => k_is); (case k => k_is))
    (case A_is_name => refine' Ab.fat_mk KX G (fun _ _ _ _ _ _ us hl => match us, hl with | [_], _ => rfl) ?a ?l ?c ?k; (case a => k_is); (case l => k_is); (case c => k_is); (case k => k_is))
    (case A_term_at => refine' Ab.fat_mk KX G (fun _ _ _ _ _ _ us hl => match us, hl with | [_, _], _ => rfl) ?a ?l ?c ?k; (case a => k_is); (case l => k_is); (case c => k_is); (case k => k_is))
    (case A_parts_at => refine' Ab.fat_mk KX G (fun _ _ _ _ _ _ us hl => match us, hl with | [_, _], _ => rfl) ?a ?l ?c ?k; (case a => k_is); (case l => k_is); (case c => k_is); (case k => k_is))
    (case A_letters_end => refine' Ab.fat_mk KX G (fun _ _ _ _ _ _ us hl => match us, hl with | [_, _], _ => rfl) ?a ?l ?c ?k; (case a => k_is); (case l => k_is); (case c => k_is); (case k => k_is))
    (case A_read_fact => refine' Ab.fat_mk KX G (fun _ _ _ _ _ _ us hl => match us, hl with | [_], _ => rfl) ?a ?l ?c ?k; (case a => k_is); (case l => k_is); (case c => k_is); (case k => k_is))
    (case A_word_of => refine' Ab.fat_mk KX G (fun _ _ _ _ _ _ us hl => match us, hl with | [_], _ => rfl) ?a ?l ?c ?k; (case a => k_is); (case l => k_is); (case c => k_is); (case k => k_is))
    (case A_l_cell => refine' Ab.fat_mk KX G (fun _ _ _ _ _ _ us hl => match us, hl with | [_, _], _ => rfl) ?a ?l ?c ?k; (case a => k_is); (case l => k_is); (case c => k_is); (case k => k_is))
    (case A_l_dice => refine' Ab.fat_mk KX G (fun _ _ _ _ _ _ us hl => match us, hl with | [_, _], _ => rfl) ?a ?l ?c ?k; (case a => k_is); (case l => k_is); (case c => k_is); (case k => k_is))
    (case A_l_off => refine' Ab.fat_mk KX G (fun _ _ _ _ _ _ us hl => match us, hl with | [_, _], _ => rfl) ?a ?l ?c ?k; (case a => k_is); (case l => k_is); (case c => k_is); (case k => k_is))
    (case A_l_works => refine' Ab.fat_mk KX G (fun _ _ _ _ _ _ us hl => match us, hl with | [_], _ => rfl) ?a ?l ?c ?k; (case a => k_is); (case l => k_is); (case c => k_is); (case k => k_is))
    (case A_l_term => refine' Ab.fat_mk KX G (fun _ _ _ _ _ _ us hl => match us, hl with | [_, _, _], _ => rfl) ?a ?l ?c ?k; (case a => k_is); (case l => k_is); (case c => k_is); (case k => k_is))
    (case A_l_fact => refine' Ab.fat_mk KX G (fun _ _ _ _ _ _ us hl => match us, hl with | [_, _, _], _ => rfl) ?a ?l ?c ?k; (case a => k_is); (case l => k_is); (case c => k_is); (case k => k_is))
    (case A_l_text => refine' Ab.fat_mk KX G (fun _ _ _ _ _ _ us hl => match us, hl with | [_], _ => rfl) ?a ?l ?c ?k; (case a => k_is); (case l => k_is); (case c => k_is); (case k => k_is))
    (case A_l_taken => refine' Ab.fat_mk KX G (fun _ _ _ _ _ _ us hl => match us, hl with | [_], _ => rfl) ?a ?l ?c ?k; (case a => k_is); (case l => k_is); (case c => k_is); (case k => k_is))
    (case A_l_due => refine' Ab.fat_mk KX G (fun _ _ _ _ _ _ us hl => match us, hl with | [_], _ => rfl) ?a ?l ?c ?k; (case a => k_is); (case l => k_is); (case c => k_is); (case k => k_is))
    (case A_l_is_read => refine' Ab.fat_mk KX G (fun _ _ _ _ _ _ us hl => match us, hl with | [_], _ => rfl) ?a ?l ?c ?k; (case a => k_is); (case l => k_is); (case c => k_is); (case k => k_is))
    (case z_len => k_is); (case z_abs => k_is); (case z_max => k_is); (case z_int => k_is); (case z_tuple => k_is); (case z_str => k_is); (case z_isinstance => k_is); (case z_all => k_is); (case z_range => k_is)
    (case n_letters => k_is); (case n_parts => k_is); (case n_names => k_is); (case n_BoardError => k_is); (case n_BadText => k_is); (case n_NoTerm => k_is); (case n_NoFact => k_is); (case n_Full => k_is); (case n_NoMark => k_is); (case n_Clash => k_is); (case n_SIGNS => k_is); (case z_ValueError => k_is)
    (case DS => refine' Ab.wd_mk ?lk1 ?lo1 ?kl1 ?pr1; (case lk1 => k_is); (case lo1 => rfl); (case kl1 => exact ⟨⟨_, _, rfl, rfl⟩, ⟨_, _, rfl, rfl⟩, ⟨_, _, rfl, rfl⟩, ⟨_, _, rfl, rfl⟩, trivial⟩); (case pr1 => exact .cons ⟨⟨_, rfl⟩, ⟨_, rfl⟩⟩ (.cons ⟨⟨_, rfl⟩, ⟨_, rfl⟩⟩ (.cons ⟨⟨_, rfl⟩, ⟨_, rfl⟩⟩ (.cons ⟨⟨_, rfl⟩, ⟨_, rfl⟩⟩ .nil)))))
    (case cg => refine' Ab.Caught.mk ?q1 ?q2 ?q3 ?q4 (L2.ExcC.mk ?q5 ?q6 ?q7 ?q8 ?q9 ?q10 ?q11 ?q12); (case q1 => kts_exm); (case q2 => kit_is); (case q3 => kit_is); (case q4 => kit_is); (case q5 => k_is); (case q6 => k_is); (case q7 => k_is); (case q8 => k_is); (case q9 => k_is); (case q10 => k_is); (case q11 => k_is); (case q12 => k_is))
    (case E2 => refine' Ab.err_mk KX G ?ea2 ?eq2 ?ek2 ?ee2 ?et2; (case ea2 => k_is); (case eq2 => k_exc); (case ek2 => k_is); (case ee2 => k_is); (case et2 => k_is))
#print axioms PySem.Challenge.cw_alikeboard_k06_facts_read_or_refused_holds
