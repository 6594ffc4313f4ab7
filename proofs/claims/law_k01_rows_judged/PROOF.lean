import PyProof.Rows.All
import Wide.All
import OpenK.AllK
import Wide.FinOn
import HandS.Base
import HandS.Call
import HandS.List
import HandS.Comp
import HandS.Ends
import HandS.Text
import HandS.Exc
import HandS.Words
import PyProof.ReprRoads
import HandS.Iter
import HandS.Dict
import HandS.IsInst
import HandS.Conv
import HandS.Codes
import HandS.Wide
import PyProof.ListStr
import PyProof.TupleCall
import PyProof.StrLawsTight
import HandS.Style
import HandS.ForMost
import HandS.TupLe
import PyProof.ReprLen
import PySem.Challenge.RW_paircounts_k01_rows_judged
set_option Elab.async false
set_option linter.all false
set_option maxRecDepth 100000
set_option maxHeartbeats 4000000
set_option exponentiation.threshold 10000
namespace Vx
open PySem PySem.Spec PyProof.Rows L2

/-! defs that are entered where no repr is under way -/
structure FnG (P : Program) (w : World) (K : PySem.W.Frag) (mg : Str → Option Value) (base : Heap) (CX : CXT) (k : Nat) (f : Addr) (fd : FuncData) (ps : List Str) (sp : Sp) : Prop where
  len : ∀ vs H Q E, sp vs H Q E → vs.length = ps.length
  run : ∀ (A : Around) (outer : List Env) (s : Shared) (H : Hp) (args : Args) (us : List Value) (vs : List V) (Q : VK) (E : XK), A.guards = some [] → Room k A →
    Env0 P w K mg base A outer s H → BindsTo s fd args (ps.zip us) → Vals vs us → sp vs H Q E → codeAny (model P w) A (.call (.ref f) args) (CR CX outer P w H s Q E) s

section
variable {P : Program} {w : World} {K : PySem.W.Frag} {mg : Str → Option Value} {base : Heap} {CX : CXT} {k : Nat} {f : Addr} {fd : FuncData} {ps : List Str} {sp : Sp}
theorem FnG.of (F : FnOk P w K mg base CX k f fd ps sp) : FnG P w K mg base CX k f fd ps sp := ⟨F.len, fun A outer s H args us vs Q E _ => F.run A outer s H args us vs Q E⟩
theorem FnG.mono {j : Nat} (F : FnG P w K mg base CX j f fd ps sp) (h : j ≤ k) : FnG P w K mg base CX k f fd ps sp :=
  ⟨F.len, fun A outer s H args us vs Q E hg hr => F.run A outer s H args us vs Q E hg (hr.mono h)⟩
end

/-- a def by its body, the guards told -/
theorem fnG_of {CX : CXT} {P : Program} {w : World} {K : PySem.W.Frag} {mg : Str → Option Value} {base : Heap} {k : Nat} {f : Addr} {name qual : Str} {params : Arguments} {body : List Stmt} {scope : Scope} {dV kV doc pm cdv ct oc : Value} {an od : Option Addr}
    {osl : Array (Option Value)} {N ps : List Str} {sp : Sp} (found : K.lookup f = some ⟨oc, od, .func (PySem.W.fnOf name qual params body scope dV kV doc pm an cdv ct), osl⟩) (code : PySem.W.codeIn K cdv qual = true) (S : FnScope N ps scope)
    (len : ∀ vs H Q E, sp vs H Q E → vs.length = ps.length)
    (walk : ∀ (A : Around) (outer : List Env) (s : Shared) (H : Hp) (vs : List V) (Q : VK) (E : XK), A.guards = some [] → Room k (A.deeper (envOfC qual scope s.heap.objs.size f cdv)) → sp vs H Q E →
      ∃ t, PSs (cxOf CX P w K mg base N qual scope f cdv A outer s H E) body t ∧ t { nx := fun _ H' => Q .non H', rt := Q } (start N vs) H) :
    FnG P w K mg base CX (k + 1) f (PySem.W.fnOf name qual params body scope dV kV doc pm an cdv ct) ps sp := by
  constructor
  · exact len
  intro A outer s H args us vs Q E guards room e0 bound r asked
  have many := len vs H Q E asked
  have inK : K.In s.heap := e0.mod.kin.keeps fun b o q => (e0.bs b o q).1
  have unlimited : s.heap.NoLimit := e0.mod.nolimit.keeps fun b o q => (e0.bs b o q).1
  have kinds : ∀ y ∈ ps.zip us, scope.names.lookup y.1 = some .local ∨ (scope.names.lookup y.1 = some .cell ∧ ((cellsFrom (s.heap.objs.size + 1) scope.names []).lookup y.1).isSome = true) := by
    rintro ⟨n, v⟩ within
    rcases S.par n (List.of_mem_zip within).1 with z | z
    · exact Or.inl z
    · exact Or.inr ⟨z, PySem.W.cellsFrom_some _ _ _ (Or.inl z)⟩
  refine codeAny_call_function room.depth (inK _ _ found) rfl S.co S.gen rfl (PySem.W.codeRec_of inK code) (bound _ _ _ _ (wpAny_newFunctionEnv_cells S.kind kinds ?_))
  intro env isEnv s1 entered
  subst isEnv
  refine And.intro (unlimited.keeps entered.toInCall.keep) (codeAny_func ?_)
  obtain ⟨t, derived, reads⟩ := walk A outer s H vs Q E guards (room.deeper _) asked
  have I0 : Inv (cxOf CX P w K mg base N qual scope f cdv A outer s H E) [] (start N vs) H s1 := inv_start S room.hd e0 many r entered
  refine wpAny_mono (derived.run [] s1 (start N vs) H _ I0 reads) ?_ (fun _ _ z => z)
  intro flow s' ended
  cases flow with
  | ret u =>
    obtain ⟨v, σ', H', J, rv, q⟩ := ended
    exact ⟨v, H', J.os, J.bare, J.base, J.hok, rv, q⟩
  | next =>
    obtain ⟨σ', H', J, q⟩ := ended
    exact ⟨V.non, H', J.os, J.bare, J.base, J.hok, rfl, q⟩
  | brk => exact (show False from ended.choose_spec.choose_spec.2).elim
  | cont => exact (show False from ended.choose_spec.choose_spec.2).elim

/-- a def of the text, the guards told; what it raises leaves it -/
theorem okGX {P : Program} {w : World} {K : PySem.W.Frag} {mg : Str → Option Value} {base : Heap} {CX : CXT} {x qual : Str} {st : Stmt} {f : Addr} {fd : FuncData} {N ps : List Str} {k : Nat} {sp : Sp} (F : Fun K x qual st f fd) (S : FnScope N ps (defScope st))
    (len : ∀ vs H Q E, sp vs H Q E → vs.length = ps.length)
    (walk : ∀ (cdv : Value) (A : Around) (outer : List Env) (s : Shared) (H : Hp) (vs : List V) (Q : VK) (E : XK), A.guards = some [] → Room k (A.deeper (envOfC qual (defScope st) s.heap.objs.size f cdv)) → sp vs H Q E →
      ∃ t, PSs (cxOf CX P w K mg base N qual (defScope st) f cdv A outer s H E) (defBody st) t ∧ t { nx := fun _ H' => Q .non H', rt := Q } (start N vs) H) : FnG P w K mg base CX (k + 1) f fd ps sp := by
  obtain ⟨oc, od, kV, doc, pm, an, cdv, ct, osl, rfl, found, code⟩ := F.ex
  exact fnG_of found code S len fun A outer s H vs Q E hg hr asked => walk cdv A outer s H vs Q E hg hr asked
/-- a def of the text, the guards told; nothing is raised -/
theorem okG {P : Program} {w : World} {K : PySem.W.Frag} {mg : Str → Option Value} {base : Heap} {x qual : Str} {st : Stmt} {f : Addr} {fd : FuncData} {N ps : List Str} {k : Nat} {sp : Sp} (F : Fun K x qual st f fd) (S : FnScope N ps (defScope st))
    (len : ∀ vs H Q E, sp vs H Q E → vs.length = ps.length)
    (walk : ∀ (cdv : Value) (A : Around) (outer : List Env) (s : Shared) (H : Hp) (vs : List V) (Q : VK) (E : XK), A.guards = some [] → Room k (A.deeper (envOfC qual (defScope st) s.heap.objs.size f cdv)) → sp vs H Q E →
      ∃ t, PSs (cxOf CX0 P w K mg base N qual (defScope st) f cdv A outer s H E).nox (defBody st) t ∧ t { nx := fun _ H' => Q .non H', rt := Q } (start N vs) H) : FnG P w K mg base CX0 (k + 1) f fd ps sp :=
  okGX F S len fun cdv A outer s H vs Q E hg hr asked => by
    obtain ⟨t, derived, reads⟩ := walk cdv A outer s H vs Q E hg hr asked
    exact ⟨t, derived.nox, reads⟩

section
variable {X : Cx} {CX : CXT} {k : Nat} {f : Addr} {fd : FuncData} {ps : List Str} {sp : Sp} {dvs : List V} {ds : List Value} {E : XK} {x : Str} {p pos : Pos} {e : Expr} {es : List Expr} {t : TA}
theorem goG {pins : List (Addr × Obj)} {σ : L2.St} {H : Hp} {s : Shared} {Q : VK} {us : List Value} {vs : List V} (F : FnG X.prog X.w X.K X.mg X.base CX k f fd ps sp) (hg : X.A.guards = some []) (hr : Room k X.A) (hb : Binds X.K fd ps ds) (hd : Vals dvs ds) (hx : Passes CX X E)
    (I : Inv X pins σ H s) (r : Vals vs us) (h : sp (vs ++ dvs) H Q E) : wpAny (model X.prog X.w) X.A (call (.ref f) us) (EP X pins σ Q) X.xe s := by
  have all : Vals (vs ++ dvs) (us ++ ds) := Vals.append r hd
  have many : (us ++ ds).length = ps.length := (Vals.length all).symm.trans (F.len _ _ _ _ h)
  apply wpAny_call
  refine codeAny_mono (F.run X.A X.stack s H ⟨us, []⟩ (us ++ ds) (vs ++ dvs) Q E hg hr I.env0 (hb s us I.kIn many) all h) ?_
  intro res s' ended
  rcases res with er | fl
  · exact hx pins σ H s er s' I ended
  · cases fl with
    | ret u => exact I.after ended
    | next => exact (show False from ended).elim
    | brk => exact (show False from ended).elim
    | cont => exact (show False from ended).elim
theorem pe_callG (F : FnG X.prog X.w X.K X.mg X.base CX k f fd ps sp) (hgd : X.A.guards = some []) (hr : Room k X.A) (hg : Gl X x) (hm : X.mg x = some (.ref f)) (hk : PySem.W.keepIn X.K (.ref f) = true) (hb : Binds X.K fd ps ds) (hd : Vals dvs ds) (hx : Passes CX X E)
    (ha : PA X (e :: es) t) (hdb : (x == ("__debug__" : Str)) = false := by decide) (he : starEach (e :: es) X.env = (false, eval e X.env) :: starEach es X.env := by rfl) (hpl : (backTo pos (starEach es X.env)).any (·.1) = false := by rfl) :
    PE X (.Call (.Name x p) (e :: es) [] pos) (tCall sp dvs E t) :=
  ⟨fun pins s σ H Q I h => wpAny_Call_Name_kw (ld_glob I hg hm (PySem.W.callWith_K (h₀ := X.base) I.ok.mod.kin hk
    (thn (ha.run pos pins s σ H _ I h) fun us s1 ⟨vs, H1, I1, r, q⟩ => ⟨I1.kIn, goG F hgd hr hb hd hx I1 r q⟩) he hpl) hdb)⟩
end
end Vx
namespace Vx
open PySem PySem.Spec PyProof.Rows L2
abbrev S := SX.S

theorem foldl_app (l : List (List Nat)) : ∀ acc : Array Nat, (l.map List.toArray).foldl (· ++ ·) acc = (acc.toList ++ l.flatten).toArray := by
  induction l with
  | nil => intro acc; simp
  | cons x r ih => intro acc; rw [List.map_cons, List.foldl_cons, ih]; simp
def repN (n : Nat) (a : List Nat) : List Nat := (List.replicate n a).flatten
theorem repN_zero (a : List Nat) : repN 0 a = [] := rfl
theorem repN_succ (n : Nat) (a : List Nat) : repN (n + 1) a = a ++ repN n a := by unfold repN; rw [List.replicate_succ, List.flatten_cons]
theorem repN_length (n : Nat) (a : List Nat) : (repN n a).length = n * a.length := by
  induction n with
  | zero => simp [repN]
  | succ n ih => rw [repN_succ, List.length_append, ih, Nat.succ_mul]; omega
theorem repN_one (a : List Nat) : repN 1 a = a := by rw [repN_succ, repN_zero, List.append_nil]
theorem repN_nil (n : Nat) : repN n [] = [] := by
  induction n with
  | zero => rfl
  | succ n ih => rw [repN_succ, ih]; rfl
theorem mem_repN {n : Nat} {a : List Nat} {c : Nat} (h : c ∈ repN n a) : c ∈ a := by
  induction n with
  | zero => simp [repN] at h
  | succ n ih =>
    rw [repN_succ] at h
    rcases List.mem_append.mp h with h | h
    · exact h
    · exact ih h
theorem mul_S (a : List Nat) (n : Nat) : (⟨(List.replicate n (S a).cps).foldl (· ++ ·) #[]⟩ : Str) = S (repN n a) := by
  have e : (List.replicate n (S a).cps) = (List.replicate n a).map List.toArray := by rw [List.map_replicate]
  rw [e, foldl_app]; rfl

section
variable {X : Cx}
/-- text * n -/
theorem op_rep_str : OpR X (binaryOp .Mult) (fun x y H Q => ∃ (a : List Nat) (i : Int), x = .str (S a) ∧ y = .int i ∧ i < 2 ^ 40 ∧ -(2 ^ 40) < i ∧ i.toNat * a.length ≤ 1000000 ∧ Q (.str (S (repN i.toNat a))) H) := by
  intro pins s σ H x y v u Q I rx ry h
  obtain ⟨a, i, rfl, rfl, h1, h2, h3, q⟩ := h
  obtain ⟨t, rfl⟩ := rx
  obtain ⟨t', rfl⟩ := ry
  have hl : (S a).length = a.length := SX.S_len a
  refine PySem.P.mul_str ?_ ?_ ?_ ?_
  · rw [decide_eq_false (by omega), decide_eq_false (by omega)]; first | done | rfl
  · intro hn _ hc
    have hp : 0 < i := by omega
    have : ((S a).length : Int) * i ≤ 1000000 := by
      rw [hl]
      have e : (i.toNat : Int) = i := Int.toNat_of_nonneg (by omega)
      have : ((i.toNat * a.length : Nat) : Int) ≤ 1000000 := by omega
      rw [Int.natCast_mul, e, Int.mul_comm] at this
      exact this
    have h4 : ((S a).length : Int) ≤ (2 ^ 63 - 1) / i := by
      rw [Int.le_ediv_iff_mul_le hp]
      omega
    omega
  · intro _ _
    unfold Builtin.Str.tooLong
    rw [hl, Nat.mul_comm]
    exact decide_eq_false (by unfold sizeLine; omega)
  · by_cases c1 : i < 1
    · rw [if_pos c1]
      have e : i.toNat = 0 := by omega
      rw [e, repN_zero] at q
      exact ⟨by decide, .str _, H, I.tok _, ⟨_, rfl⟩, q⟩
    · rw [if_neg c1]
      by_cases c2 : (i == 1 || (S a).length == 0) = true
      · rw [if_pos c2]
        have e : repN i.toNat a = a := by
          rcases Bool.or_eq_true _ _ ▸ c2 with c | c
          · have : i = 1 := by simpa using c
            rw [this]; exact repN_one a
          · have : a.length = 0 := by rw [hl] at c; simpa using c
            have : a = [] := List.length_eq_zero_iff.mp this
            rw [this]; exact repN_nil _
        rw [e] at q
        exact ⟨.str _, H, I, ⟨t, rfl⟩, q⟩
      · rw [if_neg c2, mul_S]
        refine ⟨?_, .str _, H, I.tok _, ⟨_, rfl⟩, q⟩
        show (S _).length ≤ sizeLine
        rw [SX.S_len, repN_length]; unfold sizeLine; omega
end

/-- one sign each -/
def sg (a : List Nat) : List V := a.map fun c => V.str (S [c])
theorem sg_length (a : List Nat) : (sg a).length = a.length := List.length_map ..
theorem vals_signs {a : List Nat} {acc : Array Value} (h : ItemsOf (SignAt (S a)) acc (S a).cps.size) : Vals (sg a) acc.toList := by
  refine vals_of_at ?_ fun j x u hx hu => ?_
  · have e : acc.toList.length = acc.size := Array.length_toList ..
    rw [sg_length, e, h.1]; exact (SX.S_len a).symm
  · rw [Array.getElem?_toList] at hu
    obtain ⟨c, t, hc, rfl⟩ := h.2 j u hu
    have hc' : a[j]? = some c := by
      have : (S a).cps[j]? = a[j]? := List.getElem?_toArray ..
      rw [← this]; exact hc
    unfold sg at hx
    rw [List.getElem?_map, hc'] at hx
    cases hx
    exact ⟨t, rfl⟩
section
variable {X : Cx}
/-- text[::-1] -/
def tRevS (te : TE) : TE := fun σ H Q => te σ H fun x H1 => ∃ a : List Nat, x = .str (S a) ∧ a.length ≤ sizeLine ∧ Q (.str (S a.reverse)) H1
theorem pe_revS {e : Expr} {te : TE} {k : Nat} {p1 p2 p3 pos : Pos} (he : PE X e te) : PE X (.Subscript e (.Slice none none (some (.UnaryOp .USub (.Constant (.int 1) k p1) p2)) p3) pos) (tRevS te) := by
  constructor
  intro pins s σ H Q I h
  apply Subscript_
  refine thn (he.run pins s σ H _ I h) ?_
  rintro v s1 ⟨x, H1, I1, r1, a, ex, hz, q⟩
  subst ex
  obtain ⟨t, rfl⟩ := r1
  have minus : PO X (some (.UnaryOp .USub (.Constant (.int 1) k p1) p2)) (tPart (tUn (rU fun i => .int (-i)) (tC (.int 1)))) := po_some (pe_un un_neg pe_int)
  apply wpAny_Slice
  refine thn (po_none.run pins s1 σ H1 (fun o H2 => o = none ∧ H2 = H1) I1 ⟨rfl, rfl⟩) ?_
  rintro vl s2 ⟨l, H2, I2, pl, el, e2⟩
  subst el e2
  refine thn (po_none.run pins s2 σ H2 (fun o H3 => o = none ∧ H3 = H2) I2 ⟨rfl, rfl⟩) ?_
  rintro vu s3 ⟨u, H3, I3, pu, eu, e3⟩
  subst eu e3
  refine thn (minus.run pins s3 σ H3 (fun o H4 => o = some (-1) ∧ H4 = H3) I3 ⟨1, rfl, -1, rfl, rfl, rfl⟩) ?_
  rintro vs s4 ⟨o, H4, I4, ps, eo, e4⟩
  subst eo e4
  have I5 : Inv X pins σ H4 { s4 with heap := s4.heap.push { cls := .type "slice", data := .fields #[vl, vu, vs] } } := I4.kept (t' := s4.toks) fun b ob z => Heap.get?_push_of_some _ z
  refine tail_any (ops := [.str (S a) t, .ref s4.heap.objs.size]) (typeIs_str _ _ _) F.slot_str_getitem.lookup ?_ (by with_unfolding_all rfl)
  obtain ⟨l, rfl, el⟩ := IsPart.raw pl
  obtain ⟨u, rfl, eu⟩ := IsPart.raw pu
  obtain ⟨w', rfl, ew⟩ := IsPart.raw ps
  have hl : l = none := by cases l with | none => rfl | some z => cases el
  have hu : u = none := by cases u with | none => rfl | some z => cases eu
  obtain ⟨tk, rfl⟩ : ∃ tk, w' = some (-1, tk) := by
    cases w' with
    | none => cases ew
    | some z => obtain ⟨z1, z2⟩ := z; cases ew; exact ⟨z2, rfl⟩
  subst hl hu
  refine wpAny_getItem_str_slice (l := none) (u := none) (st := some (-1, tk)) ⟨_, Heap.get?_push_size _ rfl, rfl, rfl⟩ (by rfl) ?_
  have hp : slicePicked (S a) none none (some (-1, tk)) = (List.range a.length).reverse := by
    unfold slicePicked
    rw [SX.S_len, ← PySem.W.krv_range, ← PySem.W.krv_sliceRange]
    rfl
  have hr : ((slicePicked (S a) none none (some (-1, tk))).filterMap ((S a).cps[·]?)).toArray = a.reverse.toArray := by
    rw [hp, List.filterMap_reverse]
    have e := PySem.W.krv_all a.toArray
    rw [List.size_toArray] at e
    have e' : (List.range a.length).filterMap (fun x => (S a).cps[x]?) = a := e
    rw [e']
  unfold sliceMade
  have hne : ((Option.map (fun x : Int × Tok => x.fst) (some (-1, tk))).getD 1 == 1 && (slicePicked (S a) none none (some (-1, tk))).length == (S a).length) = false := by
    rw [show ((Option.map (fun x : Int × Tok => x.fst) (some (-1, tk))).getD 1 == 1) = false from rfl, Bool.false_and]
  rw [if_neg (by rw [hne]; exact Bool.false_ne_true), hr]
  refine ⟨?_, .str _, H4, I5.tok _, ⟨_, rfl⟩, q⟩
  show (S a.reverse).length ≤ sizeLine
  rw [SX.S_len, List.length_reverse]; exact hz

/-- list(text) -/
theorem call_list_tx (hc : X.calm = true) : CallR X (.type "list") (fun xs H Q => ∃ a : List Nat, xs = [.str (S a)] ∧ a.length ≤ 100000 ∧ ∀ l, H l = none → Q (.ref l) (upd H l (.lst (sg a)))) := by
  intro pins s σ H xs us Q I r h
  obtain ⟨a, rfl, hz, q⟩ := h
  obtain ⟨u, rfl, rx⟩ := vals1 r
  obtain ⟨t, rfl⟩ := rx
  have hs : (S a).cps.size = a.length := SX.S_len a
  refine PySem.call_list_str (I.ok.hd hc) (S a) t (fun h' tk acc c' kp e it => ?_) (by rw [hs]; unfold sizeLine; omega)
  refine ⟨.ref s.heap.objs.size, _, I.laid (t' := tk) kp (Nat.le_refl _) (show ObjOk X.prog X.w _ h' _ (.lst (sg a)) from ⟨by rw [sg_length]; unfold sizeLine; omega, acc.toList, c', vals_signs it, ?_⟩), rfl, q _ (I.hok.fresh (Nat.le_refl _))⟩
  rw [Array.toArray_toList]; exact e
end
section
variable {prog : Program} {w : World} {A : Around} {E : Value → Shared → Prop} {s : Shared}
theorem code_tuple_tx {Q₁ : Value → Shared → Prop} (hh : A.handled = none) (x : Str) (t : Tok) (hn : x.cps.size ≤ 100000)
    (h : ∀ (s' : Shared) (acc : Array Value), (∀ b o, s.heap.get? b = some o → s'.heap.get? b = some o) → s'.gens = s.gens → s'.drawn = s.drawn → s'.os = s.os → ItemsOf (SignAt x) acc x.cps.size →
      Q₁ (.ref s'.heap.objs.size) { s' with heap := s'.heap.push { cls := .type "tuple", data := .seq acc } }) :
    codeAny (model prog w) A (.call (.builtin "tuple.__new__") ⟨[.type "tuple", .str x t], []⟩) (wants Q₁ E) s := by
  apply codeAny_of_tree
  show wpAny _ A.in1 (do checkBuiltinCall "tuple.__new__" ⟨[.type "tuple", .str x t], []⟩; again (.builtin "tuple.__new__" ⟨[.type "tuple", .str x t], []⟩)) _ _ s
  refine wpAny_bind (wpAny_of_eq (F.newCall_tuple_1 _) (wpAny_pure ⟨plainId_quiet F.plain_tuple_new _, codeAny_builtin F.entry_tuple_new ?_⟩))
  rw [Around.under_plainId F.plain_tuple_new _]
  have k1 := sub_tuple_self
  have k2 := init_tuple_lookup
  have k3 := madeHere_tuple
  have k4 : s.TypeIs (.str x t) "str" := typeIs_str s x t
  have k5 : A.in1.handled = none := hh
  have k6 : x.cps.size ≤ sizeLine := by unfold sizeLine; omega
  wp_walk using wpAny_typeOf k4, wpAny_collect_str (A := A.in1) k5 x t
  intro s' acc hk hg hd ho hacc
  show wpAny _ _ (Builtin.Tuple.tupleExact acc.toList.toArray >>= fun v => ret v) _ _ _
  unfold Builtin.Tuple.tupleExact
  have ea : acc.toList.toArray = acc := by simp
  rw [ea]
  refine wpAny_bind (wpAny_newObj_type ?_ (by show acc.size ≤ sizeLine; rw [hacc.1]; exact k6))
  exact wpAny_pure (h s' acc hk hg hd ho hacc)
theorem call_tuple_txt {Q : Value → Shared → Prop} (hh : A.handled = none) (x : Str) (t : Tok) (hn : x.cps.size ≤ 100000)
    (hQ : ∀ (s' : Shared) (acc : Array Value), (∀ b o, s.heap.get? b = some o → s'.heap.get? b = some o) → s'.gens = s.gens → s'.drawn = s.drawn → s'.os = s.os → ItemsOf (SignAt x) acc x.cps.size →
      Q (.ref s'.heap.objs.size) { s' with heap := s'.heap.push { cls := .type "tuple", data := .seq acc } }) :
    wpAny (model prog w) A (call (.type "tuple") [.str x t]) Q E s := by
  refine callType_codes (Q₁ := fun obj s₁ => s₁.TypeIs obj "tuple" ∧ Q obj s₁) F.called_tuple (F.typeCall_tuple_1 _) F.entry_object_init
    (code_tuple_tx (A := A.in1) hh x t hn fun s' acc hk hg hd ho hacc => ⟨⟨_, Heap.get?_push_size _ rfl, rfl⟩, hQ s' acc hk hg hd ho hacc⟩) fun obj s₁ h₁ => ?_
  exact ⟨h₁.1, F.args_object_init_2 obj _, object_init_meets F.called_tuple.init.lookup F.called_tuple.made (by decide) prog w A.in1 _ s₁ ⟨h₁.1, rfl, h₁.2⟩⟩
end
section
variable {X : Cx}
theorem call_tuple_tx (hc : X.calm = true) : CallR X (.type "tuple") (fun xs H Q => ∃ a : List Nat, xs = [.str (S a)] ∧ a.length ≤ 100000 ∧ ∀ l, H l = none → Q (.ref l) (upd H l (.tup (sg a)))) := by
  intro pins s σ H xs us Q I r h
  obtain ⟨a, rfl, hz, q⟩ := h
  obtain ⟨u, rfl, rx⟩ := vals1 r
  obtain ⟨t, rfl⟩ := rx
  have hs : (S a).cps.size = a.length := SX.S_len a
  refine call_tuple_txt (I.ok.hd hc) (S a) t (by rw [hs]; exact hz) fun s' acc kp hg hd ho it => ?_
  obtain ⟨h', g', d', t', o'⟩ := s'
  obtain rfl : g' = s.gens := hg
  obtain rfl : d' = s.drawn := hd
  obtain rfl : o' = s.os := ho
  have I2 : Inv X pins σ H { s with heap := h', toks := t' } := I.kept kp
  refine ⟨.ref h'.objs.size, upd H h'.objs.size (.tup (sg a)), I2.laid (t' := t') (fun c o e => Heap.get?_push_of_some _ e) (Nat.le_refl _) (show ObjOk X.prog X.w _ _ _ (.tup (sg a)) from ⟨by rw [sg_length]; unfold sizeLine; omega, acc.toList, vals_signs it, ?_⟩), rfl, q _ (I2.hok.fresh (Nat.le_refl _))⟩
  rw [Array.toArray_toList]; exact IsTup.new _ _
end
end Vx
namespace Vx
open PySem PySem.Spec PyProof.Rows L2
/-! repr of data at any depth, with dicts -/
mutual
inductive Dx (K : PySem.W.Frag) (H : Hp) : V → PyData → Prop
  | non : Dx K H .non .none
  | bl (b : Bool) : Dx K H (.bl b) (.bool b)
  | int (i : Int) : Dx K H (.int i) (.int i)
  | str (x : Str) : Dx K H (.str x) (.str x)
  | lst {a : Addr} {xs : List V} {ds : List PyData} : H a = some (.lst xs) → a ≠ sysModules → DxAll K H xs ds → Dx K H (.ref a) (.list ds)
  | tup {a : Addr} {xs : List V} {ds : List PyData} : SqT K H a xs → DxAll K H xs ds → Dx K H (.ref a) (.tuple ds)
  | dic {a : Addr} {kvs : List (Key × V)} {ds : List (PyData × PyData)} : H a = some (.dK kvs) → DxAll K H (kvs.map fun p => kV p.1) (ds.map (·.1)) → DxAll K H (kvs.map (·.2)) (ds.map (·.2)) → Dx K H (.ref a) (.dict ds)
inductive DxAll (K : PySem.W.Frag) (H : Hp) : List V → List PyData → Prop
  | nil : DxAll K H [] []
  | cons {v : V} {vs : List V} {d : PyData} {ds : List PyData} : Dx K H v d → DxAll K H vs ds → DxAll K H (v :: vs) (d :: ds)
end
theorem pair_keys {P : Program} {w : World} : ∀ {es : List DictEntry} {kvs : List (Key × V)} {vs : List (Key × Value)}, KV kvs vs → Pairs (mixKind P w) es vs → Vals (kvs.map fun p => kV p.1) (es.map (·.key)) ∧ Vals (kvs.map (·.2)) (es.map (·.val))
  | _, _, _, .nil, p => by cases p; exact ⟨.nil, .nil⟩
  | _, _, _, .cons r t, p => by
    cases p with
    | cons h1 h2 h3 =>
      obtain ⟨a, b⟩ := pair_keys t h3
      refine ⟨.cons ?_ a, .cons ?_ b⟩
      · dsimp only; rw [r.1]; exact keyIs_rel h1
      · dsimp only; rw [h2]; exact r.2
section
variable {X : Cx} {pins : List (Addr × Obj)} {σ : L2.St} {H : Hp} {s : Shared}
mutual
theorem Dx.reads (I : Inv X pins σ H s) : ∀ (d : PyData) (v : V) (u : Value), Dx X.K H v d → RelV v u → ∃ as, Reads s.heap u d as ∧ sysModules ∉ as
  | .none, _, _, h, r => by cases h; cases r; exact ⟨_, Reads.none, by simp⟩
  | .bool b, _, _, h, r => by cases h; cases r; exact ⟨_, Reads.bool b, by simp⟩
  | .int i, _, _, h, r => by cases h; obtain ⟨t, rfl⟩ := r; exact ⟨_, Reads.int i t, by simp⟩
  | .str x, _, _, h, r => by cases h; obtain ⟨t, rfl⟩ := r; exact ⟨_, Reads.str x t, by simp⟩
  | .list ds, _, _, h, r => by
    cases h with
    | lst hs hne ha =>
      cases r
      obtain ⟨its, rv, ⟨o, n, ho, hc, _, hd⟩, _⟩ := I.list (SqL.of hs)
      obtain ⟨as, hr, hn⟩ := Dx.readsAll I ds _ its ha rv
      refine ⟨_, Reads.list ho hc hd hr, fun z => ?_⟩
      rcases List.mem_cons.mp z with z | z
      · exact hne z.symm
      · exact hn z
  | .tuple ds, _, _, h, r => by
    cases h with
    | tup hs ha =>
      cases r
      obtain ⟨its, rv, ⟨o, ho, hc, n, hd⟩, _⟩ := I.tuple hs
      obtain ⟨as, hr, hn⟩ := Dx.readsAll I ds _ its ha rv
      exact ⟨_, Reads.tuple ho hc hd hr, hn⟩
  | .dict ds, _, _, h, r => by
    cases h with
    | dic hs ha hb =>
      cases r
      obtain ⟨_, hS, vs, kv, o, es, ep, ho, hx, hd, _, hp, _⟩ := dk_of I.hok hs
      obtain ⟨rk, rvv⟩ := pair_keys kv hp
      obtain ⟨as, hr, hn⟩ := Dx.readsKeys I ds _ _ ha rk
      obtain ⟨bs, hr2, hn2⟩ := Dx.readsVals I ds _ _ hb rvv
      refine ⟨_, Reads.dict ho hx.1 hd hr hr2, fun z => ?_⟩
      rcases List.mem_append.mp z with z | z
      · rcases List.mem_cons.mp z with z | z
        · exact absurd z.symm (by simpa using hS)
        · exact hn z
      · exact hn2 z
theorem Dx.readsAll (I : Inv X pins σ H s) : ∀ (ds : List PyData) (vs : List V) (us : List Value), DxAll X.K H vs ds → Vals vs us → ∃ as, ReadsAll s.heap us ds as ∧ sysModules ∉ as
  | [], _, _, h, r => by cases h; cases r; exact ⟨_, ReadsAll.nil, by simp⟩
  | d :: ds, _, _, h, r => by
    cases h with
    | cons a1 a2 =>
      cases r with
      | cons r1 r2 =>
        obtain ⟨as, q1, n1⟩ := Dx.reads I d _ _ a1 r1
        obtain ⟨bs, q2, n2⟩ := Dx.readsAll I ds _ _ a2 r2
        refine ⟨_, ReadsAll.cons q1 q2, fun z => ?_⟩
        rcases List.mem_append.mp z with z | z
        · exact n1 z
        · exact n2 z
theorem Dx.readsKeys (I : Inv X pins σ H s) : ∀ (ds : List (PyData × PyData)) (vs : List V) (us : List Value), DxAll X.K H vs (ds.map (·.1)) → Vals vs us → ∃ as, ReadsAll s.heap us (ds.map (·.1)) as ∧ sysModules ∉ as
  | [], _, _, h, r => by cases h; cases r; exact ⟨_, ReadsAll.nil, by simp⟩
  | (d, _) :: ds, _, _, h, r => by
    cases h with
    | cons a1 a2 =>
      cases r with
      | cons r1 r2 =>
        obtain ⟨as, q1, n1⟩ := Dx.reads I d _ _ a1 r1
        obtain ⟨bs, q2, n2⟩ := Dx.readsKeys I ds _ _ a2 r2
        refine ⟨_, ReadsAll.cons q1 q2, fun z => ?_⟩
        rcases List.mem_append.mp z with z | z
        · exact n1 z
        · exact n2 z
theorem Dx.readsVals (I : Inv X pins σ H s) : ∀ (ds : List (PyData × PyData)) (vs : List V) (us : List Value), DxAll X.K H vs (ds.map (·.2)) → Vals vs us → ∃ as, ReadsAll s.heap us (ds.map (·.2)) as ∧ sysModules ∉ as
  | [], _, _, h, r => by cases h; cases r; exact ⟨_, ReadsAll.nil, by simp⟩
  | (_, d) :: ds, _, _, h, r => by
    cases h with
    | cons a1 a2 =>
      cases r with
      | cons r1 r2 =>
        obtain ⟨as, q1, n1⟩ := Dx.reads I d _ _ a1 r1
        obtain ⟨bs, q2, n2⟩ := Dx.readsVals I ds _ _ a2 r2
        refine ⟨_, ReadsAll.cons q1 q2, fun z => ?_⟩
        rcases List.mem_append.mp z with z | z
        · exact n1 z
        · exact n2 z
end
end
/-- repr(x) -/
def rRepr (K : PySem.W.Frag) : List V → Hp → VK → Prop := fun xs H Q => ∃ x d, xs = [x] ∧ Dx K H x d ∧ d.showable = true ∧ d.shown.length ≤ sizeLine ∧ d.depth ≤ 50 ∧ Q (.str d.shown) H
theorem call_reprX {X : Cx} (hg : X.A.guards = some []) (hu : X.A.units + 64 < cLine) : CallR X (.builtin "repr") (rRepr X.K) := by
  intro pins s σ H xs us Q I r h
  obtain ⟨x, d, rfl, hd, hs, hz, hp, q⟩ := h
  obtain ⟨u, rfl, rx⟩ := vals1 r
  obtain ⟨as, hr, hn⟩ := Dx.reads I d x u hd rx
  cases hd with
  | non => cases rx; exact PySem.P.repr_of_none ⟨.str _, H, I.tok _, ⟨_, rfl⟩, by simpa only [PyData.shown] using q⟩
  | bl b => cases rx; exact PySem.P.repr_of_bool ⟨.str _, H, I.tok _, ⟨_, rfl⟩, by simpa only [PyData.shown] using q⟩
  | int i => obtain ⟨t, rfl⟩ := rx; exact PySem.P.repr_of_int (by simpa [PyData.showable] using hs) ⟨.str _, H, I.tok _, ⟨_, rfl⟩, by simpa only [PyData.shown] using q⟩
  | str y => obtain ⟨t, rfl⟩ := rx; exact PySem.P.repr_of_str ⟨.str _, H, I.tok _, ⟨_, rfl⟩, by simpa only [PyData.shown] using q⟩ (by simpa only [PyData.shown] using hz)
  | lst _ _ _ => cases rx; exact repr_of_reads' hr hs (fun _ => hn) hg (by omega) (fun _ _ e => e) (fun h' u tk hk => ⟨.str _, H, I.kept (t' := tk) hk, ⟨_, rfl⟩, q⟩) hz
  | tup _ _ => cases rx; exact repr_of_reads' hr hs (fun _ => hn) hg (by omega) (fun _ _ e => e) (fun h' u tk hk => ⟨.str _, H, I.kept (t' := tk) hk, ⟨_, rfl⟩, q⟩) hz
  | dic _ _ _ => cases rx; exact repr_of_reads' hr hs (fun _ => hn) hg (by omega) (fun _ _ e => e) (fun h' u tk hk => ⟨.str _, H, I.kept (t' := tk) hk, ⟨_, rfl⟩, q⟩) hz

section
variable {X : Cx} {es : List Expr} {pos : Pos} {t : TA}
theorem big_ne {pins : List (Addr × Obj)} {σ : L2.St} {H : Hp} {s : Shared} (I : Inv X pins σ H s) : s.heap.objs.size ≠ sysModules := Nat.ne_of_gt I.big
/-- a new list, its place told apart from the module table's -/
def tLst1 (t : TA) : TE := fun σ H Q => t σ H fun xs H1 => xs.length ≤ sizeLine ∧ ∀ p, H1 p = none → p ≠ sysModules → Q (.ref p) (upd H1 p (.lst xs))
theorem pe_lst1 (h : PA X es t) : PE X (.List es pos) (tLst1 t) := by
  constructor
  intro pins s σ H Q I hq
  apply wpAny_List_spliced
  refine thn (h.run pos pins s σ H _ I hq) ?_
  rintro us s1 ⟨xs, H1, I1, r, z, q⟩
  refine ⟨by rw [← r.length]; exact z, ?_⟩
  have fresh : H1 s1.heap.objs.size = none := I1.hok.fresh (Nat.le_refl _)
  exact ⟨.ref s1.heap.objs.size, upd H1 s1.heap.objs.size (.lst xs), I1.laid (t' := s1.toks) (fun b u e => Heap.get?_push_of_some _ e) (Nat.le_refl _) ⟨z, us, 0, r, Heap.get?_push_size _ rfl⟩, rfl, q _ fresh (big_ne I1)⟩
def rCat1 : R2 := fun x y H Q => ∃ l b xs zs, x = .ref l ∧ y = .ref b ∧ H l = some (.lst xs) ∧ H b = some (.lst zs) ∧ xs.length + zs.length ≤ sizeLine ∧ ∀ p, H p = none → p ≠ sysModules → Q (.ref p) (upd H p (.lst (xs ++ zs)))
theorem op_cat1 : OpR X (binaryOp .Add) rCat1 := by
  intro pins s σ H x y v u Q I rx ry h
  obtain ⟨l, b, xs, zs, rfl, rfl, h1, h2, hz, q⟩ := h
  cases rx
  cases ry
  obtain ⟨z1, its1, n1, r1, k1, e1⟩ := I.lstM h1
  obtain ⟨z2, its2, n2, r2, k2, e2⟩ := I.lstM h2
  refine PySem.P.add_list e1 e2 ?_ (by simp only [List.size_toArray]; omega)
  rw [show its1.toArray ++ its2.toArray = (its1 ++ its2).toArray by simp]
  exact ⟨.ref _, _, I.lnew (t' := s.toks) (r1.append r2) (by rw [List.length_append]; exact hz), rfl, q _ I.fresh (big_ne I)⟩
theorem call_list_tx1 (hc : X.calm = true) : CallR X (.type "list") (fun xs H Q => ∃ a : List Nat, xs = [.str (S a)] ∧ a.length ≤ 100000 ∧ ∀ l, H l = none → l ≠ sysModules → Q (.ref l) (upd H l (.lst (sg a)))) := by
  intro pins s σ H xs us Q I r h
  obtain ⟨a, rfl, hz, q⟩ := h
  obtain ⟨u, rfl, rx⟩ := vals1 r
  obtain ⟨t, rfl⟩ := rx
  have hs : (S a).cps.size = a.length := SX.S_len a
  refine PySem.call_list_str (I.ok.hd hc) (S a) t (fun h' tk acc c' kp e it => ?_) (by rw [hs]; unfold sizeLine; omega)
  refine ⟨.ref s.heap.objs.size, _, I.laid (t' := tk) kp (Nat.le_refl _) (show ObjOk X.prog X.w _ h' _ (.lst (sg a)) from ⟨by rw [sg_length]; unfold sizeLine; omega, acc.toList, c', vals_signs it, ?_⟩), rfl, q _ (I.hok.fresh (Nat.le_refl _)) (big_ne I)⟩
  rw [Array.toArray_toList]; exact e
end

/-! the law's call, the guards told -/
theorem lawG {P : Program} {w : World} {K : PySem.W.Frag} {mg mb : Str → Option Value} {CX : CXT} {k : Nat} {fa a : Addr} {fd : FuncData} {x : Str} {sp : Sp} {s₁ : Shared} {vs : List Value} {ns : List Int}
    (inK : K.In s₁.heap) (glob : s₁.heap.Ns mainGlobals mg) (blt : s₁.heap.Ns builtinsNs mb) (boot : ∀ x : Str, x ≠ "__name__" → mb x = bootBuiltins x) (unlim : s₁.heap.NoLimit) (nogen : s₁.gens = #[])
    (stands : s₁.heap.get? a = some { cls := .type "list", data := .seq vs.toArray }) (isInts : IntsAre vs ns) (short : ns.length ≤ sizeLine) (room : Room k callerA)
    (F : ∀ base : Heap, K.In base → base.Ns mainGlobals mg → FnG P w K mg base CX k fa fd [x] sp) (binds : ∀ (s : Shared) (u : Value), BindsTo s fd ⟨[u], []⟩ [(x, u)])
    (asked : ∀ H : Hp, SqL K H a (ns.map V.int) → sp [.ref a] H (fun v _ => v = .bl true) fun _ _ _ => False)
    (calm : ∀ H e s', CX [] H s₁ (fun _ _ _ => False) e s' → False) :
    codeAny (model P w) callerA (.call (.ref fa) ⟨[.ref a], []⟩) (fun r s' => r = .ok (.ret (.bool true)) ∧ OldK s₁.heap s'.heap ∧ s'.os = s₁.os ∧ AllBare s'.gens) s₁ := by
  have rel := vals_ints isInts
  have many := isInts.length
  have main : ∀ H : Hp, (∀ b, H b = none ∨ ∃ o xs, H b = some (.frz o (.lst xs))) → SqL K H a (ns.map V.int) → HOk P w H s₁.heap → (∀ b, H b ≠ none → b = a) → (H a ≠ none → K.lookup a = none) →
      codeAny (model P w) callerA (.call (.ref fa) ⟨[.ref a], []⟩) (fun r s' => r = .ok (.ret (.bool true)) ∧ OldK s₁.heap s'.heap ∧ s'.os = s₁.os ∧ AllBare s'.gens) s₁ := by
    intro H locked seq ok onlyA notK
    have keepD : ∀ {b : Addr} {o : Obj} {es : Array DictEntry} {ep : Nat}, s₁.heap.get? b = some o → o.data = .dict es ep → H b = none := by
      intro b o es ep e d
      by_cases q : H b = none
      · exact q
      · have e' := onlyA b q
        subst e'
        rw [stands] at e
        cases e
        exact nomatch (show Data.seq vs.toArray _ = Data.dict es ep from d)
    have keepN : ∀ {b : Addr} {m : Str → Option Value}, s₁.heap.Ns b m → (hidT s₁.heap H).Ns b m := by
      rintro b m ⟨o, es, ep, e, d, rest⟩
      exact ⟨o, es, ep, hidT_get e (keepD e d), d, rest⟩
    have keepK : K.In (hidT s₁.heap H) := by
      intro b o e
      refine hidT_get (inK b o e) ?_
      by_cases q : H b = none
      · exact q
      · have e' := onlyA b q
        subst e'
        rw [notK q] at e
        cases e
    have modul : Mod K mg (hidT s₁.heap H) := by
      refine ⟨keepK, keepN glob, ⟨mb, keepN blt, boot⟩, ?_⟩
      obtain ⟨mc, h1, h2⟩ := unlim
      exact ⟨mc, keepN h1, h2⟩
    have e0 : Env0 P w K mg (hidT s₁.heap H) callerA [] s₁ H :=
      ⟨rfl, modul, fun b o e => of_hidT e, Nat.le_of_eq (hidT_size _ _), trivial, fun b hb => (nomatch (show b ∈ ([] : List Addr) from hb)), ok, .of_eq nogen⟩
    refine codeAny_mono ((F _ keepK (keepN glob)).run callerA [] s₁ H ⟨[.ref a], []⟩ [.ref a] [.ref a] _ _ rfl room e0 (binds s₁ (.ref a)) (.cons rfl .nil) (asked H seq)) ?_
    intro r s' ended
    rcases r with er | fl
    · exact (calm H er s' ended).elim
    · cases fl with
      | next => exact (show False from ended).elim
      | brk => exact (show False from ended).elim
      | cont => exact (show False from ended).elim
      | ret u =>
        obtain ⟨v, H', os, bare, un, ok', r', q⟩ := ended
        obtain rfl : v = .bl true := q
        obtain rfl : u = Value.bool true := r'
        refine ⟨rfl, OldK.of_keep ?_, os, bare⟩
        intro b o e
        rcases locked b with z | ⟨ob, xs, z⟩
        · exact un.keep b o e z (fun y => nomatch (show b ∈ ([] : List Addr) from y)) (fun y => nomatch y)
        · obtain ⟨e1, _⟩ := ok b _ z
          obtain ⟨e2, _⟩ := ok' b _ (un.frzs b ob _ z)
          rw [e] at e1
          cases e1
          exact e2
  by_cases hk : ∃ o, K.lookup a = some o
  · obtain ⟨o, hk⟩ := hk
    have e := inK a o hk
    rw [stands] at e
    cases e
    exact main (fun _ => none) (fun _ => Or.inl rfl) (Or.inr ⟨_, vs.toArray, _, hk, rfl, rfl, rfl, by rw [List.size_toArray, many]; exact short, by simpa using rel⟩) (fun b u z => nomatch (show (none : Option HO) = some u from z)) (fun b z => absurd rfl z) (fun z => absurd rfl z)
  · have hn : K.lookup a = none := by
      cases q : K.lookup a with
      | none => rfl
      | some o => exact absurd ⟨o, q⟩ hk
    refine main (fun b => if b = a then some (.frz { cls := .type "list", data := .seq vs.toArray } (.lst (ns.map V.int))) else none) (fun b => ?_) (Or.inl (Or.inr ⟨_, if_pos rfl⟩)) (fun b u z => ?_) (fun b z => ?_) (fun _ => hn)
    · by_cases e : b = a
      · exact Or.inr ⟨_, _, if_pos e⟩
      · exact Or.inl (if_neg e)
    · by_cases e : b = a
      · have z' : some _ = some u := (if_pos e).symm.trans z
        cases z'
        subst e
        exact ⟨stands, by rw [List.length_map]; exact short, vs, _, rel, stands⟩
      · exact nomatch (if_neg e).symm.trans z
    · by_cases e : b = a
      · exact e
      · exact absurd (if_neg e) z
theorem walkG {l : PySem.W.OpenLaw} {n k : Nat} {q : Program} {loose : List Str} {XP : (Str → Option Value) → Heap → Prop} {YP : World → Heap → Prop} {d : DefRec} {K : Params → PySem.W.Frag} {CX : World → CXT} {sp : World → Sp} {x : Str}
    (most : l.most = some n) (n2 : n ≤ sizeLine) (plain : d.params.defaults = []) (room : Room k callerA) (hY : ∀ (w : World) (h : Heap), YP w h → (K w.params).In h)
    (F : ∀ (w : World) (mg : Str → Option Value) (fa : Addr) (h : Heap), (K w.params).In h → h.Ns mainGlobals mg → mg d.name = some (.ref fa) →
      ∃ fd : FuncData, (∀ (s : Shared) (u : Value), BindsTo s fd ⟨[u], []⟩ [(x, u)]) ∧ ∀ base : Heap, (K w.params).In base → base.Ns mainGlobals mg → FnG l.prog w (K w.params) mg base (CX w) k fa fd [x] (sp w))
    (asked : ∀ (w : World) (H : Hp) (a : Addr) (ns : List Int), ns.length ≤ n → SqL (K w.params) H a (ns.map V.int) → sp w [.ref a] H (fun v _ => v = .bl true) fun _ _ _ => False)
    (calm : ∀ (w : World) (H : Hp) (s : Shared) (e : Value) (s' : Shared), CX w [] H s (fun _ _ _ => False) e s' → False) :
    PySem.W.WalkO q loose XP YP l.row.toRowW d [] (fun f vs => PySem.call f vs) := by
  apply Att.attach_call most plain
  intro w s₀ s₁ mg mb fa o pm cd doc a vs ns G Y ho hd hcd hmg hobj hints hlen hg
  have inK := hY w _ Y
  obtain ⟨fd, hb, hF⟩ := F w mg fa _ inK G.T.g hmg
  exact lawG inK G.T.g G.T.b G.T.builtins G.T.nolimit hg hobj hints (Nat.le_trans hlen n2) room hF hb (fun H hS => asked w H a ns hlen hS) fun H e s' => calm w H s₁ e s'
end Vx
namespace Vx
open PySem PySem.Spec PyProof.Rows L2
/-! how often a sign stands in a text -/
theorem at_one {a : List Nat} {c i : Nat} : StrLaws.At (S a) (S [c]) (S a).length i ↔ a[i]? = some c := StrLaws.subAt_one (S a) c i
theorem count_gap {a : List Nat} {c : Nat} : ∀ (n i : Nat), (∀ k, i ≤ k → k < i + n → a[k]? ≠ some c) → (a.drop i).count c = (a.drop (i + n)).count c
  | 0, _, _ => rfl
  | n + 1, i, h => by
    have h1 := count_gap n (i + 1) fun k h1 h2 => h k (by omega) (by omega)
    rw [show i + (n + 1) = i + 1 + n by omega, ← h1]
    by_cases hi : i < a.length
    · rw [List.drop_eq_getElem_cons hi, List.count_cons]
      have e := h i (Nat.le_refl _) (by omega)
      rw [List.getElem?_eq_getElem hi] at e
      have : (a[i] == c) = false := by simpa using fun z => e (by rw [z])
      rw [this]; simp
    · rw [List.drop_eq_nil_of_le (by omega), List.drop_eq_nil_of_le (by omega)]
theorem count_hit {a : List Nat} {c i : Nat} (h : a[i]? = some c) : (a.drop i).count c = (a.drop (i + 1)).count c + 1 := by
  obtain ⟨hi, e⟩ := List.getElem?_eq_some_iff.mp h
  rw [List.drop_eq_getElem_cons hi, e, List.count_cons_self]
theorem chain_count {a : List Nat} {c : Nat} : ∀ (cuts : List Nat) (i f : Nat), StrLaws.ChainG (S a) (S [c]) (S a).length i cuts f → (∀ k, f ≤ k → ¬ StrLaws.At (S a) (S [c]) (S a).length k) → cuts.length = (a.drop i).count c
  | [], i, f, h, hn => by
    have e : f = i := h
    subst e
    have h1 := count_gap (a := a) (c := c) a.length f fun k h1 _ z => hn k h1 (at_one.mpr z)
    rw [h1, List.drop_eq_nil_of_le (by omega)]; rfl
  | x :: r, i, f, h, hn => by
    have h1 : i ≤ x := h.1
    have ih := chain_count r (x + 1) f h.2.2.2 hn
    have g := count_gap (a := a) (c := c) (x - i) i fun k a1 a2 z => h.2.2.1 k a1 (by omega) (at_one.mpr z)
    rw [show i + (x - i) = x by omega] at g
    rw [g, count_hit (at_one.mp h.2.1), ← ih]; rfl
theorem count_S (a : List Nat) (c : Nat) : Txt.count (S a) (S [c]) = (a.count c : Int) := by
  obtain ⟨f, h, hn⟩ := StrLaws.occ_tight (S a) (S [c]) (Nat.le_refl 1)
  have e := chain_count _ 0 f h hn
  unfold Txt.count
  rw [e]; rfl
/-- a row of at most 200 letters -/
def abs (a : List Nat) : Bool := a.all fun c => c == 97 || c == 98
def rowB (a : List Nat) : Bool := decide (a.length ≤ 200) && abs a
theorem count_ab (a : List Nat) : a.count 97 + a.count 98 ≤ a.length ∧ (a.count 97 + a.count 98 = a.length ↔ abs a = true) := by
  induction a with
  | nil => exact ⟨Nat.le_refl _, by simp [abs]⟩
  | cons x r ih =>
    unfold abs at ih ⊢
    rw [List.all_cons, List.count_cons, List.count_cons, List.length_cons]
    obtain ⟨h1, h2⟩ := ih
    by_cases hx : x = 97
    · subst hx; simp only [beq_self_eq_true, if_true, Bool.true_or, Bool.true_and, show ((97 : Nat) == 98) = false from rfl]
      constructor
      · simp; omega
      · rw [← h2]; simp; omega
    · by_cases hy : x = 98
      · subst hy; simp only [beq_self_eq_true, if_true, Bool.or_true, Bool.true_and, show ((98 : Nat) == 97) = false from rfl]
        constructor
        · simp; omega
        · rw [← h2]; simp; omega
      · have e1 : (x == 97) = false := by simpa using hx
        have e2 : (x == 98) = false := by simpa using hy
        rw [e1, e2]
        constructor
        · simp; omega
        · simp; omega
theorem ab_sum (a : List Nat) : decide ((a.count 97 : Int) + (a.count 98 : Int) = (a.length : Int)) = abs a := by
  have h := (count_ab a).2
  cases e : abs a
  · refine decide_eq_false fun z => ?_
    have : a.count 97 + a.count 98 = a.length := by omega
    rw [h.mp this] at e; cases e
  · exact decide_eq_true (by have := h.mpr e; omega)
theorem cutS_to (a : List Nat) (n : Nat) : cutS (S a) none (some (n : Int)) = S (a.take n) := by
  unfold cutS
  rw [show HT.sIx (S a).length 0 none = 0 from HT.sIx_none .., show HT.sIx (S a).length (S a).length (some (n : Int)) = min n (S a).length from HT.sIx_nat .., SX.S_len]
  show S ((a.drop 0).take (min n a.length - 0)) = _
  rw [List.drop_zero, Nat.sub_zero]
  congr 1
  by_cases h : n ≤ a.length
  · rw [Nat.min_eq_left h]
  · rw [Nat.min_eq_right (by omega), List.take_of_length_le (Nat.le_refl _), List.take_of_length_le (by omega)]
theorem cutS_from (a : List Nat) (n : Nat) : cutS (S a) (some (n : Int)) none = S (a.drop n) := by
  unfold cutS
  rw [show HT.sIx (S a).length (S a).length none = (S a).length from HT.sIx_none .., show HT.sIx (S a).length 0 (some (n : Int)) = min n (S a).length from HT.sIx_nat .., SX.S_len]
  show S ((a.drop (min n a.length)).take (a.length - min n a.length)) = _
  congr 1
  by_cases h : n ≤ a.length
  · rw [Nat.min_eq_left h, List.take_of_length_le (by rw [List.length_drop]; exact Nat.le_refl _)]
  · rw [Nat.min_eq_right (by omega), Nat.sub_self, List.take_zero, List.drop_eq_nil_of_le (by omega)]
end Vx
namespace Vx
open PySem PySem.Spec PyProof.Rows L2
/-! what stays but one object -/
def Keep (r : Addr) (H H' : Hp) : Prop := ∀ b o, b ≠ r → H b = some o → H' b = some o
theorem Keep.refl {r : Addr} (H : Hp) : Keep r H H := fun _ _ _ h => h
theorem Keep.trans {r : Addr} {H H1 H2 : Hp} (a : Keep r H H1) (b : Keep r H1 H2) : Keep r H H2 := fun c o n h => b c o n (a c o n h)
theorem Keep.of {r : Addr} {H H' : Hp} (a : Same H H') : Keep r H H' := fun c o _ h => a c o h
theorem Keep.new {r p : Addr} {H H1 : Hp} {o : HO} (k : Keep r H H1) (h : H1 p = none) : Keep r H (upd H1 p o) := fun c u n e => by
  have e1 := k c u n e
  rw [upd_ne (ne_of_none e1 h)]; exact e1
theorem Keep.put {r : Addr} {H H1 : Hp} {o : HO} (k : Keep r H H1) : Keep r H (upd H1 r o) := fun c u n e => by
  rw [upd_ne n]; exact k c u n e
theorem same_new {H : Hp} {p : Addr} {o : HO} (h : H p = none) : Same H (upd H p o) := fun b x e => by
  rw [upd_ne (ne_of_none e h)]; exact e
theorem Same.new {H H1 : Hp} {p : Addr} {o : HO} (k : Same H H1) (h : H1 p = none) : Same H (upd H1 p o) := k.trans (same_new h)
/-- an object that H does not know may change -/
theorem Same.mut {H H1 : Hp} {p : Addr} {o : HO} (k : Same H H1) (h : H p = none) : Same H (upd H1 p o) := fun b x e => by
  rw [upd_ne (ne_of_none e h)]; exact k b x e
theorem Keep.seq {K : PySem.W.Frag} {r a : Addr} {H H' : Hp} {xs : List V} (k : Keep r H H') (hr : ∃ ys, H r = some (.lst ys)) (hs : SqL K H a xs) (hf : a ≠ r) : SqL K H' a xs := by
  rcases hs with (h | ⟨o, h⟩) | h
  · exact .inl (.inl (k _ _ hf h))
  · exact .inl (.inr ⟨o, k _ _ hf h⟩)
  · exact .inr h
theorem Keep.none {r p : Addr} {H H' : Hp} (k : Keep r H H') (hn : p ≠ r) (h : H' p = Option.none) : H p = Option.none := by
  cases q : H p with
  | none => rfl
  | some o => rw [k p o hn q] at h; cases h
/-! data of ints and texts -/
theorem dp_ints {K : PySem.W.Frag} {H : Hp} : ∀ ns : List Int, DpAll K H (ns.map V.int) (ns.map PyData.int)
  | [] => .nil
  | n :: r => .cons (.int n) (dp_ints r)
theorem can_ints : ∀ ns : List Int, PyData.canLayAll0 (ns.map PyData.int) = true
  | [] => by simp [PyData.canLayAll0]
  | n :: r => by simp [PyData.canLayAll0, PyData.canLay0, can_ints r]
theorem depth_ints : ∀ ns : List Int, PyData.depthAll (ns.map PyData.int) = 0
  | [] => by simp [PyData.depthAll]
  | n :: r => by simp [PyData.depthAll, PyData.depth, depth_ints r]
theorem shaped_ints (ns : List Int) : SeqAt.shaped (.list (ns.map PyData.int)) = true := by
  simp [SeqAt.shaped, PyData.canLay0, PyData.depth, can_ints, depth_ints]
theorem shaped_nil : SeqAt.shaped (.list []) = true := shaped_ints []
theorem eqv_nil : ∀ ds : List PyData, PyData.eqv (.list ds) (.list []) = ds.isEmpty
  | [] => by simp [PyData.eqv, PyData.eqvAll]
  | d :: r => by simp [PyData.eqv, PyData.eqvAll]
/-! the drawing reel of the laws -/
structure ReelAt (H : Hp) (r g c : Addr) (gs cs : List Int) (n st : Int) : Prop where
  at_r : H r = some (.lst [.ref g, .ref c, .int n, .int st])
  ne_g : g ≠ r
  ne_c : c ≠ r
  at_g : H g = some (.lst (gs.map V.int))
  at_c : H c = some (.lst (cs.map V.int))
  len_g : gs.length ≤ 60
  pos_g : ∀ x ∈ gs, 0 ≤ x
  len_c : 1 ≤ cs.length ∧ cs.length ≤ 60
  lo : 0 ≤ st
  hi : st < 2 ^ 127
def Reel (H : Hp) (r : Addr) : Prop := ∃ g c gs cs n st, ReelAt H r g c gs cs n st
theorem Reel.mono {H H' : Hp} {r : Addr} (R : Reel H r) (s : Same H H') : Reel H' r := by
  obtain ⟨g, c, gs, cs, n, st, R⟩ := R
  exact ⟨g, c, gs, cs, n, st, { R with at_r := s _ _ R.at_r, at_g := s _ _ R.at_g, at_c := s _ _ R.at_c }⟩
theorem Reel.is {H : Hp} {r : Addr} (R : Reel H r) : ∃ xs, H r = some (.lst xs) := by
  obtain ⟨g, c, gs, cs, n, st, R⟩ := R
  exact ⟨_, R.at_r⟩
/-- an object that is none of the reel's -/
def Off (H : Hp) (r D : Addr) : Prop := ∀ g c x y, H r = some (.lst [.ref g, .ref c, x, y]) → D ≠ g ∧ D ≠ c
/-- all that is none of the reel's stays, and stays apart from it -/
structure Step (r : Addr) (H H' : Hp) : Prop where
  keep : Keep r H H'
  sep : ∀ D, (∃ o, H D = some o) → D ≠ r → Off H r D → Off H' r D
theorem Step.refl {r : Addr} (H : Hp) : Step r H H := ⟨.refl H, fun _ _ _ h => h⟩
theorem Step.trans {r : Addr} {H H1 H2 : Hp} (a : Step r H H1) (b : Step r H1 H2) : Step r H H2 :=
  ⟨a.keep.trans b.keep, fun D ⟨o, e⟩ n h => b.sep D ⟨o, a.keep D o n e⟩ n (a.sep D ⟨o, e⟩ n h)⟩
theorem Step.same {r : Addr} {H H' : Hp} (R : Reel H r) (s : Same H H') : Step r H H' := by
  obtain ⟨xs, e⟩ := R.is
  exact ⟨.of s, fun D _ _ h g c x y e2 => h g c x y (by rw [s _ _ e] at e2; rw [e]; exact e2)⟩
/-- an object that was made since may change -/
theorem Step.mut {r p : Addr} {H H1 : Hp} {o : HO} (a : Step r H H1) (h : H p = none) (n : p ≠ r) : Step r H (upd H1 p o) :=
  ⟨fun c u nc e => by rw [upd_ne (ne_of_none e h)]; exact a.keep c u nc e, fun D hD nD hO g c x y e => a.sep D hD nD hO g c x y (by rw [upd_ne n.symm] at e; exact e)⟩
theorem Off.new {H : Hp} {r D : Addr} (R : Reel H r) (n : H D = none) : Off H r D := by
  obtain ⟨g, c, gs, cs, n', st, R⟩ := R
  intro g2 c2 x y e
  rw [R.at_r] at e
  cases e
  exact ⟨(fun z => by rw [z, R.at_g] at n; cases n), (fun z => by rw [z, R.at_c] at n; cases n)⟩
theorem Off.upd {H : Hp} {r D p : Addr} {o : HO} (h : Off H r D) (n : p ≠ r) : Off (L2.upd H p o) r D := fun g c x y e => h g c x y (by rw [upd_ne n.symm] at e; exact e)
theorem Reel.upd {H : Hp} {r D : Addr} {o : HO} (R : Reel H r) (n : D ≠ r) (h : Off H r D) : Reel (L2.upd H D o) r := by
  obtain ⟨g, c, gs, cs, n', st, R⟩ := R
  obtain ⟨h1, h2⟩ := h g c _ _ R.at_r
  exact ⟨g, c, gs, cs, n', st, { R with at_r := by rw [upd_ne n.symm]; exact R.at_r, at_g := by rw [upd_ne h1.symm]; exact R.at_g, at_c := by rw [upd_ne h2.symm]; exact R.at_c }⟩
theorem Reel.ne {H : Hp} {r D : Addr} (R : Reel H r) (n : H D = none) : D ≠ r := by
  obtain ⟨xs, hx⟩ := R.is
  exact (ne_of_none hx n).symm
/-- a draw: an int below the bound; all else stays -/
def spDraw : Sp := fun vs H Q _ => ∃ (r : Addr) (m : Int), vs = [.ref r, .int m] ∧ Reel H r ∧ 1 ≤ m ∧ m.natAbs < 2 ^ 8000 ∧ ∀ (d : Int) (H' : Hp), 0 ≤ d → d < m → Step r H H' → Reel H' r → Q (.int d) H'
/-- a new reel from the script -/
def spReel (K : PySem.W.Frag) : Sp := fun vs H Q _ => ∃ (a : Addr) (ns : List Int), vs = [.ref a] ∧ SqL K H a (ns.map V.int) ∧ ns.length ≤ 63 ∧ ∀ (r : Addr) (H' : Hp), Same H H' → H r = none → Reel H' r → Q (.ref r) H'
/-- a text of a and b with low to high letters -/
def spWord : Sp := fun vs H Q _ => ∃ (r : Addr) (lo hi : Int), vs = [.ref r, .int lo, .int hi] ∧ Reel H r ∧ 0 ≤ lo ∧ lo ≤ hi ∧ hi ≤ 300 ∧
  ∀ (a : List Nat) (H' : Hp), lo ≤ (a.length : Int) → (a.length : Int) ≤ hi → abs a = true → Step r H H' → Reel H' r → Q (.str (S a)) H'
theorem bits127 {x : Int} (h0 : 0 ≤ x) (h : x < 2 ^ 127) : x.natAbs < 2 ^ 127 := by omega

theorem cut_to (xs : List V) (n : Nat) : cutV xs none (some (n : Int)) = xs.take n := by
  unfold cutV
  rw [HT.sIx_none, show HT.sIx xs.length xs.length (some (n : Int)) = min n xs.length from HT.sIx_nat ..]
  show (xs.drop 0).take (min n xs.length - 0) = _
  rw [List.drop_zero, Nat.sub_zero]
  by_cases h : n ≤ xs.length
  · rw [Nat.min_eq_left h]
  · rw [Nat.min_eq_right (by omega), List.take_of_length_le (Nat.le_refl _), List.take_of_length_le (by omega)]
theorem cut_from (xs : List V) (n : Nat) : cutV xs (some (n : Int)) none = xs.drop n := by
  unfold cutV
  rw [HT.sIx_none, show HT.sIx xs.length 0 (some (n : Int)) = min n xs.length from HT.sIx_nat ..]
  by_cases h : n ≤ xs.length
  · rw [Nat.min_eq_left h, List.take_of_length_le (by rw [List.length_drop]; exact Nat.le_refl _)]
  · rw [Nat.min_eq_right (by omega), Nat.sub_self, List.take_zero, List.drop_eq_nil_of_le (by omega)]

theorem bigM_pos : (0 : Int) < 2 ^ (64 : Int).toNat * 2 ^ (63 : Int).toNat - 1 := by decide
theorem bigM_le : (2 ^ (64 : Int).toNat * 2 ^ (63 : Int).toNat - 1 : Int) ≤ 2 ^ 127 := by decide

/-! texts by their codes -/
def cutL (a : List Nat) (lo hi : Option Int) : List Nat := (cutS (S a) lo hi).cps.toList
theorem cutL_to (a : List Nat) (n : Nat) : cutL a none (some (n : Int)) = a.take n := by unfold cutL; rw [cutS_to]
theorem cutL_from (a : List Nat) (n : Nat) : cutL a (some (n : Int)) none = a.drop n := by unfold cutL; rw [cutS_from]
theorem cutL_length (a : List Nat) (lo hi : Option Int) : (cutL a lo hi).length ≤ a.length := by
  have h := cutS_length (S a) lo hi
  rw [SX.S_len] at h
  exact h
section
variable {X : Cx}
def rAddT : R2 := fun x y H Q => ∃ a b : List Nat, x = .str (S a) ∧ y = .str (S b) ∧ a.length + b.length ≤ 1000000 ∧ Q (.str (S (a ++ b))) H
theorem op_add_tx : OpR X (binaryOp .Add) rAddT := by
  intro pins s σ H x y v u Q I rx ry h
  obtain ⟨a, b, rfl, rfl, hz, q⟩ := h
  refine op_add_str pins s σ H _ _ v u Q I rx ry ⟨S a, S b, rfl, rfl, ?_, ?_⟩
  · rw [SX.S_len, SX.S_len]; unfold sizeLine; omega
  · rw [SX.S_cat]; exact q
def rSlT2 : V → Option Int → Option Int → Hp → VK → Prop := fun x lo hi H Q => ∃ a : List Nat, x = .str (S a) ∧ a.length ≤ 1000000 ∧ Q (.str (S (cutL a lo hi))) H
theorem sl_tx : SlR X rSlT2 := by
  intro pins s σ H x v vl vu lo hi sl Q I rx hs pl pu h
  obtain ⟨a, rfl, hz, q⟩ := h
  refine sl_str pins s σ H _ v vl vu lo hi sl Q I rx hs pl pu ⟨S a, rfl, ?_, ?_⟩
  · rw [SX.S_len]; unfold sizeLine; omega
  · have e : S (cutL a lo hi) = cutS (S a) lo hi := SX.S_tl _
    rw [← e]; exact q
theorem call_len_tx : CallR X (.builtin "len") (fun xs H Q => ∃ a : List Nat, xs = [.str (S a)] ∧ a.length ≤ 1000000 ∧ Q (.int a.length) H) := by
  intro pins s σ H xs us Q I r h
  obtain ⟨a, rfl, hz, q⟩ := h
  refine call_len_str pins s σ H _ us Q I r ⟨S a, rfl, ?_, ?_⟩
  · rw [SX.S_len]; unfold sizeLine; omega
  · rw [SX.S_len]; exact q
theorem mt_count_tx : MtR X "str.count" (fun x xs H Q => ∃ (a : List Nat) (c : Nat), x = .str (S a) ∧ xs = [.str (S [c])] ∧ Q (.int (a.count c)) H) := by
  intro pins s σ H x xs v us Q I rx rs h
  obtain ⟨a, c, rfl, rfl, q⟩ := h
  refine mt_count pins s σ H _ _ v us Q I rx rs ⟨S a, S [c], rfl, rfl, ?_⟩
  rw [count_S]; exact q
def rIxT2 : R2 := fun x y H Q => ∃ (a : List Nat) (i : Nat) (c : Nat), x = .str (S a) ∧ y = .int (i : Int) ∧ a.length ≤ 1000000 ∧ a[i]? = some c ∧ Q (.str (S [c])) H
theorem ix_tx : IxR X rIxT2 := by
  intro value slice pins s σ H x y v u Q I rx ry h hs
  obtain ⟨a, i, c, rfl, rfl, hz, hc, q⟩ := h
  exact ix_str value slice pins s σ H _ _ v u Q I rx ry ⟨S a, i, c, rfl, rfl, by rw [SX.S_len]; unfold sizeLine; omega, atI_nat hc, q⟩ hs
end
theorem b8000 {m : Int} (h : m.natAbs < 2 ^ 300) : m.natAbs < 2 ^ 8000 := Nat.lt_of_lt_of_le h (Nat.pow_le_pow_right (by decide) (by decide))
theorem b8k {m : Int} (h0 : 0 ≤ m) (h : m < 2 ^ 250) : m.natAbs < 2 ^ 8000 := Nat.lt_of_lt_of_le (show m.natAbs < 2 ^ 250 by omega) (Nat.pow_le_pow_right (by decide) (by decide))
theorem joinL_nil : ∀ ps : List (List Nat), TL.joinL [] ps = ps.flatten
  | [] => rfl
  | [p] => by simp [TL.joinL]
  | p :: q :: r => by
    have ih := joinL_nil (q :: r)
    rw [TL.joinL, ih]; simp
theorem abs_append (a b : List Nat) : abs (a ++ b) = (abs a && abs b) := by unfold abs; rw [List.all_append]
theorem abs_take {a : List Nat} (h : abs a = true) (n : Nat) : abs (a.take n) = true := by
  unfold abs at *
  exact List.all_eq_true.mpr fun x hx => List.all_eq_true.mp h x (List.mem_of_mem_take hx)
theorem abs_drop {a : List Nat} (h : abs a = true) (n : Nat) : abs (a.drop n) = true := by
  unfold abs at *
  exact List.all_eq_true.mpr fun x hx => List.all_eq_true.mp h x (List.mem_of_mem_drop hx)
theorem abs_rep {a : List Nat} (h : abs a = true) (n : Nat) : abs (repN n a) = true := by
  unfold abs at *
  exact List.all_eq_true.mpr fun x hx => List.all_eq_true.mp h x (mem_repN hx)
theorem abs_reverse (a : List Nat) : abs a.reverse = abs a := by unfold abs; rw [List.all_reverse]
theorem abs_flatten {ps : List (List Nat)} (h : ∀ p ∈ ps, abs p = true) : abs ps.flatten = true := by
  unfold abs at *
  refine List.all_eq_true.mpr fun x hx => ?_
  obtain ⟨p, hp, hx⟩ := List.mem_flatten.mp hx
  exact List.all_eq_true.mp (h p hp) x hx
theorem abs_get {a : List Nat} (h : abs a = true) {i c : Nat} (e : a[i]? = some c) : abs [c] = true := by
  unfold abs at *
  have := List.all_eq_true.mp h c (List.mem_of_getElem? e)
  simp only [List.all_cons, List.all_nil, Bool.and_true]; exact this
theorem len_flatten1 {ps : List (List Nat)} (h : ∀ p ∈ ps, p.length = 1) : ps.flatten.length = ps.length := by
  induction ps with
  | nil => rfl
  | cons p r ih =>
    rw [List.flatten_cons, List.length_append, ih fun q hq => h q (List.mem_cons_of_mem _ hq), h p List.mem_cons_self, List.length_cons]; omega

/-! data that can be shown -/
structure Fine (K : PySem.W.Frag) (H : Hp) (x : V) (d : PyData) : Prop where
  dx : Dx K H x d
  sh : d.showable = true
  lv : d.leavesShort 100 = true
  dp : d.depth ≤ 10
  wt : d.weight ≤ 4100
/-- no text -/
def NoStr (K : PySem.W.Frag) (H : Hp) (x : V) : Prop := ∃ t, TyX K H x t ∧ PySem.W.kitOne K t (.type "str") = some false
theorem noStr_ty {K : PySem.W.Frag} {H : Hp} {x : V} {T : String} (h : TyOf K H x (.type T)) (e : kitB T "str" = some false) : NoStr K H x := ⟨_, .base h, kit_ty e⟩
inductive Fines (K : PySem.W.Frag) (H : Hp) : List V → List PyData → Prop
  | nil : Fines K H [] []
  | cons {x : V} {d : PyData} {xs : List V} {ds : List PyData} : Fine K H x d → Fines K H xs ds → Fines K H (x :: xs) (d :: ds)
theorem Fines.append {K : PySem.W.Frag} {H : Hp} : ∀ {xs ys : List V} {ds es : List PyData}, Fines K H xs ds → Fines K H ys es → Fines K H (xs ++ ys) (ds ++ es)
  | _, _, _, _, .nil, b => b
  | _, _, _, _, .cons x a, b => .cons x (Fines.append a b)
theorem Fines.all {K : PySem.W.Frag} {H : Hp} : ∀ {xs : List V} {ds : List PyData}, Fines K H xs ds →
    DxAll K H xs ds ∧ PyData.showableAll ds = true ∧ PyData.leavesShortAll 100 ds = true ∧ PyData.depthAll ds ≤ 10 ∧ PyData.weightAll ds ≤ 4101 * xs.length
  | _, _, .nil => ⟨.nil, by simp [PyData.showableAll], by simp [PyData.leavesShortAll], by simp [PyData.depthAll], by simp [PyData.weightAll]⟩
  | _, _, .cons (x := x) (d := d) (xs := xs) (ds := ds) f r => by
    obtain ⟨h1, h2, h3, h4, h5⟩ := Fines.all r
    refine ⟨.cons f.dx h1, by simp [PyData.showableAll, f.sh, h2], by simp [PyData.leavesShortAll, f.lv, h3], ?_, ?_⟩
    · have := f.dp; simp only [PyData.depthAll]; omega
    · have := f.wt; simp only [PyData.weightAll, List.length_cons]; omega
mutual
theorem Dx.same {K : PySem.W.Frag} {H H' : Hp} (s : Same H H') : ∀ {d : PyData} {v : V}, Dx K H v d → Dx K H' v d
  | .none, _, h => by cases h; exact .non
  | .bool _, _, h => by cases h; exact .bl _
  | .int _, _, h => by cases h; exact .int _
  | .str _, _, h => by cases h; exact .str _
  | .list ds, _, h => by
    cases h with
    | lst a n r => exact .lst (s _ _ a) n (DxAll.same s r)
  | .tuple ds, _, h => by
    cases h with
    | tup a r => exact .tup (by
        rcases a with (a | ⟨o, a⟩) | a
        · exact .inl (.inl (s _ _ a))
        · exact .inl (.inr ⟨o, s _ _ a⟩)
        · exact .inr a) (DxAll.same s r)
  | .dict ds, _, h => by
    cases h with
    | dic a k v => exact .dic (s _ _ a) (DxKeys.same s k) (DxVals.same s v)
theorem DxAll.same {K : PySem.W.Frag} {H H' : Hp} (s : Same H H') : ∀ {ds : List PyData} {vs : List V}, DxAll K H vs ds → DxAll K H' vs ds
  | [], _, h => by cases h; exact .nil
  | d :: ds, _, h => by
    cases h with
    | cons a r => exact .cons (Dx.same s a) (DxAll.same s r)
theorem DxKeys.same {K : PySem.W.Frag} {H H' : Hp} (s : Same H H') : ∀ {ds : List (PyData × PyData)} {vs : List V}, DxAll K H vs (ds.map (·.1)) → DxAll K H' vs (ds.map (·.1))
  | [], _, h => by cases h; exact .nil
  | (d, _) :: ds, _, h => by
    cases h with
    | cons a r => exact .cons (Dx.same s a) (DxKeys.same s r)
theorem DxVals.same {K : PySem.W.Frag} {H H' : Hp} (s : Same H H') : ∀ {ds : List (PyData × PyData)} {vs : List V}, DxAll K H vs (ds.map (·.2)) → DxAll K H' vs (ds.map (·.2))
  | [], _, h => by cases h; exact .nil
  | (_, d) :: ds, _, h => by
    cases h with
    | cons a r => exact .cons (Dx.same s a) (DxVals.same s r)
end
theorem Fine.same {K : PySem.W.Frag} {H H' : Hp} {x : V} {d : PyData} (s : Same H H') (f : Fine K H x d) : Fine K H' x d := { f with dx := f.dx.same s }
theorem Fines.same {K : PySem.W.Frag} {H H' : Hp} (s : Same H H') : ∀ {xs : List V} {ds : List PyData}, Fines K H xs ds → Fines K H' xs ds
  | _, _, .nil => .nil
  | _, _, .cons f r => .cons (f.same s) (r.same s)
theorem fine_txt {K : PySem.W.Frag} {H : Hp} {a : List Nat} (h : ∀ c ∈ a, c < 1000) (hl : a.length ≤ 4100) : Fine K H (.str (S a)) (.str (S a)) := by
  refine ⟨.str _, by simp [PyData.showable], ?_, by simp [PyData.depth], ?_⟩
  · simp only [PyData.leavesShort, List.all_eq_true, decide_eq_true_eq]
    intro c hc
    have := h c hc
    have e : (16 : Nat) ^ 8 = 4294967296 := by decide
    omega
  · show (S a).cps.size ≤ 4100
    rw [show (S a).cps.size = a.length from SX.S_len a]; exact hl
theorem fine_signs {K : PySem.W.Frag} {H : Hp} : ∀ {a : List Nat}, (∀ c ∈ a, c < 1000) → ∃ ds, DxAll K H (sg a) ds ∧ PyData.showableAll ds = true ∧ PyData.leavesShortAll 100 ds = true ∧ PyData.depthAll ds = 0 ∧ PyData.weightAll ds = 2 * a.length
  | [], _ => ⟨[], .nil, by simp [PyData.showableAll], by simp [PyData.leavesShortAll], by simp [PyData.depthAll], by simp [PyData.weightAll]⟩
  | c :: r, h => by
    obtain ⟨ds, h1, h2, h3, h4, h5⟩ := fine_signs (K := K) (H := H) (a := r) fun x hx => h x (List.mem_cons_of_mem _ hx)
    have f := fine_txt (K := K) (H := H) (a := [c]) (fun x hx => h x (by rw [List.mem_singleton.mp hx]; exact List.mem_cons_self)) (by show 1 ≤ 4100; decide)
    refine ⟨.str (S [c]) :: ds, .cons f.dx h1, by simp [PyData.showableAll, f.sh, h2], by simp [PyData.leavesShortAll, f.lv, h3], by simp [PyData.depthAll, PyData.depth, h4], ?_⟩
    have e : (PyData.str (S [c])).weight = 1 := rfl
    simp only [PyData.weightAll, e, h5, List.length_cons]
    omega
theorem fine_lst {K : PySem.W.Frag} {H : Hp} {p : Addr} {xs : List V} {ds : List PyData} (e : H p = some (.lst xs)) (n : p ≠ sysModules) (h : DxAll K H xs ds) (s : PyData.showableAll ds = true) (l : PyData.leavesShortAll 100 ds = true) (d : PyData.depthAll ds ≤ 9) (w : PyData.weightAll ds ≤ 4099) :
    Fine K H (.ref p) (.list ds) := ⟨.lst e n h, by simpa [PyData.showable] using s, by simpa [PyData.leavesShort] using l, by simp only [PyData.depth]; omega, by simp only [PyData.weight]; omega⟩
theorem fine_tup {K : PySem.W.Frag} {H : Hp} {p : Addr} {xs : List V} {ds : List PyData} (e : H p = some (.tup xs)) (h : DxAll K H xs ds) (s : PyData.showableAll ds = true) (l : PyData.leavesShortAll 100 ds = true) (d : PyData.depthAll ds ≤ 9) (w : PyData.weightAll ds ≤ 4099) :
    Fine K H (.ref p) (.tuple ds) := ⟨.tup (SqT.of e) h, by simpa [PyData.showable] using s, by simpa [PyData.leavesShort] using l, by simp only [PyData.depth]; omega, by simp only [PyData.weight]; omega⟩
/-- what is no row -/
def BadRow (K : PySem.W.Frag) (H : Hp) (x : V) : Prop := (∃ a : List Nat, x = .str (S a) ∧ a.length ≤ 100000 ∧ rowB a = false) ∨ NoStr K H x
/-- a new list of values that are no rows -/
def spNoRows (K : PySem.W.Frag) : Sp := fun vs H Q _ => ∃ (r : Addr) (a : List Nat), vs = [.ref r, .str (S a)] ∧ Reel H r ∧ a.length ≤ 200 ∧ abs a = true ∧
  ∀ (b : Addr) (xs : List V) (ds : List PyData) (H' : Hp), Step r H H' → Reel H' r → H b = none → H' b = some (.lst xs) → b ≠ sysModules → Fines K H' xs ds → (∀ x ∈ xs, BadRow K H' x) → xs.length = 28 → Q (.ref b) H'

theorem abs_lt {a : List Nat} (h : abs a = true) : ∀ c ∈ a, c < 1000 := fun c hc => by
  have := List.all_eq_true.mp h c hc
  simp only [Bool.or_eq_true, beq_iff_eq] at this
  omega
theorem not_abs {a : List Nat} {c : Nat} (hc : c ∈ a) (h1 : c ≠ 97) (h2 : c ≠ 98) : rowB a = false := by
  unfold rowB
  cases e : abs a with
  | false => exact Bool.and_false _
  | true =>
    have := List.all_eq_true.mp e c hc
    simp only [Bool.or_eq_true, beq_iff_eq] at this
    omega
theorem rowB_long {a : List Nat} (h : 200 < a.length) : rowB a = false := by unfold rowB; rw [decide_eq_false (by omega), Bool.false_and]
def mix (a : List Nat) (j c : Nat) : List Nat := a.take j ++ [c] ++ a.drop (j + 1)
theorem mix_len (a : List Nat) (j c : Nat) (h : a.length ≤ 200) : (mix a j c).length ≤ 201 := by
  unfold mix; rw [List.length_append, List.length_append, List.length_take, List.length_drop]; show min j a.length + 1 + _ ≤ _; omega
theorem mix_lt {a : List Nat} (h : abs a = true) (j c : Nat) (hc : c < 1000) : ∀ x ∈ mix a j c, x < 1000 := by
  intro x hx
  unfold mix at hx
  rcases List.mem_append.mp hx with hx | hx
  · rcases List.mem_append.mp hx with hx | hx
    · exact abs_lt h x (List.mem_of_mem_take hx)
    · rw [List.mem_singleton.mp hx]; exact hc
  · exact abs_lt h x (List.mem_of_mem_drop hx)
theorem mix_mem (a : List Nat) (j c : Nat) : c ∈ mix a j c := List.mem_append_left _ (List.mem_append_right _ List.mem_cons_self)
theorem fines_mix {K : PySem.W.Frag} {H : Hp} {a : List Nat} (h : abs a = true) (hl : a.length ≤ 200) (j : Nat) : ∀ {cs : List Nat}, (∀ c ∈ cs, c < 1000) → Fines K H (cs.map fun c => V.str (S (mix a j c))) (cs.map fun c => PyData.str (S (mix a j c)))
  | [], _ => .nil
  | c :: r, hc => .cons (fine_txt (mix_lt h j c (hc c List.mem_cons_self)) (by have := mix_len a j c hl; omega)) (fines_mix h hl j fun x hx => hc x (List.mem_cons_of_mem _ hx))

/-- a comprehension over a text -/
theorem lc_txt {a : List Nat} {g : TG} {tt : TT} {te : TE} {vs : List Nat} {σ : L2.St} {H1 : Hp} {D : Addr} {Qd : Hp → Prop} (Pv : Nat → Hp → Prop) (h0 : Pv 0 (upd H1 D (.lst [])))
    (hs : ∀ i c H, a[i]? = some c → Pv i H → g (.str (S [c])) (wipe σ vs) H fun σ2 H2 => wipe σ2 vs = wipe σ vs ∧ tt σ2 H2 fun b H3 =>
      if b = true then te σ2 H3 fun y H4 => ∃ acc, H4 D = some (.lst acc) ∧ acc.length < sizeLine ∧ Pv (i + 1) (upd H4 D (.lst (acc ++ [y]))) else Pv (i + 1) H3) (hd : ∀ H, Pv a.length H → Qd H) :
    ∃ W : Nat → Nat → Hp → Prop, (∃ m, W 0 m (upd H1 D (.lst []))) ∧ ∀ i m H, W i m H →
      ((Its (S a)).stop i H ∧ Qd H) ∨ ((Its (S a)).go i H ∧ ∃ Nx : Hp → Prop, (∀ H', Nx H' → ∃ m', m' < m ∧ W (i + 1) m' H') ∧ ∀ x H', (Its (S a)).yld i H x H' → g x (wipe σ vs) H' fun σ2 H2 => wipe σ2 vs = wipe σ vs ∧ tt σ2 H2 fun b H3 =>
        if b = true then te σ2 H3 fun y H4 => ∃ acc, H4 D = some (.lst acc) ∧ acc.length < sizeLine ∧ Nx (upd H4 D (.lst (acc ++ [y]))) else Nx H3) := by
  refine ⟨fun i m H => m = a.length - i ∧ i ≤ a.length ∧ Pv i H, ⟨a.length, by omega, Nat.zero_le _, h0⟩, ?_⟩
  rintro i m H ⟨rfl, hi, p⟩
  have sz : (S a).cps.size = a.length := SX.S_len a
  by_cases hlt : i < a.length
  · refine .inr ⟨(show i < (S a).cps.size by omega), Pv (i + 1), fun H' p' => ⟨a.length - (i + 1), by omega, rfl, hlt, p'⟩, fun x H' y => ?_⟩
    obtain ⟨e, c, hc, ex⟩ := y
    subst e ex
    have hc' : a[i]? = some c := by
      have : (S a).cps[i]? = a[i]? := List.getElem?_toArray ..
      rw [← this]; exact hc
    exact hs i c _ hc' p
  · have e : i = a.length := by omega
    subst e
    exact .inl ⟨(show (S a).cps.size ≤ a.length by omega), hd _ p⟩
theorem ne_nil {K : PySem.W.Frag} {H : Hp} {D e : Addr} (h1 : H D = some (.lst [])) (h2 : H e = some (.lst [])) {Q : V → Prop} (q : Q (.bl false)) : ∃ d e', Dp K H (.ref D) d ∧ Dp K H (.ref e) e' ∧ SeqAt.shaped d = true ∧ SeqAt.shaped e' = true ∧ Q (.bl (!PyData.eqv d e')) :=
  ⟨.list [], .list [], .lst (SqL.of h1) .nil, .lst (SqL.of h2) .nil, shaped_nil, shaped_nil, by rw [eqv_nil]; exact q⟩
theorem rep_data {K : PySem.W.Frag} {H : Hp} {p : Addr} {xs : List V} {ds : List PyData} (e : H p = some (.lst xs)) (n : p ≠ sysModules) (f : Fines K H xs ds) (l : xs.length ≤ 60) :
    Dx K H (.ref p) (.list ds) ∧ (PyData.list ds).showable = true ∧ (PyData.list ds).leavesShort 100 = true ∧ (PyData.list ds).depth ≤ 11 ∧ (PyData.list ds).weight ≤ 4101 * xs.length := by
  obtain ⟨h1, h2, h3, h4, h5⟩ := f.all
  exact ⟨.lst e n h1, by simpa [PyData.showable] using h2, by simpa [PyData.leavesShort] using h3, by simp only [PyData.depth]; omega, by simp only [PyData.weight]; omega⟩
theorem rep_two {K : PySem.W.Frag} {H : Hp} {p q r : Addr} {xs ys : List V} {ds es : List PyData} (e : H p = some (.lst xs)) (n : p ≠ sysModules) (f : Fines K H xs ds) (l : xs.length ≤ 6) (e2 : H q = some (.lst ys)) (n2 : q ≠ sysModules) (f2 : Fines K H ys es) (l2 : ys.length ≤ 28)
    (e3 : H r = some (.lst [.ref p, .ref q])) (n3 : r ≠ sysModules) :
    Dx K H (.ref r) (.list [.list ds, .list es]) ∧ (PyData.list [.list ds, .list es]).showable = true ∧ (PyData.list [.list ds, .list es]).shown.length ≤ sizeLine ∧ (PyData.list [.list ds, .list es]).depth ≤ 50 := by
  obtain ⟨a1, a2, a3, a4, a5⟩ := rep_data e n f (by omega)
  obtain ⟨b1, b2, b3, b4, b5⟩ := rep_data e2 n2 f2 (by omega)
  refine ⟨.lst e3 n3 (.cons a1 (.cons b1 .nil)), ?_, ?_, ?_⟩
  · simp only [PyData.showable, PyData.showableAll] at a2 b2 ⊢
    rw [a2, b2]; rfl
  · have h := PyData.shown_le 100 (by decide) (.list [.list ds, .list es]) (by simp only [PyData.leavesShort, PyData.leavesShortAll] at a3 b3 ⊢; rw [a3, b3]; rfl)
    have hw : (PyData.list [.list ds, .list es]).weight = (PyData.list ds).weight + 1 + ((PyData.list es).weight + 1 + 0) := by simp only [PyData.weight, PyData.weightAll]
    rw [hw] at h
    unfold sizeLine
    omega
  · have hd : (PyData.list [.list ds, .list es]).depth = max (PyData.list ds).depth (max (PyData.list es).depth 0) + 1 := by simp only [PyData.depth, PyData.depthAll]
    rw [hd]; omega

theorem fines_txts {K : PySem.W.Frag} {H : Hp} : ∀ {gl : List (List Nat)}, (∀ g ∈ gl, abs g = true ∧ g.length ≤ 200) → Fines K H (gl.map fun g => V.str (S g)) (gl.map fun g => PyData.str (S g))
  | [], _ => .nil
  | g :: r, h => .cons (fine_txt (abs_lt (h g List.mem_cons_self).1) (by have := (h g List.mem_cons_self).2; omega)) (fines_txts fun x hx => h x (List.mem_cons_of_mem _ hx))
theorem rowB_of {g : List Nat} (h : abs g = true ∧ g.length ≤ 200) : rowB g = true := by unfold rowB; rw [decide_eq_true h.2, h.1]; rfl

theorem tyOf_same {K : PySem.W.Frag} {H H' : Hp} (s : Same H H') {x : V} {t : Value} (h : TyOf K H x t) : TyOf K H' x t := by
  cases h with
  | non => exact .non
  | bl x => exact .bl x
  | int i => exact .int i
  | str x => exact .str x
  | flt x => exact .flt x
  | lst e => exact .lst (s _ _ e)
  | frz e => exact .frz (s _ _ e)
  | tup e => exact .tup (s _ _ e)
  | dK e => exact .dK (s _ _ e)
  | dT e => exact .dT (s _ _ e)
  | ins e cl ha hn htk hm => exact .ins (s _ _ e) cl ha hn htk hm
theorem tyX_same {K : PySem.W.Frag} {H H' : Hp} (s : Same H H') {x : V} {t : Value} (h : TyX K H x t) : TyX K H' x t := by
  cases h with
  | base h => exact .base (tyOf_same s h)
  | byt b => exact .byt b
  | set e => exact .set (s _ _ e)
  | kList e c => exact .kList e c
  | kTuple e c => exact .kTuple e c
  | kDict e c => exact .kDict e c
  | fTuple e => exact .fTuple (s _ _ e)
  | fDict e => exact .fDict (s _ _ e)
theorem BadRow.same {K : PySem.W.Frag} {H H' : Hp} (s : Same H H') {x : V} (h : BadRow K H x) : BadRow K H' x := by
  rcases h with h | ⟨t, h1, h2⟩
  · exact .inl h
  · exact .inr ⟨t, tyX_same s h1, h2⟩
end Vx
namespace K01
open PySem PySem.Spec PyProof.Rows L2 Vx
def topS (i : Nat) : Stmt := PySem.Challenge.pw_paircounts_k01_rows_judged.main.body.getD i (.Pass ⟨0, 0, 0, 0⟩)
abbrev st_is_row : Stmt := topS 2
abbrev N_is_row : List Str := ["value"]
theorem sc_is_row : FnScope N_is_row ["value"] (defScope st_is_row) := ⟨rfl, rfl, rfl, by decide +kernel, rfl, by decide +kernel, by decide +kernel⟩
abbrev st_law_reel : Stmt := topS 4
abbrev N_law_reel : List Str := ["script", "stir", "cell", "great"]
theorem sc_law_reel : FnScope N_law_reel ["script"] (defScope st_law_reel) := ⟨rfl, rfl, rfl, by decide +kernel, rfl, by decide +kernel, by decide +kernel⟩
abbrev st_law_draw : Stmt := topS 5
abbrev N_law_draw : List Str := ["reel", "many", "rest", "extra", "stir"]
theorem sc_law_draw : FnScope N_law_draw ["reel", "many"] (defScope st_law_draw) := ⟨rfl, rfl, rfl, by decide +kernel, rfl, by decide +kernel, by decide +kernel⟩
abbrev st_law_word : Stmt := topS 6
abbrev N_law_word : List Str := ["reel", "low", "high", "size", "way", "found", "part", "letter", "at", "turn"]
theorem sc_law_word : FnScope N_law_word ["reel", "low", "high"] (defScope st_law_word) := ⟨rfl, rfl, rfl, by decide +kernel, rfl, by decide +kernel, by decide +kernel⟩
abbrev st_law_no_rows : Stmt := topS 7
abbrev N_law_no_rows : List Str := ["reel", "text", "at", "found", "sign"]
theorem sc_law_no_rows : FnScope N_law_no_rows ["reel", "text"] (defScope st_law_no_rows) := ⟨rfl, rfl, rfl, by decide +kernel, rfl, by decide +kernel, by decide +kernel⟩
abbrev st_law : Stmt := topS 8
abbrev N_law : List Str := ["script", "reel", "k", "text", "good", "bad", "kept", "signs", "sign", "value"]
theorem sc_law : FnScope N_law ["script"] (defScope st_law) := ⟨rfl, rfl, rfl, by decide +kernel, rfl, by decide +kernel, by decide +kernel⟩
end K01
namespace K01
open PySem PySem.Spec PyProof.Rows L2 Vx
section
variable {P : Program} {w : World} {K : PySem.W.Frag} {mg : Str → Option Value} {base : Heap}
/-- the answer of is_row for a text; False for what is no text -/
def spIsRow (K : PySem.W.Frag) : Sp := fun vs H Q _ => ∃ x, vs = [x] ∧ ((∃ a : List Nat, x = .str (S a) ∧ a.length ≤ 100000 ∧ Q (.bl (rowB a)) H) ∨ (∃ t, TyX K H x t ∧ PySem.W.kitOne K t (.type "str") = some false ∧ Q (.bl false) H))
theorem ok_is_row {f : Addr} {fd : FuncData} {k : Nat} {t200 : Tok} (F : Fun K "is_row" "is_row" st_is_row f fd) (m_isinstance : mg "isinstance" = none) (m_str : mg "str" = none) (m_len : mg "len" = none)
    (g_MOST_LETTERS : mg "MOST_LETTERS" = some (.int 200 t200)) : FnOk P w K mg base CX0 (k + 1) f fd ["value"] (spIsRow K) := by
  refine F.ok sc_is_row (fun vs H Q E h => ?_) (fun cdv A outer s H vs Q E hr h => ?_)
  · obtain ⟨x, rfl, _⟩ := h; rfl
  obtain ⟨x, rfl, h⟩ := h
  refine ⟨_, (pss_cons (ps_if (PW.pt (pw_or (pt_not (pt_val (pe_callB call_isi (by rfl) m_isinstance (by decide +kernel) (pa_cons (pv 0) (pa_cons (pe_bltn (by rfl) m_str (by decide +kernel) (show RelV (.ty "str") (.type "str") from rfl)) pa_nil))))) (pw_or1 (pt_cmpR op_gt (pe_callB call_len_tx (by rfl) m_len PySem.boot_len (pa_cons (pv 0) pa_nil)) (pe_glob rfl g_MOST_LETTERS (show RelV (.int 200) _ from ⟨_, rfl⟩)) (nomark _))))) (pss_one (ps_ret pe_bl)) pss_nil)
    (pss_one (ps_ret (pe_cmpR op_eq (pe_op op_add (pe_m1 PySem.F.slot_str_count PySem.F.type_str_count mt_count_tx (pv 0) pe_str) (pe_m1 PySem.F.slot_str_count PySem.F.type_str_count mt_count_tx (pv 0) pe_str)) (pe_callB call_len_tx (by rfl) m_len PySem.boot_len (pa_cons (pv 0) pa_nil)) (nomark _))))), ?_⟩
  rcases h with ⟨a, rfl, hl, q⟩ | ⟨t, ty, ht, q⟩
  · refine ⟨_, rfl, _, _, _, _, _, rfl, .ty "str", .base (.str _), kit_ty (b := "str") (r := true) (by decide +kernel), true, rfl, ?_⟩
    refine ⟨_, rfl, a, rfl, by omega, _, _, rfl, rfl, _, rfl, ?_⟩
    by_cases hc : a.length ≤ 200
    · rw [show decide ((200 : Int) < (a.length : Int)) = false from decide_eq_false (by omega)]
      refine ⟨_, rfl, ⟨_, rfl⟩, a, 97, rfl, rfl, _, rfl, ⟨_, rfl⟩, a, 98, rfl, rfl, _, _, rfl, rfl, _, rfl, a, rfl, by omega, rfl, ?_⟩
      have e2 : decide (V.int ((a.count 97 : Int) + (a.count 98 : Int)) = V.int (a.length : Int)) = rowB a := by
        have e : (V.int ((a.count 97 : Int) + (a.count 98 : Int)) = V.int (a.length : Int)) ↔ ((a.count 97 : Int) + (a.count 98 : Int) = (a.length : Int)) := ⟨fun z => V.int.inj z, fun z => congrArg V.int z⟩
        rw [decide_eq_decide.mpr e, ab_sum]
        unfold rowB
        rw [decide_eq_true hc, Bool.true_and]
      rw [← e2] at q
      exact q
    · rw [show decide ((200 : Int) < (a.length : Int)) = true from decide_eq_true (by omega)]
      have e : rowB a = false := by unfold rowB; rw [decide_eq_false hc, Bool.false_and]
      rw [e] at q
      exact q
  · refine ⟨_, rfl, _, _, _, _, _, rfl, .ty "str", ty, ht, false, rfl, ?_⟩
    exact q

end
end K01
namespace K01
open PySem PySem.Spec PyProof.Rows L2 Vx
section
variable {P : Program} {w : World} {K : PySem.W.Frag} {mg : Str → Option Value} {base : Heap}
theorem ok_law_reel {f : Addr} {fd : FuncData} {k : Nat} (F : Fun K "_law_reel" "_law_reel" st_law_reel f fd) : FnOk P w K mg base CX0 (k + 1) f fd ["script"] (spReel K) := by
  refine F.ok sc_law_reel (fun vs H Q E h => ?_) (fun cdv A outer s H vs Q E hr h => ?_)
  · obtain ⟨a, ns, rfl, _⟩ := h; rfl
  obtain ⟨a, ns, rfl, hS, hlen, q⟩ := h
  refine ⟨_, (pss_cons (ps_set (i := 1) sc_law_reel.nd rfl (Or.inl rfl) (pe_op op_pow pe_int pe_int))
    (pss_cons (ps_for PassesOwn.never rfl (pi_list (pe_slice sl_list (pv 0) po_none (po_some pe_int))) (pg_name (i := 2) sc_law_reel.nd rfl (Or.inl rfl)) (pss_one (ps_set (i := 1) sc_law_reel.nd rfl (Or.inl rfl) (pe_op op_mod (pe_op op_add (pe_op op_add (pe_op op_mulW (pv 1) (pv 1)) (pe_op op_mod (pv 2) pe_int)) pe_int) (pe_op op_sub (pe_op op_mul (pe_op op_pow pe_int pe_int) (pe_op op_pow pe_int pe_int)) pe_int)))))
    (pss_cons (ps_setLc (i := 3) (own := [("cell", 2)]) rfl sc_law_reel.nd rfl rfl (sw_true rfl rfl rfl (by decide +kernel)) (pi_list (pe_slice sl_list (pv 0) po_none (po_some pe_int))) (blkOk_by (own := [("cell", 2)]) (N := N_law_reel) (sc := defScope st_law_reel) (by decide +kernel)) (fun _ _ _ _ _ => (pg_name (i := 2) sc_law_reel.nd rfl (Or.inl rfl))) (fun _ _ _ _ _ => (pts_one (pt_cmpR op_ge (pv 2) (pe_op op_pow pe_int pe_int) (nomark _)))) (fun _ _ _ _ _ => (pe_op op_sub (pv 2) (pe_op op_pow pe_int pe_int))))
    (pss_one (ps_ret (pe_lst (pa_cons (pv 3) (pa_cons (pe_op op_cat (pe_lc (own := [("cell", 2)]) rfl sc_law_reel.nd (pi_list (pe_slice sl_list (pv 0) po_none (po_some pe_int))) (blkOk_by (own := [("cell", 2)]) (N := N_law_reel) (sc := defScope st_law_reel) (by decide +kernel)) (fun _ _ _ _ _ => (pg_name (i := 2) sc_law_reel.nd rfl (Or.inl rfl))) (fun _ _ _ _ _ => pts_nil) (fun _ _ _ _ _ => (pe_op op_mod (pv 2) pe_int))) (pe_lst (pa_cons pe_int pa_nil))) (pa_cons pe_int (pa_cons (pv 1) pa_nil)))))))))), ?_⟩
  refine ⟨37, 24, rfl, rfl, ⟨by decide, by decide, by decide⟩, ?_⟩
  refine ⟨.ref a, rfl, 59, rfl, a, ns.map V.int, rfl, hS, fun p np => ?_⟩
  have ec : cutV (ns.map V.int) none (some 59) = (ns.take 59).map V.int := by rw [show (59 : Int) = ((59 : Nat) : Int) from rfl, cut_to, List.map_take]
  rw [ec]
  have s1 : Same H (upd H p (.lst ((ns.take 59).map V.int))) := same_new np
  generalize hH1 : upd H p (.lst ((ns.take 59).map V.int)) = H1 at s1 ⊢
  have hp : H1 p = some (.lst ((ns.take 59).map V.int)) := by rw [← hH1]; exact upd_same
  refine ⟨p, rfl, ⟨_, SqL.of hp⟩, for_list (xs := (ns.take 59).map V.int) (fun i σ H' => H' = H1 ∧ ∃ st y2 y3, σ = [some (.ref a), some (.int st), y2, y3] ∧ 0 ≤ st ∧ st < 2 ^ 127)
    ⟨rfl, 37 ^ 24, none, none, rfl, by decide, by decide⟩ (fun i σ H' _ h => by rw [h.1]; exact SqL.of hp) (fun i x σ H' hx h => ?_) (fun σ H' h => ?_)⟩
  · obtain ⟨rfl, st, y2, y3, rfl, l0, l1⟩ := h
    obtain ⟨c, rfl⟩ : ∃ c, x = .int c := by
      rw [List.getElem?_map] at hx
      cases hc : (ns.take 59)[i]? with
      | none => rw [hc] at hx; cases hx
      | some c => rw [hc] at hx; cases hx; exact ⟨c, rfl⟩
    refine ⟨.int st, rfl, .int st, rfl, st, st, rfl, rfl, wide_mul (a := 127) (b := 127) (by omega) (by omega) (by decide) (by decide) (by decide), .int c, rfl, c, 1000000000000000031, rfl, rfl, (by show (0 : Int) < 1000000000000000031; decide),
      _, _, rfl, rfl, _, _, rfl, rfl, 2, 64, rfl, rfl, ⟨by decide, by decide, by decide⟩, 2, 63, rfl, rfl, ⟨by decide, by decide, by decide⟩, _, _, rfl, rfl, .inr ⟨by decide, by decide⟩, _, _, rfl, rfl, _, _, rfl, rfl, bigM_pos, ?_⟩
    exact ⟨rfl, _, some (.int c), y3, rfl, Int.emod_nonneg _ (Int.ne_of_gt bigM_pos), Int.lt_of_lt_of_le (Int.emod_lt_of_pos _ bigM_pos) bigM_le⟩
  · obtain ⟨rfl, st, y2, y3, rfl, l0, l1⟩ := h
    refine ⟨.ref a, rfl, 59, rfl, a, ns.map V.int, rfl, s1.seq hS, fun p2 np2 => ?_⟩
    rw [ec]
    have s2 : Same H (upd H' p2 (.lst ((ns.take 59).map V.int))) := Same.new s1 np2
    generalize hH2 : upd H' p2 (.lst ((ns.take 59).map V.int)) = H2 at s2 ⊢
    have hp2 : H2 p2 = some (.lst ((ns.take 59).map V.int)) := by rw [← hH2]; exact upd_same
    refine ⟨p2, rfl, ⟨_, SqL.of hp2⟩, fun D nD => ?_⟩
    have nDp : p2 ≠ D := ne_of_none hp2 nD
    refine lc_list (xs := (ns.take 59).map V.int) (fun i H' => ∃ gs : List Int, Same H2 H' ∧ H' D = some (.lst (gs.map V.int)) ∧ gs.length ≤ i ∧ ∀ x ∈ gs, 0 ≤ x)
      ⟨[], same_new nD, upd_same, Nat.le_refl _, fun _ h => nomatch h⟩ (fun i H' _ h => by obtain ⟨_, s3, _⟩ := h; exact SqL.of (s3 _ _ hp2)) (fun i x H' hx h => ?_) (fun H' h => ?_)
    · obtain ⟨gs, s3, eD, hl, h0⟩ := h
      obtain ⟨c, rfl⟩ : ∃ c, x = .int c := by
        rw [List.getElem?_map] at hx
        cases hc : (ns.take 59)[i]? with
        | none => rw [hc] at hx; cases hx
        | some c => rw [hc] at hx; cases hx; exact ⟨c, rfl⟩
      have hi : i < 59 := by
        have z := (List.getElem?_eq_some_iff.mp hx).1
        rw [List.length_map, List.length_take] at z
        omega
      refine ⟨rfl, .int c, rfl, 10, 18, rfl, rfl, ⟨by decide, by decide, by decide⟩, _, _, rfl, rfl, _, rfl, ?_⟩
      refine ite2 (fun e => ?_) (fun e => ?_)
      · have e' : (10 : Int) ^ (18 : Int).toNat ≤ c := of_decide_eq_true e
        refine ⟨.int c, rfl, 10, 18, rfl, rfl, ⟨by decide, by decide, by decide⟩, _, _, rfl, rfl, _, eD, by rw [List.length_map]; unfold sizeLine; omega, gs ++ [c - 10 ^ (18 : Int).toNat], Same.mut s3 nD, ?_, ?_, ?_⟩
        · rw [upd_same, List.map_append]; rfl
        · rw [List.length_append]; exact Nat.add_le_add_right hl 1
        · intro x hm
          rcases List.mem_append.mp hm with hm | hm
          · exact h0 x hm
          · have : x = c - 10 ^ (18 : Int).toNat := by simpa using hm
            omega
      · exact ⟨gs, s3, eD, Nat.le_succ_of_le hl, h0⟩
    · obtain ⟨gs, s3, eD, hl, h0⟩ := h
      have s4 : Same H H' := s2.trans s3
      have hl60 : gs.length ≤ 60 := by
        rw [List.length_map, List.length_take] at hl
        omega
      -- the cells
      refine ⟨.ref D, rfl, .ref a, rfl, 59, rfl, a, ns.map V.int, rfl, s4.seq hS, fun p3 np3 => ?_⟩
      rw [ec]
      have s5 : Same H' (upd H' p3 (.lst ((ns.take 59).map V.int))) := same_new np3
      generalize hH3 : upd H' p3 (.lst ((ns.take 59).map V.int)) = H3 at s5 ⊢
      have hp3 : H3 p3 = some (.lst ((ns.take 59).map V.int)) := by rw [← hH3]; exact upd_same
      refine ⟨p3, rfl, ⟨_, SqL.of hp3⟩, fun C nC => ?_⟩
      refine lc_list (xs := (ns.take 59).map V.int) (fun i H' => ∃ cs : List Int, Same H3 H' ∧ H' C = some (.lst (cs.map V.int)) ∧ cs.length = i)
        ⟨[], same_new nC, upd_same, rfl⟩ (fun i H' _ h => by obtain ⟨_, s3, _⟩ := h; exact SqL.of (s3 _ _ hp3)) (fun i x H4 hx h => ?_) (fun H4 h => ?_)
      · obtain ⟨cs, s6, eC, hl2⟩ := h
        obtain ⟨c, rfl⟩ : ∃ c, x = .int c := by
          rw [List.getElem?_map] at hx
          cases hc : (ns.take 59)[i]? with
          | none => rw [hc] at hx; cases hx
          | some c => rw [hc] at hx; cases hx; exact ⟨c, rfl⟩
        have hi : i < 59 := by
          have z := (List.getElem?_eq_some_iff.mp hx).1
          rw [List.length_map, List.length_take] at z
          omega
        refine ⟨rfl, .int c, rfl, c, 1000037, rfl, rfl, (by show (0 : Int) < 1000037; decide), _, eC, by rw [List.length_map]; unfold sizeLine; omega, cs ++ [c % 1000037], Same.mut s6 nC, ?_, ?_⟩
        · rw [upd_same, List.map_append]; rfl
        · rw [List.length_append, hl2]; rfl
      · obtain ⟨cs, s6, eC, hl2⟩ := h
        have hl59 : cs.length ≤ 59 := by
          rw [hl2, List.length_map, List.length_take]; omega
        have s7 : Same H H4 := s4.trans (s5.trans s6)
        have eD4 : H4 D = some (.lst (gs.map V.int)) := s6 _ _ (s5 _ _ eD)
        refine ⟨(by show 1 ≤ sizeLine; decide), fun o no => ?_⟩
        have neo : C ≠ o := ne_of_none eC no
        refine ⟨C, o, cs.map V.int, [.int 71], rfl, rfl, by rw [upd_ne neo]; exact eC, upd_same, by rw [List.length_map]; show cs.length + 1 ≤ sizeLine; unfold sizeLine; omega, fun u nu => ?_⟩
        have s8 : Same H4 (upd (upd H4 o (.lst [.int 71])) u (.lst (cs.map V.int ++ [.int 71]))) := Same.new (same_new no) nu
        generalize hH5 : upd (upd H4 o (.lst [.int 71])) u (.lst (cs.map V.int ++ [.int 71])) = H5 at s8 ⊢
        have eu : H5 u = some (.lst ((cs ++ [71]).map V.int)) := by rw [← hH5, upd_same, List.map_append]; rfl
        refine ⟨.int st, rfl, (by show 4 ≤ sizeLine; decide), fun r nr => ?_⟩
        have s9 : Same H5 (upd H5 r (.lst [.ref D, .ref u, .int 0, .int st])) := same_new nr
        have nr0 : H r = none := by
          cases e : H r with
          | none => rfl
          | some o => rw [s8 _ _ (s7 _ _ e)] at nr; cases nr
        refine q r _ (s7.trans (s8.trans s9)) nr0 ⟨D, u, gs, cs ++ [71], 0, st, ⟨upd_same, ne_of_none (s8 _ _ eD4) nr, ne_of_none eu nr, s9 _ _ (s8 _ _ eD4), s9 _ _ eu, hl60, h0, ?_, l0, l1⟩⟩
        rw [List.length_append]; show 1 ≤ cs.length + 1 ∧ cs.length + 1 ≤ 60; omega

end
end K01
namespace K01
open PySem PySem.Spec PyProof.Rows L2 Vx
section
variable {P : Program} {w : World} {K : PySem.W.Frag} {mg : Str → Option Value} {base : Heap}
theorem ok_law_draw {f : Addr} {fd : FuncData} {k : Nat} (F : Fun K "_law_draw" "_law_draw" st_law_draw f fd) (m_int : mg "int" = none) (m_len : mg "len" = none) : FnOk P w K mg base CX0 (k + 1) f fd ["reel", "many"] spDraw := by
  refine F.ok sc_law_draw (fun vs H Q E h => ?_) (fun cdv A outer s H vs Q E hr h => ?_)
  · obtain ⟨r, m, rfl, _⟩ := h; rfl
  obtain ⟨r, m, rfl, ⟨g, c, gs, cs, n, st, R⟩, hm, hmb, q⟩ := h
  have m0 : (0 : Int) < m := by omega
  refine ⟨_, (pss_cons (ps_if (pt_cmpR (op_neD hr.units) (pe_ix ix_list (pv 0) pe_int (fun _ _ => rfl)) (pe_lst pa_nil) (nomark _)) (pss_cons (ps_set (i := 2) sc_law_draw.nd rfl (Or.inl rfl) (pe_ix ix_list (pe_ix ix_list (pv 0) pe_int (fun _ _ => rfl)) pe_int (fun _ _ => rfl)))
    (pss_cons (ps_asg (pe_op op_cat (pe_op op_rep (pe_lst (pa_cons (pe_op op_fdivW (pv 2) (pv 1)) pa_nil)) (pe_callTy call_int1 (by rfl) m_int (by decide +kernel) (pa_cons (pe_cmpR op_ge (pv 2) (pv 1) (nomark _)) pa_nil))) (pe_slice sl_list (pe_ix ix_list (pv 0) pe_int (fun _ _ => rfl)) (po_some pe_int) po_none)) (pg_sub (pv 0) pe_int set_list))
    (pss_one (ps_ret (pe_op op_mod (pv 2) (pv 1)))))) pss_nil)
    (pss_cons (ps_asg (pe_op op_add (pe_ix ix_list (pv 0) pe_int (fun _ _ => rfl)) pe_int) (pg_sub (pv 0) pe_int set_list))
    (pss_cons (ps_set (i := 3) sc_law_draw.nd rfl (Or.inl rfl) (pe_ix ix_list (pe_ix ix_list (pv 0) pe_int (fun _ _ => rfl)) (pe_op op_mod (pe_ix ix_list (pv 0) pe_int (fun _ _ => rfl)) (pe_callB call_len_seq (by rfl) m_len PySem.boot_len (pa_cons (pe_ix ix_list (pv 0) pe_int (fun _ _ => rfl)) pa_nil))) (fun _ _ => rfl)))
    (pss_cons (ps_set (i := 4) sc_law_draw.nd rfl (Or.inl rfl) (pe_op op_add (pe_op op_add (pe_op op_mulW (pe_ix ix_list (pv 0) pe_int (fun _ _ => rfl)) (pe_ix ix_list (pv 0) pe_int (fun _ _ => rfl))) (pe_op op_mul (pe_op op_add (pv 3) pe_int) pe_int)) (pe_op op_mul (pe_ix ix_list (pv 0) pe_int (fun _ _ => rfl)) pe_int)))
    (pss_cons (ps_asg (pe_op op_mod (pv 4) (pe_op op_sub (pe_op op_mul (pe_op op_pow pe_int pe_int) (pe_op op_pow pe_int pe_int)) pe_int)) (pg_sub (pv 0) pe_int set_list))
    (pss_one (ps_ret (pe_op op_mod (pe_op op_fdivW (pe_ix ix_list (pv 0) pe_int (fun _ _ => rfl)) (pe_op op_pow pe_int pe_int)) (pv 1))))))))), ?_⟩
  refine ⟨.ref r, rfl, r, _, 0, .ref g, rfl, rfl, SqL.of R.at_r, rfl, Nat.zero_le _, fun p np => ?_⟩
  have s1 : Same H (upd H p (.lst [])) := same_new np
  have ep : (upd H p (.lst [])) p = some (.lst []) := upd_same
  generalize upd H p (.lst []) = H1 at s1 ep ⊢
  refine ⟨.list (gs.map .int), .list [], .lst (SqL.of (s1 _ _ R.at_g)) (dp_ints gs), .lst (SqL.of ep) .nil, shaped_ints gs, shaped_nil, _, rfl, ?_⟩
  rw [eqv_nil]
  have k1 : Keep r H H1 := .of s1
  have e1 := s1 _ _ R.at_r
  have g1 := s1 _ _ R.at_g
  have c1 := s1 _ _ R.at_c
  cases gs with
  | cons x rest =>
    have x0 : 0 ≤ x := R.pos_g x List.mem_cons_self
    refine ⟨.ref r, rfl, r, _, 0, .ref g, rfl, rfl, SqL.of e1, rfl, g, _, 0, .int x, rfl, rfl, SqL.of g1, at_of (j := 0) rfl rfl, ?_⟩
    refine ⟨.int x, rfl, .int m, rfl, x, m, rfl, rfl, wide_div m0 hmb (by decide) (by decide), (by show 1 ≤ sizeLine; decide), fun p1 np1 => ?_⟩
    have s2 : Same H1 (upd H1 p1 (.lst [.int (x / m)])) := same_new np1
    have ep1 : (upd H1 p1 (.lst [.int (x / m)])) p1 = some (.lst [.int (x / m)]) := upd_same
    generalize upd H1 p1 (.lst [.int (x / m)]) = H2 at s2 ep1 ⊢
    refine ⟨.int x, rfl, .int m, rfl, _, _, rfl, rfl, .inr ⟨_, rfl, ?_⟩⟩
    have hk : (if decide (m ≤ x) = true then (1 : Int) else 0) = 0 ∨ (if decide (m ≤ x) = true then (1 : Int) else 0) = 1 := by
      by_cases h : m ≤ x
      · right; rw [decide_eq_true h]; rfl
      · left; rw [decide_eq_false h]; rfl
    generalize (if decide (m ≤ x) = true then (1 : Int) else 0) = kk at hk ⊢
    refine ⟨p1, kk, _, rfl, rfl, ep1, by omega, by omega, ?_, fun p2 np2 => ?_⟩
    · show 1 * kk.toNat ≤ sizeLine
      unfold sizeLine; omega
    obtain ⟨hd, ehd, lhd, phd⟩ : ∃ hd : List Int, (List.replicate kk.toNat [V.int (x / m)]).flatten = hd.map V.int ∧ hd.length ≤ 1 ∧ ∀ y ∈ hd, 0 ≤ y := by
      rcases hk with rfl | rfl
      · exact ⟨[], rfl, by decide, fun _ h => nomatch h⟩
      · refine ⟨[x / m], rfl, Nat.le_refl 1, fun y hy => ?_⟩
        have : y = x / m := by simpa using hy
        rw [this]; exact Int.ediv_nonneg x0 (Int.le_of_lt m0)
    rw [ehd]
    have s3 : Same H2 (upd H2 p2 (.lst (hd.map V.int))) := same_new np2
    have ep2 : (upd H2 p2 (.lst (hd.map V.int))) p2 = some (.lst (hd.map V.int)) := upd_same
    generalize upd H2 p2 (.lst (hd.map V.int)) = H3 at s3 ep2 ⊢
    have s13 : Same H1 H3 := s2.trans s3
    refine ⟨.ref r, rfl, r, _, 0, .ref g, rfl, rfl, SqL.of (s13 _ _ e1), rfl, 1, rfl, g, _, rfl, SqL.of (s13 _ _ g1), fun p3 np3 => ?_⟩
    have ecut : cutV ((x :: rest).map V.int) (some 1) none = rest.map V.int := by rw [show (1 : Int) = ((1 : Nat) : Int) from rfl, cut_from]; rfl
    rw [ecut]
    have s4 : Same H3 (upd H3 p3 (.lst (rest.map V.int))) := same_new np3
    have ep3 : (upd H3 p3 (.lst (rest.map V.int))) p3 = some (.lst (rest.map V.int)) := upd_same
    have ep2' := s4 _ _ ep2
    generalize upd H3 p3 (.lst (rest.map V.int)) = H4 at s4 ep3 ep2' ⊢
    have hlen : rest.length + 1 ≤ 60 := R.len_g
    refine ⟨p2, p3, _, _, rfl, rfl, ep2', ep3, ?_, fun u nu => ?_⟩
    · rw [List.length_map, List.length_map]; unfold sizeLine; omega
    rw [← List.map_append]
    have s5 : Same H4 (upd H4 u (.lst ((hd ++ rest).map V.int))) := same_new nu
    have eu : (upd H4 u (.lst ((hd ++ rest).map V.int))) u = some (.lst ((hd ++ rest).map V.int)) := upd_same
    have s15 : Same H1 H4 := s13.trans s4
    have neu : r ≠ u := ne_of_none (s15 _ _ e1) nu
    generalize upd H4 u (.lst ((hd ++ rest).map V.int)) = H5 at s5 eu ⊢
    have s16 : Same H1 H5 := s15.trans s5
    refine ⟨.ref r, rfl, r, _, _, 0, rfl, rfl, s16 _ _ e1, rfl, ?_⟩
    refine ⟨.int x, rfl, .int m, rfl, x, m, rfl, rfl, m0, ?_⟩
    refine q (x % m) _ (Int.emod_nonneg _ (by omega)) (Int.emod_lt_of_pos _ m0) ⟨k1.trans (Keep.put (Keep.of s16)), fun D hD nD hO g' c' y z e => ?_⟩ ⟨u, c, hd ++ rest, cs, n, st, ⟨upd_same, neu.symm, R.ne_c, by rw [upd_ne neu.symm]; exact eu, by rw [upd_ne R.ne_c]; exact s16 _ _ c1, ?_, ?_, R.len_c, R.lo, R.hi⟩⟩
    · obtain ⟨o, hD⟩ := hD
      rw [upd_same] at e
      cases e
      exact ⟨ne_of_none (s15 _ _ (s1 _ _ hD)) nu, (hO _ _ _ _ R.at_r).2⟩
    · rw [List.length_append]; omega
    · intro y hy
      rcases List.mem_append.mp hy with hy | hy
      · exact phd y hy
      · exact R.pos_g y (List.mem_cons_of_mem _ hy)
  | nil =>
    obtain ⟨lc1, lc2⟩ := R.len_c
    refine ⟨.ref r, rfl, r, _, 2, .int n, rfl, rfl, SqL.of e1, rfl, n, 1, rfl, rfl, ?_⟩
    refine ⟨.ref r, rfl, r, _, 2, 2, rfl, rfl, e1, rfl, ?_⟩
    have k2 : Keep r H (upd H1 r (.lst [.ref g, .ref c, .int (n + 1), .int st])) := Keep.put k1
    have e2 : (upd H1 r (.lst [.ref g, .ref c, .int (n + 1), .int st])) r = some (.lst [.ref g, .ref c, .int (n + 1), .int st]) := upd_same
    show L2.tSeq _ _ _ _ (upd H1 r (.lst [.ref g, .ref c, .int (n + 1), .int st]))
    generalize upd H1 r (.lst [.ref g, .ref c, .int (n + 1), .int st]) = H2 at k2 e2 ⊢
    have c2 : H2 c = some (.lst (cs.map V.int)) := k2 _ _ R.ne_c R.at_c
    have g2 : H2 g = some (.lst (([] : List Int).map V.int)) := k2 _ _ R.ne_g R.at_g
    obtain ⟨j, hj, ej⟩ : ∃ j : Nat, j < cs.length ∧ (n + 1) % (((cs.map V.int).length : Nat) : Int) = (j : Int) := by
      rw [List.length_map]
      refine ⟨((n + 1) % (cs.length : Int)).toNat, ?_, ?_⟩
      · have h1 := Int.emod_nonneg (n + 1) (show (cs.length : Int) ≠ 0 by omega)
        have h2 := Int.emod_lt_of_pos (n + 1) (show (0 : Int) < cs.length by omega)
        omega
      · have h1 := Int.emod_nonneg (n + 1) (show (cs.length : Int) ≠ 0 by omega)
        omega
    have ec : (cs.map V.int)[j]? = some (.int cs[j]) := by rw [List.getElem?_map, List.getElem?_eq_getElem hj]; rfl
    refine ⟨.ref r, rfl, r, _, 1, .ref c, rfl, rfl, SqL.of e2, rfl, .ref r, rfl, r, _, 2, .int (n + 1), rfl, rfl, SqL.of e2, rfl, .ref r, rfl, r, _, 1, .ref c, rfl, rfl, SqL.of e2, rfl,
      c, _, rfl, .inl (SqL.of c2), _, _, rfl, rfl, ?_, c, _, _, .int cs[j], rfl, rfl, SqL.of c2, at_of ej ec, ?_⟩
    · show (0 : Int) < ((cs.map V.int).length : Nat)
      rw [List.length_map]; omega
    refine ⟨.ref r, rfl, r, _, 3, .int st, rfl, rfl, SqL.of e2, rfl, .ref r, rfl, r, _, 3, .int st, rfl, rfl, SqL.of e2, rfl, st, st, rfl, rfl, wide_mul (bits127 R.lo R.hi) (bits127 R.lo R.hi) (by decide) (by decide) (by decide),
      .int cs[j], rfl, _, _, rfl, rfl, _, _, rfl, rfl, .inr ⟨by decide, by decide⟩, _, _, rfl, rfl, .ref r, rfl, r, _, 2, .int (n + 1), rfl, rfl, SqL.of e2, rfl, _, _, rfl, rfl, .inr ⟨by decide, by decide⟩, _, _, rfl, rfl, ?_⟩
    refine ⟨.int (st * st + (cs[j] + 17) * 122949823 + (n + 1) * 999979), rfl, 2, 64, rfl, rfl, ⟨by decide, by decide, by decide⟩, 2, 63, rfl, rfl, ⟨by decide, by decide, by decide⟩, _, _, rfl, rfl, .inr ⟨by decide, by decide⟩, _, _, rfl, rfl, _, _, rfl, rfl, bigM_pos, ?_⟩
    obtain ⟨big, hbig⟩ : ∃ big, st * st + (cs[j] + 17) * 122949823 + (n + 1) * 999979 = big := ⟨_, rfl⟩
    rw [hbig]
    have b0 := Int.emod_nonneg big (Int.ne_of_gt bigM_pos)
    have b1 := Int.lt_of_lt_of_le (Int.emod_lt_of_pos big bigM_pos) bigM_le
    refine ⟨.ref r, rfl, r, _, 3, 3, rfl, rfl, e2, rfl, ?_⟩
    generalize hX : upd H2 r (HO.lst ([V.ref g, V.ref c, V.int (n + 1), V.int st].set 3 _)) = H3
    have k3 : Keep r H H3 := by rw [← hX]; exact Keep.put k2
    have e3 : H3 r = some (.lst [.ref g, .ref c, .int (n + 1), .int (big % (2 ^ (64 : Int).toNat * 2 ^ (63 : Int).toNat - 1))]) := by rw [← hX]; exact upd_same
    clear hX
    generalize big % (2 ^ (64 : Int).toNat * 2 ^ (63 : Int).toNat - 1) = st' at b0 b1 e3
    refine ⟨.ref r, rfl, r, _, 3, .int st', rfl, rfl, SqL.of e3, rfl, 2, 45, rfl, rfl, ⟨by decide, by decide, by decide⟩, _, _, rfl, rfl, wide_div (b := 46) (by decide) (by decide) (by decide) (by decide), .int m, rfl, _, _, rfl, rfl, m0, ?_⟩
    exact q _ _ (Int.emod_nonneg _ (by omega)) (Int.emod_lt_of_pos _ m0) ⟨k3, fun D _ _ hO g' c' y z e => by rw [e3] at e; cases e; exact hO _ _ _ _ R.at_r⟩ ⟨g, c, [], cs, n + 1, st', ⟨e3, R.ne_g, R.ne_c, k3 _ _ R.ne_g R.at_g, k3 _ _ R.ne_c R.at_c, by decide, (fun _ h => nomatch h), R.len_c, b0, b1⟩⟩

end
end K01
namespace K01
open PySem PySem.Spec PyProof.Rows L2 Vx
section
variable {P : Program} {w : World} {K : PySem.W.Frag} {mg : Str → Option Value} {base : Heap}
theorem word_item (wy : Int) (h0 : 0 ≤ wy) (h6 : wy < 6) (h4 : wy ≠ 4) : ∃ L : List Nat, atI [V.str (S [97, 98]), .str (S [97, 97, 97, 97, 98]), .str (S [97, 98]), .str (S [98, 98, 98, 97]), .str (S []), .str (S [98])] wy = some (.str (S L)) ∧ abs L = true ∧ 1 ≤ L.length ∧ L.length ≤ 5 := by
  have : wy = 0 ∨ wy = 1 ∨ wy = 2 ∨ wy = 3 ∨ wy = 5 := by omega
  rcases this with rfl | rfl | rfl | rfl | rfl
  · exact ⟨[97, 98], at_of (j := 0) rfl rfl, rfl, by decide, by decide⟩
  · exact ⟨[97, 97, 97, 97, 98], at_of (j := 1) rfl rfl, rfl, by decide, by decide⟩
  · exact ⟨[97, 98], at_of (j := 2) rfl rfl, rfl, by decide, by decide⟩
  · exact ⟨[98, 98, 98, 97], at_of (j := 3) rfl rfl, rfl, by decide, by decide⟩
  · exact ⟨[98], at_of (j := 5) rfl rfl, rfl, by decide, by decide⟩
theorem word_times (wy d : Int) (h0 : 0 ≤ wy) (h6 : wy < 6) (d0 : 0 ≤ d) (d9 : d < 9) : ∃ e : Nat, atI [V.int 1, .int 1, .int (1 + d), .int 1, .int 1, .int 1] wy = some (.int (e : Int)) ∧ 1 ≤ e ∧ e ≤ 9 := by
  have : wy = 0 ∨ wy = 1 ∨ wy = 2 ∨ wy = 3 ∨ wy = 4 ∨ wy = 5 := by omega
  rcases this with rfl | rfl | rfl | rfl | rfl | rfl
  · exact ⟨1, at_of (j := 0) rfl rfl, by decide, by decide⟩
  · exact ⟨1, at_of (j := 1) rfl rfl, by decide, by decide⟩
  · refine ⟨(1 + d).toNat, at_of (j := 2) rfl ?_, by omega, by omega⟩
    show some (V.int (1 + d)) = some (V.int (((1 + d).toNat : Nat) : Int))
    rw [Int.toNat_of_nonneg (by omega)]
  · exact ⟨1, at_of (j := 3) rfl rfl, by decide, by decide⟩
  · exact ⟨1, at_of (j := 4) rfl rfl, by decide, by decide⟩
  · exact ⟨1, at_of (j := 5) rfl rfl, by decide, by decide⟩
def wordMu (n : Nat) : L2.St → Hp → Nat := fun σ _ => match σ[5]? with
  | some (some (V.str x)) => n - x.length
  | _ => 0
theorem ok_law_word {f fD : Addr} {fd fdD : FuncData} {k : Nat} (F : Fun K "_law_word" "_law_word" st_law_word f fd) (F_law_draw : Fun K "_law_draw" "_law_draw" st_law_draw fD fdD) (G_law_draw : FnOk P w K mg base CX0 1 fD fdD ["reel", "many"] spDraw)
    (b_law_draw : Binds K fdD ["reel", "many"] []) (g_law_draw : mg "_law_draw" = some (.ref fD)) (m_range : mg "range" = none) (m_len : mg "len" = none) : FnOk P w K mg base CX0 (k + 2) f fd ["reel", "low", "high"] spWord := by
  refine F.ok sc_law_word (fun vs H Q E h => ?_) (fun cdv A outer s H vs Q E hr h => ?_)
  · obtain ⟨r, lo, hi, rfl, _⟩ := h; rfl
  obtain ⟨r, lo, hi, rfl, R, l0, lh, h3, q⟩ := h
  refine ⟨_, (pss_cons (ps_par3 (i := 3) (j := 4) (l := 5) (by rfl) sc_law_word.nd rfl rfl rfl (by decide) (by decide) (by decide) rfl rfl rfl (pa_cons (pe_op op_add (pv 1) (pe_call G_law_draw (hr.mono (by omega)) (by rfl) g_law_draw F_law_draw.kp b_law_draw .nil pass0 (pa_cons (pv 0) (pa_cons (pe_op op_add (pe_op op_sub (pv 2) (pv 1)) pe_int) pa_nil)))) (pa_cons (pe_call G_law_draw (hr.mono (by omega)) (by rfl) g_law_draw F_law_draw.kp b_law_draw .nil pass0 (pa_cons (pv 0) (pa_cons pe_int pa_nil))) (pa_cons pe_str pa_nil))) (by rfl))
    (pss_cons (ps_if (pt_cmpR op_eq (pv 4) pe_int (nomark _)) (pss_cons (ps_set (i := 6) sc_law_word.nd rfl (Or.inl rfl) (pe_join pe_str (pe_lc (own := [("turn", 9)]) rfl sc_law_word.nd (pi_range1 rfl m_range (pa_cons (pe_op op_add pe_int (pe_call G_law_draw (hr.mono (by omega)) (by rfl) g_law_draw F_law_draw.kp b_law_draw .nil pass0 (pa_cons (pv 0) (pa_cons pe_int pa_nil)))) pa_nil)) (blkOk_by (own := [("turn", 9)]) (N := N_law_word) (sc := defScope st_law_word) (by decide +kernel)) (fun _ _ _ _ _ => (pg_name (i := 9) sc_law_word.nd rfl (Or.inl rfl))) (fun _ _ _ _ _ => pts_nil) (fun _ _ _ _ _ => (pe_ix ix_tx pe_str (pe_call G_law_draw (hr.mono (by omega)) (by rfl) g_law_draw F_law_draw.kp b_law_draw .nil pass0 (pa_cons (pv 0) (pa_cons pe_int pa_nil))) (fun _ _ => rfl))))))
    (pss_one (ps_ret (pe_slice sl_tx (pe_op op_rep_str (pv 6) (pv 3)) po_none (po_some (pv 3)))))) pss_nil)
    (pss_cons (ps_while PassesOwn.never (pt_cmpR op_lt (pe_callB call_len_tx (by rfl) m_len PySem.boot_len (pa_cons (pv 5) pa_nil)) (pv 3) (nomark _)) (pss_cons (ps_set (i := 7) sc_law_word.nd rfl (Or.inl rfl) (pe_ix ix_list (pe_lst (pa_cons pe_str (pa_cons pe_str (pa_cons pe_str (pa_cons pe_str (pa_cons pe_str (pa_cons pe_str pa_nil))))))) (pv 4) (fun _ _ => rfl)))
    (pss_cons (ps_set (i := 7) sc_law_word.nd rfl (Or.inl rfl) (pe_ix ix_tx (pv 7) (pe_call G_law_draw (hr.mono (by omega)) (by rfl) g_law_draw F_law_draw.kp b_law_draw .nil pass0 (pa_cons (pv 0) (pa_cons (pe_callB call_len_tx (by rfl) m_len PySem.boot_len (pa_cons (pv 7) pa_nil)) pa_nil))) (fun _ _ => rfl)))
    (pss_one (ps_set (i := 5) sc_law_word.nd rfl (Or.inl rfl) (pe_op op_add_tx (pv 5) (pe_op op_rep_str (pv 7) (pe_ix ix_list (pe_lst (pa_cons pe_int (pa_cons pe_int (pa_cons (pe_op op_add pe_int (pe_call G_law_draw (hr.mono (by omega)) (by rfl) g_law_draw F_law_draw.kp b_law_draw .nil pass0 (pa_cons (pv 0) (pa_cons pe_int pa_nil)))) (pa_cons pe_int (pa_cons pe_int (pa_cons pe_int pa_nil))))))) (pv 4) (fun _ _ => rfl)))))))))
    (pss_cons (ps_set (i := 8) sc_law_word.nd rfl (Or.inl rfl) (pe_call G_law_draw (hr.mono (by omega)) (by rfl) g_law_draw F_law_draw.kp b_law_draw .nil pass0 (pa_cons (pv 0) (pa_cons (pe_op op_add (pv 3) pe_int) pa_nil))))
    (pss_one (ps_ret (pe_ifExp (pt_cmpR op_eq (pv 4) pe_int (nomark _)) (pe_slice sl_tx (pe_op op_add_tx (pe_op op_add_tx (pe_slice sl_tx (pv 5) po_none (po_some (pv 8))) pe_str) (pe_slice sl_tx (pv 5) (po_some (pe_op op_add (pv 8) pe_int)) po_none)) po_none (po_some (pv 3))) (pe_slice sl_tx (pv 5) po_none (po_some (pv 3)))))))))), ?_⟩
  refine ⟨.int lo, rfl, .ref r, rfl, .int hi, rfl, .int lo, rfl, hi, lo, rfl, rfl, hi - lo, 1, rfl, rfl, r, hi - lo + 1, rfl, R, by omega, b8k (by omega) (by omega), fun d H1 d0 d1 k1 R1 => ?_⟩
  refine ⟨lo, d, rfl, rfl, .ref r, rfl, r, 6, rfl, R1, by decide, b8k (by decide) (by decide), fun wy H2 w0 w6 k2 R2 => ?_⟩
  refine ⟨.int (lo + d), .int wy, .str (S []), rfl, ?_⟩
  obtain ⟨n, hn⟩ : ∃ n : Nat, lo + d = (n : Int) := ⟨(lo + d).toNat, by omega⟩
  rw [hn]
  have k12 : Step r H H2 := k1.trans k2
  have n3 : n ≤ 300 := by omega
  refine ⟨.int wy, rfl, rfl, _, rfl, ite2 (fun e => ?_) (fun e => ?_)⟩
  · -- a part again and again
    refine ⟨⟨_, rfl⟩, .ref r, rfl, r, 5, rfl, R2, by decide, b8k (by decide) (by decide), fun d2 H3 d20 d25 k3 R3 => ?_⟩
    have k13 : Step r H H3 := k12.trans k3
    refine ⟨1, d2, rfl, rfl, 1 + d2, rfl, by omega, by omega, fun D nD => ?_⟩
    have nDr : D ≠ r := R3.ne nD
    refine lc_range (lo := 0) (n := (1 + d2).toNat) (fun i H' => ∃ ps : List (List Nat), H' D = some (.lst (ps.map fun p => V.str (S p))) ∧ ps.length = i ∧ (∀ p ∈ ps, p.length = 1 ∧ abs p = true) ∧ Step r H3 H' ∧ Reel H' r ∧ Off H' r D)
      ⟨[], upd_same, rfl, (fun _ h => nomatch h), Step.same R3 (same_new nD), R3.mono (same_new nD), Off.upd (Off.new R3 nD) nDr⟩ (fun i H' hi h => ?_) (fun H' h => ?_)
    · obtain ⟨ps, eD, hl, hp, kk, RR, oD⟩ := h
      refine ⟨rfl, .ref r, rfl, r, 2, rfl, RR, by decide, b8k (by decide) (by decide), fun d3 H4 d30 d32 k4 R4 => ?_⟩
      obtain ⟨j, hj⟩ : ∃ j : Nat, d3 = (j : Int) := ⟨d3.toNat, by omega⟩
      subst hj
      have hc : ∃ c, ([97, 98] : List Nat)[j]? = some c ∧ abs [c] = true := by
        have : j = 0 ∨ j = 1 := by omega
        rcases this with rfl | rfl
        · exact ⟨97, rfl, rfl⟩
        · exact ⟨98, rfl, rfl⟩
      obtain ⟨c, hc, hab⟩ := hc
      have eD4 := k4.keep _ _ nDr eD
      have oD4 := k4.sep D ⟨_, eD⟩ nDr oD
      refine ⟨[97, 98], j, c, rfl, rfl, by decide, hc, _, eD4, by rw [List.length_map, hl]; unfold sizeLine; omega, ps ++ [[c]], by rw [upd_same, List.map_append]; rfl, by rw [List.length_append, hl]; rfl,
        (fun p hm => ?_), Step.mut (kk.trans k4) nD nDr, R4.upd nDr oD4, Off.upd oD4 nDr⟩
      rcases List.mem_append.mp hm with hm | hm
      · exact hp p hm
      · have : p = [c] := by simpa using hm
        rw [this]; exact ⟨rfl, hab⟩
    · obtain ⟨ps, eD, hl, hp, kk, RR, oD⟩ := h
      have eps : (ps.map fun p => V.str (S p)) = (ps.map S).map V.str := by rw [List.map_map]; rfl
      have hsum : ((ps.map S).map (·.length)).sum = ps.length := by
        rw [SX.lens]
        clear eps eD hl
        induction ps with
        | nil => rfl
        | cons p t ih => rw [List.map_cons, List.sum_cons, ih fun q hq => hp q (List.mem_cons_of_mem _ hq), (hp p List.mem_cons_self).1, List.length_cons]; omega
      have hl9 : ps.length ≤ 5 := by omega
      have hl1 : 1 ≤ ps.length := by omega
      refine ⟨S [], D, ps.map S, rfl, rfl, .inl (SqL.of (by rw [eD, eps])), ?_, ?_⟩
      · rw [hsum]; show ps.length + (ps.map S).length * 0 ≤ 16777216; omega
      rw [SX.join_S, joinL_nil]
      have hfl : ps.flatten.length = ps.length := len_flatten1 fun p hq => (hp p hq).1
      have hfa : abs ps.flatten = true := abs_flatten fun p hq => (hp p hq).2
      generalize ps.flatten = part at hfl hfa ⊢
      refine ⟨.str (S part), rfl, .int n, rfl, part, n, rfl, rfl, by omega, by omega, ?_, .int n, rfl, n, rfl, _, rfl, ?_, ?_⟩
      · rw [Int.toNat_natCast, hfl]
        have : n * ps.length ≤ 300 * 5 := Nat.mul_le_mul n3 hl9
        omega
      · rw [Int.toNat_natCast, repN_length, hfl]
        have : n * ps.length ≤ 300 * 5 := Nat.mul_le_mul n3 hl9
        omega
      rw [cutL_to, Int.toNat_natCast]
      have hlen : ((repN n part).take n).length = n := by
        rw [List.length_take, repN_length, hfl]
        exact Nat.min_eq_left (Nat.le_mul_of_pos_right n hl1)
      exact q _ _ (by rw [hlen]; omega) (by rw [hlen]; omega) (abs_take (abs_rep hfa n) n) (k13.trans kk) RR
  · have wn : wy ≠ 4 := fun z => e (decide_eq_true (by rw [z]))
    refine while_by (fun σ H' => ∃ (a : List Nat) (y7 : Option V), σ = [some (.ref r), some (.int lo), some (.int hi), some (.int n), some (.int wy), some (.str (S a)), none, y7, none, none] ∧ a.length ≤ 400 ∧ abs a = true ∧ Step r H H' ∧ Reel H' r)
      (wordMu n) ⟨[], none, rfl, by decide, rfl, k12, R2⟩ (fun σ H' h => ?_) (fun σ H' Q Q' mm h => ?_)
    · obtain ⟨a, y7, rfl, la, ha, kk, RR⟩ := h
      refine ⟨.str (S a), rfl, a, rfl, by omega, .int n, rfl, _, _, rfl, rfl, _, rfl, ite2 (fun hc => ?_) (fun hc => ?_)⟩
      · have hlt : a.length < n := by
          have := of_decide_eq_true hc
          omega
        obtain ⟨L, hL, aL, L1, L5⟩ := word_item wy w0 w6 wn
        refine ⟨(by show 6 ≤ sizeLine; decide), fun p np => ?_⟩
        have s1 : Same H' (upd H' p (.lst [V.str (S [97, 98]), .str (S [97, 97, 97, 97, 98]), .str (S [97, 98]), .str (S [98, 98, 98, 97]), .str (S []), .str (S [98])])) := same_new np
        have ep : (upd H' p (.lst [V.str (S [97, 98]), .str (S [97, 97, 97, 97, 98]), .str (S [97, 98]), .str (S [98, 98, 98, 97]), .str (S []), .str (S [98])])) p = some (.lst [V.str (S [97, 98]), .str (S [97, 97, 97, 97, 98]), .str (S [97, 98]), .str (S [98, 98, 98, 97]), .str (S []), .str (S [98])]) := upd_same
        refine ⟨.int wy, rfl, p, _, wy, .str (S L), rfl, rfl, SqL.of ep, hL, ?_⟩
        have kk1 := kk.trans (Step.same RR s1)
        have RR1 := RR.mono s1
        refine ⟨.str (S L), rfl, .ref r, rfl, .str (S L), rfl, L, rfl, by omega, r, L.length, rfl, RR1, by omega, b8k (by omega) (by omega), fun d H4 d0' dL k4 R4 => ?_⟩
        obtain ⟨j, hj⟩ : ∃ j : Nat, d = (j : Int) := ⟨d.toNat, by omega⟩
        subst hj
        have hjl : j < L.length := by omega
        have kk4 := kk1.trans k4
        refine ⟨L, j, L[j], rfl, rfl, by omega, List.getElem?_eq_getElem hjl, ?_⟩
        have aj : abs [L[j]] = true := abs_get aL (List.getElem?_eq_getElem hjl)
        refine ⟨.str (S a), rfl, .str (S [L[j]]), rfl, .ref r, rfl, r, 9, rfl, R4, by decide, b8k (by decide) (by decide), fun d9 H5 d90 d99 k5 R5 => ?_⟩
        obtain ⟨ee, hee, e1, e9⟩ := word_times wy d9 w0 w6 d90 d99
        refine ⟨1, d9, rfl, rfl, (by show 6 ≤ sizeLine; decide), fun p2 np2 => ?_⟩
        have s5 : Same H5 (upd H5 p2 (.lst [V.int 1, .int 1, .int (1 + d9), .int 1, .int 1, .int 1])) := same_new np2
        refine ⟨.int wy, rfl, p2, _, wy, .int (ee : Int), rfl, rfl, SqL.of upd_same, hee, ?_⟩
        refine ⟨[L[j]], ee, rfl, rfl, by omega, by omega, ?_, a, repN ee [L[j]], rfl, rfl, ?_, ?_⟩
        · rw [Int.toNat_natCast]; show ee * 1 ≤ 1000000; omega
        · rw [repN_length]; show a.length + ee * 1 ≤ 1000000; omega
        have hl : (a ++ repN ee [L[j]]).length = a.length + ee := by rw [List.length_append, repN_length]; show a.length + ee * 1 = _; omega
        refine ⟨⟨a ++ repN ee [L[j]], some (.str (S [L[j]])), rfl, by omega, by rw [abs_append, ha, abs_rep aj]; rfl, (kk4.trans k5).trans (Step.same R5 s5), R5.mono s5⟩, ?_⟩
        show n - (S (a ++ repN ee [L[j]])).length < n - (S a).length
        rw [SX.S_len, SX.S_len]
        omega
      · have hge : n ≤ a.length := by
          have : ¬ ((a.length : Int) < (n : Int)) := fun z => hc (decide_eq_true z)
          omega
        refine ⟨.ref r, rfl, .int n, rfl, n, 1, rfl, rfl, r, (n : Int) + 1, rfl, RR, by omega, b8k (by omega) (by omega), fun t H4 t0 tn k4 R4 => ?_⟩
        obtain ⟨j, hj⟩ : ∃ j : Nat, t = (j : Int) := ⟨t.toNat, by omega⟩
        subst hj
        refine ⟨.int wy, rfl, rfl, _, rfl, ite2 (fun _ => ?_) (fun _ => ?_)⟩
        · refine ⟨.str (S a), rfl, .int j, rfl, j, rfl, a, rfl, by omega, a.take j, [97], ?_, rfl, ?_, .str (S a), rfl, .int j, rfl, j, 1, rfl, rfl, (j : Int) + 1, rfl, a, rfl, by omega, a.take j ++ [97], a.drop (j + 1), rfl, ?_, ?_, .int n, rfl, n, rfl, _, rfl, ?_, ?_⟩
          · rw [cutL_to]
          · rw [List.length_take]; show min j a.length + 1 ≤ 1000000; omega
          · rw [show (j : Int) + 1 = ((j + 1 : Nat) : Int) by omega, cutL_from]
          · rw [List.length_append, List.length_take, List.length_drop]; show min j a.length + 1 + _ ≤ 1000000; omega
          · rw [List.length_append, List.length_append, List.length_take, List.length_drop]; show min j a.length + 1 + _ ≤ 1000000; omega
          rw [cutL_to]
          have hlen : ((a.take j ++ [97] ++ a.drop (j + 1)).take n).length = n := by
            rw [List.length_take, List.length_append, List.length_append, List.length_take, List.length_drop]
            show min n (min j a.length + 1 + (a.length - (j + 1))) = n
            omega
          exact q _ _ (by rw [hlen]; omega) (by rw [hlen]; omega) (abs_take (by rw [abs_append, abs_append, abs_take ha, abs_drop ha]; rfl) n) (kk.trans k4) R4
        · refine ⟨.str (S a), rfl, .int n, rfl, n, rfl, a, rfl, by omega, ?_⟩
          rw [cutL_to]
          have hlen : (a.take n).length = n := by rw [List.length_take]; omega
          exact q _ _ (by rw [hlen]; omega) (by rw [hlen]; omega) (abs_take ha n) (kk.trans k4) R4
    · obtain ⟨v, e1, z, e2, hz, w', e3, i, j, e4, e5, kb, e6, q'⟩ := h
      exact ⟨v, e1, z, e2, hz, w', e3, i, j, e4, e5, kb, e6, mm _ _ q'⟩

end
end K01
namespace K01
open PySem PySem.Spec PyProof.Rows L2 Vx
section
variable {P : Program} {w : World} {K : PySem.W.Frag} {mg : Str → Option Value} {base : Heap}
abbrev nine : List Nat := [65, 66, 99, 48, 45, 32, 10, 96, 63]
theorem ok_law_no_rows {f fD : Addr} {fd fdD : FuncData} {k : Nat} (F : Fun K "_law_no_rows" "_law_no_rows" st_law_no_rows f fd) (F_law_draw : Fun K "_law_draw" "_law_draw" st_law_draw fD fdD) (G_law_draw : FnOk P w K mg base CX0 1 fD fdD ["reel", "many"] spDraw)
    (b_law_draw : Binds K fdD ["reel", "many"] []) (g_law_draw : mg "_law_draw" = some (.ref fD)) (m_len : mg "len" = none) (m_list : mg "list" = none) (m_tuple : mg "tuple" = none) : FnOk P w K mg base CX0 (k + 2) f fd ["reel", "text"] (spNoRows K) := by
  refine F.ok sc_law_no_rows (fun vs H Q E h => ?_) (fun cdv A outer s H vs Q E hr h => ?_)
  · obtain ⟨r, a, rfl, _⟩ := h; rfl
  obtain ⟨r, a, rfl, R, hl, ha, q⟩ := h
  refine ⟨_, (pss_cons (ps_set (i := 2) sc_law_no_rows.nd rfl (Or.inr rfl) (pe_call G_law_draw (hr.mono (by omega)) (by rfl) g_law_draw F_law_draw.kp b_law_draw .nil pass0 (pa_cons (pv 0) (pa_cons (pe_op op_add (pe_callB call_len_tx (by rfl) m_len PySem.boot_len (pa_cons (pv 1) pa_nil)) pe_int) pa_nil))))
    (pss_cons (ps_setLc (i := 3) (own := [("sign", 4)]) rfl sc_law_no_rows.nd rfl rfl (sw_true rfl rfl rfl (by decide +kernel)) (pi_list (pe_lst (pa_cons pe_str (pa_cons pe_str (pa_cons pe_str (pa_cons pe_str (pa_cons pe_str (pa_cons pe_str (pa_cons pe_str (pa_cons pe_str (pa_cons pe_str pa_nil))))))))))) (blkOk_by (own := [("sign", 4)]) (N := N_law_no_rows) (sc := defScope st_law_no_rows) (by decide +kernel)) (fun _ _ _ _ _ => (pg_name (i := 4) sc_law_no_rows.nd rfl (Or.inl rfl))) (fun _ _ _ _ _ => pts_nil) (fun _ _ _ _ _ => (pe_op op_add_tx (pe_op op_add_tx (pe_slice sl_tx (pv 1) po_none (po_some (pv 2))) (pv 4)) (pe_slice sl_tx (pv 1) (po_some (pe_op op_add (pv 2) pe_int)) po_none))))
    (pss_cons (ps_set (i := 3) sc_law_no_rows.nd rfl (Or.inl rfl) (pe_op op_cat (pv 3) (pe_lst (pa_cons (pe_op op_add_tx (pv 1) (pe_op op_rep_str pe_str (pe_op op_sub pe_int (pe_callB call_len_tx (by rfl) m_len PySem.boot_len (pa_cons (pv 1) pa_nil))))) (pa_cons (pe_op op_rep_str pe_str pe_int) (pa_cons (pe_op op_add_tx (pv 1) pe_str) (pa_cons (pe_op op_add_tx pe_str (pv 1)) (pa_cons (pe_lst1 (pa_cons (pv 1) pa_nil)) (pa_cons (pe_tup (pa_cons (pv 1) pa_nil)) (pa_cons (pe_callTy (call_list_tx1 rfl) (by rfl) m_list (by decide +kernel) (pa_cons (pv 1) pa_nil)) pa_nil))))))))))
    (pss_one (ps_ret (pe_op op_cat1 (pv 3) (pe_lst (pa_cons pe_non (pa_cons pe_int (pa_cons pe_int (pa_cons pe_bl (pa_cons (pe_lst1 pa_nil) (pa_cons (pe_tup pa_nil) (pa_cons pe_dnewK (pa_cons (pe_disp (pps_cons (pv 1) pe_int pps_nil) (by rfl) (by rfl) (fun z => by cases z) (by decide)) (pa_cons (pe_callTy (call_tuple_tx rfl) (by rfl) m_tuple (by decide +kernel) (pa_cons (pv 1) pa_nil)) (pa_cons (pe_op op_pow pe_int pe_int) (pa_cons (pe_lst1 (pa_cons pe_str pa_nil)) (pa_cons pe_str pa_nil))))))))))))))))))), ?_⟩
  refine ⟨.ref r, rfl, .str (S a), rfl, a, rfl, by omega, a.length, 1, rfl, rfl, r, (a.length : Int) + 1, rfl, R, by omega, b8k (by omega) (by omega), fun d H1 d0 d1 k1 R1 => ?_⟩
  obtain ⟨j, hj⟩ : ∃ j : Nat, d = (j : Int) := ⟨d.toNat, by omega⟩
  subst hj
  refine ⟨(by show 9 ≤ sizeLine; decide), fun L nL => ?_⟩
  have eL : (upd H1 L (.lst (nine.map fun c => V.str (S [c])))) L = some (.lst (nine.map fun c => V.str (S [c]))) := upd_same
  have s1 : Same H1 (upd H1 L (.lst (nine.map fun c => V.str (S [c])))) := same_new nL
  have kk : Step r H (upd H1 L (.lst (nine.map fun c => V.str (S [c])))) := k1.trans (Step.same R1 s1)
  have R2 : Reel (upd H1 L (.lst (nine.map fun c => V.str (S [c])))) r := R1.mono s1
  have hX : ∃ H2, H2 = upd H1 L (.lst (nine.map fun c => V.str (S [c]))) := ⟨_, rfl⟩
  obtain ⟨H2, hX⟩ := hX
  rw [← hX] at eL kk R2
  refine ⟨L, rfl, ⟨_, SqL.of upd_same⟩, fun D nD => ?_⟩
  have nD2 : H2 D = none := by rw [hX]; exact nD
  have hD : ∀ o, upd H2 D o = upd (upd H1 L (.lst (nine.map fun c => V.str (S [c])))) D o := fun o => by rw [hX]
  refine lc_list (xs := nine.map fun c => V.str (S [c])) (fun i H' => Same H2 H' ∧ H' D = some (.lst ((nine.take i).map fun c => V.str (S (mix a j c)))))
    ⟨by rw [hX]; exact same_new nD, upd_same⟩ (fun i H' _ h => SqL.of (h.1 _ _ eL)) (fun i x H' hx h => ?_) (fun H' h => ?_)
  · obtain ⟨s2, eD⟩ := h
    have hi : i < nine.length := by
      have := (List.getElem?_eq_some_iff.mp hx).1
      rwa [List.length_map] at this
    obtain rfl : x = V.str (S [nine[i]]) := by
      rw [List.getElem?_map, List.getElem?_eq_getElem hi] at hx
      exact (Option.some.inj hx).symm
    refine ⟨rfl, .str (S a), rfl, .int j, rfl, j, rfl, a, rfl, by omega, .str (S [nine[i]]), rfl, a.take j, [nine[i]], ?_, rfl, ?_, .str (S a), rfl, .int j, rfl, j, 1, rfl, rfl, (j : Int) + 1, rfl, a, rfl, by omega, a.take j ++ [nine[i]], a.drop (j + 1), rfl, ?_, ?_, _, eD, ?_, Same.mut s2 nD2, ?_⟩
    · rw [cutL_to]
    · rw [List.length_take]; show min j a.length + 1 ≤ 1000000; omega
    · rw [show (j : Int) + 1 = ((j + 1 : Nat) : Int) by omega, cutL_from]
    · rw [List.length_append, List.length_take, List.length_drop]; show min j a.length + 1 + _ ≤ 1000000; omega
    · rw [List.length_map, List.length_take]; show min i 9 < sizeLine; unfold sizeLine; omega
    · rw [upd_same, List.take_add_one, List.getElem?_eq_getElem hi, List.map_append]; rfl
  · obtain ⟨s2, eD⟩ := h
    have e9 : nine.take (nine.map fun c => V.str (S [c])).length = nine := rfl
    rw [e9] at eD
    -- found + [..]
    refine ⟨.ref D, rfl, .str (S a), rfl, .str (S a), rfl, a, rfl, by omega, 201, (a.length : Int), rfl, rfl, [97], 201 - (a.length : Int), rfl, rfl, by omega, by omega, ?_, a, repN (201 - (a.length : Int)).toNat [97], rfl, rfl, ?_, [98], 4000, rfl, rfl, by decide, by decide, by decide, .str (S a), rfl, a, [32], rfl, rfl, ?_,
      .str (S a), rfl, [10], a, rfl, rfl, ?_, .str (S a), rfl, (by show 1 ≤ sizeLine; decide), fun l1 nl1 hl1 => ?_⟩
    · show _ * 1 ≤ _; omega
    · rw [repN_length]; show _ + _ * 1 ≤ _; omega
    · show _ + 1 ≤ _; omega
    · show 1 + _ ≤ _; omega
    have t1 : Same H' (upd H' l1 (.lst [.str (S a)])) := same_new nl1
    have f1 : (upd H' l1 (.lst [.str (S a)])) l1 = some (.lst [.str (S a)]) := upd_same
    generalize upd H' l1 (.lst [.str (S a)]) = Ha at t1 f1 ⊢
    refine ⟨.str (S a), rfl, (by show 1 ≤ sizeLine; decide), fun p1 np1 => ?_⟩
    have t2 : Same Ha (upd Ha p1 (.tup [.str (S a)])) := same_new np1
    have f2 : (upd Ha p1 (.tup [.str (S a)])) p1 = some (.tup [.str (S a)]) := upd_same
    generalize upd Ha p1 (.tup [.str (S a)]) = Hb at t2 f2 ⊢
    refine ⟨.str (S a), rfl, a, rfl, by omega, fun l2 nl2 hl2 => ?_⟩
    have t3 : Same Hb (upd Hb l2 (.lst (sg a))) := same_new nl2
    have f3 : (upd Hb l2 (.lst (sg a))) l2 = some (.lst (sg a)) := upd_same
    generalize upd Hb l2 (.lst (sg a)) = Hc at t3 f3 ⊢
    refine ⟨(by show 7 ≤ sizeLine; decide), fun L2 nL2 => ?_⟩
    have t4 : Same Hc (upd Hc L2 (.lst [V.str (S (a ++ repN (201 - (a.length : Int)).toNat [97])), V.str (S (repN (4000 : Int).toNat [98])), V.str (S (a ++ [32])), V.str (S ([10] ++ a)), V.ref l1, V.ref p1, V.ref l2])) := same_new nL2
    have f4 : (upd Hc L2 (.lst [V.str (S (a ++ repN (201 - (a.length : Int)).toNat [97])), V.str (S (repN (4000 : Int).toNat [98])), V.str (S (a ++ [32])), V.str (S ([10] ++ a)), V.ref l1, V.ref p1, V.ref l2])) L2 = some (.lst [V.str (S (a ++ repN (201 - (a.length : Int)).toNat [97])), V.str (S (repN (4000 : Int).toNat [98])), V.str (S (a ++ [32])), V.str (S ([10] ++ a)), V.ref l1, V.ref p1, V.ref l2]) := upd_same
    have f4D : (upd Hc L2 (.lst [V.str (S (a ++ repN (201 - (a.length : Int)).toNat [97])), V.str (S (repN (4000 : Int).toNat [98])), V.str (S (a ++ [32])), V.str (S ([10] ++ a)), V.ref l1, V.ref p1, V.ref l2])) D = some (.lst (nine.map fun c => V.str (S (mix a j c)))) := t4 _ _ (t3 _ _ (t2 _ _ (t1 _ _ eD)))
    refine ⟨D, L2, _, _, rfl, rfl, f4D, f4, (by show 9 + 7 ≤ sizeLine; decide), fun F nF => ?_⟩
    have t5 : Same H' (upd (upd Hc L2 (.lst [V.str (S (a ++ repN (201 - (a.length : Int)).toNat [97])), V.str (S (repN (4000 : Int).toNat [98])), V.str (S (a ++ [32])), V.str (S ([10] ++ a)), V.ref l1, V.ref p1, V.ref l2])) F (.lst ((nine.map fun c => V.str (S (mix a j c))) ++ [V.str (S (a ++ repN (201 - (a.length : Int)).toNat [97])), V.str (S (repN (4000 : Int).toNat [98])), V.str (S (a ++ [32])), V.str (S ([10] ++ a)), V.ref l1, V.ref p1, V.ref l2]))) :=
      (t1.trans (t2.trans (t3.trans t4))).trans (same_new nF)
    have f5 : (upd (upd Hc L2 (.lst [V.str (S (a ++ repN (201 - (a.length : Int)).toNat [97])), V.str (S (repN (4000 : Int).toNat [98])), V.str (S (a ++ [32])), V.str (S ([10] ++ a)), V.ref l1, V.ref p1, V.ref l2])) F (.lst ((nine.map fun c => V.str (S (mix a j c))) ++ [V.str (S (a ++ repN (201 - (a.length : Int)).toNat [97])), V.str (S (repN (4000 : Int).toNat [98])), V.str (S (a ++ [32])), V.str (S ([10] ++ a)), V.ref l1, V.ref p1, V.ref l2]))) F
      = some (.lst ((nine.map fun c => V.str (S (mix a j c))) ++ [V.str (S (a ++ repN (201 - (a.length : Int)).toNat [97])), V.str (S (repN (4000 : Int).toNat [98])), V.str (S (a ++ [32])), V.str (S ([10] ++ a)), V.ref l1, V.ref p1, V.ref l2])) := upd_same
    have t5c : Same Hc (upd (upd Hc L2 (.lst [V.str (S (a ++ repN (201 - (a.length : Int)).toNat [97])), V.str (S (repN (4000 : Int).toNat [98])), V.str (S (a ++ [32])), V.str (S ([10] ++ a)), V.ref l1, V.ref p1, V.ref l2])) F (.lst ((nine.map fun c => V.str (S (mix a j c))) ++ [V.str (S (a ++ repN (201 - (a.length : Int)).toNat [97])), V.str (S (repN (4000 : Int).toNat [98])), V.str (S (a ++ [32])), V.str (S ([10] ++ a)), V.ref l1, V.ref p1, V.ref l2]))) := t4.trans (same_new nF)
    have g1 := t5c _ _ (t3 _ _ (t2 _ _ f1))
    have g2 := t5c _ _ (t3 _ _ f2)
    have g3 := t5c _ _ f3
    refine ⟨.ref F, rfl, (by show 0 ≤ sizeLine; decide), fun e1 ne1 he1 => ?_⟩
    generalize upd (upd Hc L2 _) F _ = Hd at t5 f5 g1 g2 g3 ne1 ⊢
    clear t5c f4 f4D t4
    have u1 : Same Hd (upd Hd e1 (.lst [])) := same_new ne1
    have w1 : (upd Hd e1 (.lst [])) e1 = some (.lst []) := upd_same
    generalize upd Hd e1 (.lst []) = He at u1 w1 ⊢
    refine ⟨(by show 0 ≤ sizeLine; decide), fun e2 ne2 => ?_⟩
    have u2 : Same He (upd He e2 (.tup [])) := same_new ne2
    have w2 : (upd He e2 (.tup [])) e2 = some (.tup []) := upd_same
    generalize upd He e2 (.tup []) = Hf at u2 w2 ⊢
    refine fun d1 nd1 => ?_
    have u3 : Same Hf (upd Hf d1 (.dK [])) := same_new nd1
    have w3 : (upd Hf d1 (.dK [])) d1 = some (.dK []) := upd_same
    generalize upd Hf d1 (.dK []) = Hg at u3 w3 ⊢
    refine fun d2 nd2 => ?_
    refine ⟨.str (S a), rfl, upd_same, [(Sum.inr (S a), V.int 1)], rfl, (by show 1 ≤ 15; decide), ?_⟩
    rw [upd_upd, show mergeK [] [((Sum.inr (S a) : Key), V.int 1)] = [(Sum.inr (S a), V.int 1)] from rfl]
    have u4 : Same Hg (upd Hg d2 (.dK [(Sum.inr (S a), V.int 1)])) := same_new nd2
    have w4 : (upd Hg d2 (.dK [(Sum.inr (S a), V.int 1)])) d2 = some (.dK [(Sum.inr (S a), V.int 1)]) := upd_same
    generalize upd Hg d2 (.dK [(Sum.inr (S a), V.int 1)]) = Hh at u4 w4 ⊢
    refine ⟨.str (S a), rfl, a, rfl, by omega, fun p2 np2 => ?_⟩
    have u5 : Same Hh (upd Hh p2 (.tup (sg a))) := same_new np2
    have w5 : (upd Hh p2 (.tup (sg a))) p2 = some (.tup (sg a)) := upd_same
    generalize upd Hh p2 (.tup (sg a)) = Hi at u5 w5 ⊢
    refine ⟨10, 59, rfl, rfl, ⟨by decide, by decide, by decide⟩, (by show 1 ≤ sizeLine; decide), fun e3 ne3 he3 => ?_⟩
    have u6 : Same Hi (upd Hi e3 (.lst [.str (S [97])])) := same_new ne3
    have w6 : (upd Hi e3 (.lst [.str (S [97])])) e3 = some (.lst [.str (S [97])]) := upd_same
    refine ⟨(by show 12 ≤ sizeLine; decide), fun L3 nL3 => ?_⟩
    obtain ⟨Hj, hHj⟩ : ∃ X, X = upd Hi e3 (.lst [.str (S [97])]) := ⟨_, rfl⟩
    rw [← hHj] at u6 w6
    obtain ⟨HL, hHL⟩ : ∃ X, X = upd Hj L3 (.lst [V.non, .int 0, .int 1, .bl true, .ref e1, .ref e2, .ref d1, .ref d2, .ref p2, .int (10 ^ (59 : Int).toNat), .ref e3, .str (S [97, 98, 44])]) := ⟨_, rfl⟩
    have nL3' : Hj L3 = none := by rw [hHj]; exact nL3
    have sL : Same Hj HL := by rw [hHL]; exact same_new nL3'
    have eL3 : HL L3 = some (.lst [V.non, .int 0, .int 1, .bl true, .ref e1, .ref e2, .ref d1, .ref d2, .ref p2, .int (10 ^ (59 : Int).toNat), .ref e3, .str (S [97, 98, 44])]) := by rw [hHL]; exact upd_same
    have nine_t : Same Hd HL := u1.trans (u2.trans (u3.trans (u4.trans (u5.trans (u6.trans sL)))))
    refine ⟨F, L3, _, [V.non, .int 0, .int 1, .bl true, .ref e1, .ref e2, .ref d1, .ref d2, .ref p2, .int (10 ^ (59 : Int).toNat), .ref e3, .str (S [97, 98, 44])], rfl, rfl, by rw [hHL, hHj] at nine_t; exact nine_t _ _ f5, by rw [hHL, hHj] at eL3; exact eL3, (by show 9 + 7 + 12 ≤ sizeLine; decide), fun b nb0 hb => ?_⟩
    have nb : HL b = none := by rw [hHL, hHj]; exact nb0
    obtain ⟨Hz, hHz⟩ : ∃ X, X = upd HL b (.lst ((nine.map fun c => V.str (S (mix a j c))) ++ [V.str (S (a ++ repN (201 - (a.length : Int)).toNat [97])), V.str (S (repN (4000 : Int).toNat [98])), V.str (S (a ++ [32])), V.str (S ([10] ++ a)), V.ref l1, V.ref p1, V.ref l2] ++ [V.non, .int 0, .int 1, .bl true, .ref e1, .ref e2, .ref d1, .ref d2, .ref p2, .int (10 ^ (59 : Int).toNat), .ref e3, .str (S [97, 98, 44])])) := ⟨_, rfl⟩
    have sb : Same HL Hz := by rw [hHz]; exact same_new nb
    have eb : Hz b = some (.lst ((nine.map fun c => V.str (S (mix a j c))) ++ [V.str (S (a ++ repN (201 - (a.length : Int)).toNat [97])), V.str (S (repN (4000 : Int).toNat [98])), V.str (S (a ++ [32])), V.str (S ([10] ++ a)), V.ref l1, V.ref p1, V.ref l2] ++ [V.non, .int 0, .int 1, .bl true, .ref e1, .ref e2, .ref d1, .ref d2, .ref p2, .int (10 ^ (59 : Int).toNat), .ref e3, .str (S [97, 98, 44])])) := by rw [hHz]; exact upd_same
    have keepL : Step r H HL := kk.trans (Step.same R2 (s2.trans (t5.trans nine_t)))
    have RL : Reel HL r := R2.mono (s2.trans (t5.trans nine_t))
    have hbn : H b = none := Keep.none keepL.keep (RL.ne nb) nb
    have z6 : Same Hj Hz := sL.trans sb
    have z5 : Same Hi Hz := u6.trans z6
    have z4 : Same Hh Hz := u5.trans z5
    have z3 : Same Hg Hz := u4.trans z4
    have z2 : Same Hf Hz := u3.trans z3
    have z1 : Same He Hz := u2.trans z2
    have z0 : Same Hd Hz := u1.trans z1
    have hlt := abs_lt ha
    have fa : ∀ {t : List Nat}, (∀ c ∈ t, c < 1000) → t.length ≤ 4100 → Fine K Hz (.str (S t)) (.str (S t)) := fun h1 h2 => fine_txt h1 h2
    have lt_app : ∀ {t u : List Nat}, (∀ c ∈ t, c < 1000) → (∀ c ∈ u, c < 1000) → ∀ c ∈ t ++ u, c < 1000 := fun h1 h2 c hc => (List.mem_append.mp hc).elim (h1 c) (h2 c)
    have lt_rep : ∀ (n x : Nat), x < 1000 → ∀ c ∈ repN n [x], c < 1000 := fun n x hx c hc => by rw [List.mem_singleton.mp (mem_repN hc)]; exact hx
    have one : DxAll K Hz [.str (S a)] [.str (S a)] := .cons (.str _) .nil
    have one1 : PyData.leavesShortAll 100 [.str (S a)] = true := by simp only [PyData.leavesShortAll, (fa hlt (by omega)).lv, Bool.and_self]
    have one2 : PyData.depthAll [.str (S a)] ≤ 9 := by simp [PyData.depthAll, PyData.depth]
    have one3 : PyData.weightAll [.str (S a)] ≤ 4099 := by
      have : (PyData.str (S a)).weight = a.length := SX.S_len a
      simp only [PyData.weightAll, this]; omega
    obtain ⟨sd, sd1, sd2, sd3, sd4, sd5⟩ := fine_signs (K := K) (H := Hz) hlt
    have fB : Fines K Hz [V.str (S (a ++ repN (201 - (a.length : Int)).toNat [97])), V.str (S (repN (4000 : Int).toNat [98])), V.str (S (a ++ [32])), V.str (S ([10] ++ a)), V.ref l1, V.ref p1, V.ref l2]
        [.str (S (a ++ repN (201 - (a.length : Int)).toNat [97])), .str (S (repN (4000 : Int).toNat [98])), .str (S (a ++ [32])), .str (S ([10] ++ a)), .list [.str (S a)], .tuple [.str (S a)], .list sd] := by
      refine .cons (fa (lt_app hlt (lt_rep _ _ (by decide))) ?_) (.cons (fa (lt_rep _ _ (by decide)) ?_) (.cons (fa (lt_app hlt (by decide)) ?_) (.cons (fa (lt_app (by decide) hlt) ?_)
        (.cons (fine_lst (z0 _ _ g1) hl1 one (by simp [PyData.showableAll, PyData.showable]) one1 one2 one3) (.cons (fine_tup (z0 _ _ g2) one (by simp [PyData.showableAll, PyData.showable]) one1 one2 one3)
        (.cons (fine_lst (z0 _ _ g3) hl2 sd1 sd2 sd3 (by omega) (by omega)) .nil))))))
      · rw [List.length_append, repN_length]; show _ + _ * 1 ≤ _; omega
      · rw [repN_length]; decide
      · rw [List.length_append]; show _ + 1 ≤ _; omega
      · rw [List.length_append]; show 1 + _ ≤ _; omega
    have fC : Fines K Hz [V.non, .int 0, .int 1, .bl true, .ref e1, .ref e2, .ref d1, .ref d2, .ref p2, .int (10 ^ (59 : Int).toNat), .ref e3, .str (S [97, 98, 44])]
        [.none, .int 0, .int 1, .bool true, .list [], .tuple [], .dict [], .dict [(.str (S a), .int 1)], .tuple sd, .int (10 ^ (59 : Int).toNat), .list [.str (S [97])], .str (S [97, 98, 44])] := by
      refine .cons ⟨.non, by simp [PyData.showable], by simp [PyData.leavesShort], by simp [PyData.depth], by simp [PyData.weight]⟩
        (.cons ⟨.int _, by decide +kernel, by decide +kernel, by simp [PyData.depth], by decide +kernel⟩ (.cons ⟨.int _, by decide +kernel, by decide +kernel, by simp [PyData.depth], by decide +kernel⟩
        (.cons ⟨.bl _, by simp [PyData.showable], by simp [PyData.leavesShort], by simp [PyData.depth], by simp [PyData.weight]⟩
        (.cons (fine_lst (z1 _ _ w1) he1 .nil (by simp [PyData.showableAll]) (by simp [PyData.leavesShortAll]) (by simp [PyData.depthAll]) (by simp [PyData.weightAll]))
        (.cons (fine_tup (z2 _ _ w2) .nil (by simp [PyData.showableAll]) (by simp [PyData.leavesShortAll]) (by simp [PyData.depthAll]) (by simp [PyData.weightAll]))
        (.cons ⟨.dic (z3 _ _ w3) .nil .nil, by simp [PyData.showable, PyData.showableKv], by simp [PyData.leavesShort, PyData.leavesShortKv], by simp [PyData.depth, PyData.depthKv], by simp [PyData.weight, PyData.weightKv]⟩
        (.cons ⟨.dic (z4 _ _ w4) (.cons (.str _) .nil) (.cons (.int _) .nil), ?_, ?_, ?_, ?_⟩
        (.cons (fine_tup (z5 _ _ w5) sd1 sd2 sd3 (by omega) (by omega))
        (.cons ⟨.int _, by decide +kernel, by decide +kernel, by simp [PyData.depth], by decide +kernel⟩
        (.cons (fine_lst (z6 _ _ w6) he3 (.cons (.str _) .nil) (by simp [PyData.showableAll, PyData.showable]) (by decide +kernel) (by simp [PyData.depthAll, PyData.depth]) (by decide +kernel))
        (.cons (fa (by decide) (by decide)) .nil)))))))))))
      · have h1 : (PyData.int 1).showable = true := by decide +kernel
        simp only [PyData.showable, PyData.showableKv, Bool.true_and, Bool.and_true] at h1 ⊢
        exact h1
      · have h1 : decide ((PyData.int 1).shown.length ≤ 100) = true := by decide +kernel
        have h2 := (fa hlt (by omega)).lv
        simp only [PyData.leavesShort, PyData.leavesShortKv, h1, Bool.and_true] at h2 ⊢
        exact h2
      · simp [PyData.depth, PyData.depthKv]
      · show (PyData.str (S a)).weight + (PyData.int 1).weight + 2 + 0 ≤ 4100
        rw [show (PyData.str (S a)).weight = a.length from SX.S_len a, show (PyData.int 1).weight = 1 from rfl]
        omega
    have len : ((nine.map fun c => V.str (S (mix a j c))) ++ [V.str (S (a ++ repN (201 - (a.length : Int)).toNat [97])), V.str (S (repN (4000 : Int).toNat [98])), V.str (S (a ++ [32])), V.str (S ([10] ++ a)), V.ref l1, V.ref p1, V.ref l2] ++ [V.non, .int 0, .int 1, .bl true, .ref e1, .ref e2, .ref d1, .ref d2, .ref p2, .int (10 ^ (59 : Int).toNat), .ref e3, .str (S [97, 98, 44])]).length = 28 := rfl
    have bad : ∀ x ∈ (nine.map fun c => V.str (S (mix a j c))) ++ [V.str (S (a ++ repN (201 - (a.length : Int)).toNat [97])), V.str (S (repN (4000 : Int).toNat [98])), V.str (S (a ++ [32])), V.str (S ([10] ++ a)), V.ref l1, V.ref p1, V.ref l2] ++ [V.non, .int 0, .int 1, .bl true, .ref e1, .ref e2, .ref d1, .ref d2, .ref p2, .int (10 ^ (59 : Int).toNat), .ref e3, .str (S [97, 98, 44])], BadRow K Hz x := by
      intro x hx
      rcases List.mem_append.mp hx with hx | hx
      · rcases List.mem_append.mp hx with hx | hx
        · obtain ⟨c, hc, rfl⟩ := List.mem_map.mp hx
          have hne : c ≠ 97 ∧ c ≠ 98 := (show ∀ c ∈ nine, c ≠ 97 ∧ c ≠ 98 by decide) c hc
          exact .inl ⟨_, rfl, by have := mix_len a j c hl; omega, not_abs (mix_mem a j c) hne.1 hne.2⟩
        · simp only [List.mem_cons, List.not_mem_nil, or_false] at hx
          rcases hx with rfl | rfl | rfl | rfl | rfl | rfl | rfl
          · exact .inl ⟨_, rfl, by rw [List.length_append, repN_length]; show _ + _ * 1 ≤ _; omega, rowB_long (by rw [List.length_append, repN_length]; show 200 < _ + _ * 1; omega)⟩
          · exact .inl ⟨_, rfl, by rw [repN_length]; decide, rowB_long (by rw [repN_length]; decide)⟩
          · exact .inl ⟨_, rfl, by rw [List.length_append]; show _ + 1 ≤ _; omega, not_abs (c := 32) (List.mem_append_right _ List.mem_cons_self) (by decide) (by decide)⟩
          · exact .inl ⟨_, rfl, by rw [List.length_append]; show 1 + _ ≤ _; omega, not_abs (c := 10) (List.mem_append_left _ List.mem_cons_self) (by decide) (by decide)⟩
          · exact .inr (noStr_ty (.lst (z0 _ _ g1)) (by decide +kernel))
          · exact .inr (noStr_ty (.tup (z0 _ _ g2)) (by decide +kernel))
          · exact .inr (noStr_ty (.lst (z0 _ _ g3)) (by decide +kernel))
      · simp only [List.mem_cons, List.not_mem_nil, or_false] at hx
        rcases hx with rfl | rfl | rfl | rfl | rfl | rfl | rfl | rfl | rfl | rfl | rfl | rfl
        · exact .inr (noStr_ty .non (by decide +kernel))
        · exact .inr (noStr_ty (.int _) (by decide +kernel))
        · exact .inr (noStr_ty (.int _) (by decide +kernel))
        · exact .inr (noStr_ty (.bl _) (by decide +kernel))
        · exact .inr (noStr_ty (.lst (z1 _ _ w1)) (by decide +kernel))
        · exact .inr (noStr_ty (.tup (z2 _ _ w2)) (by decide +kernel))
        · exact .inr (noStr_ty (.dK (z3 _ _ w3)) (by decide +kernel))
        · exact .inr (noStr_ty (.dK (z4 _ _ w4)) (by decide +kernel))
        · exact .inr (noStr_ty (.tup (z5 _ _ w5)) (by decide +kernel))
        · exact .inr (noStr_ty (.int _) (by decide +kernel))
        · exact .inr (noStr_ty (.lst (z6 _ _ w6)) (by decide +kernel))
        · exact .inl ⟨_, rfl, by decide, not_abs (c := 44) (by decide) (by decide) (by decide)⟩
    have fin := q b _ _ Hz (keepL.trans (Step.same RL sb)) (RL.mono sb) hbn eb hb ((fines_mix ha hl j (cs := nine) (by decide)).append fB |>.append fC) bad len
    rw [hHz, hHL, hHj] at fin
    exact fin

end
end K01
namespace K01
open PySem PySem.Spec PyProof.Rows L2 Vx
section
variable {P : Program} {w : World} {K : PySem.W.Frag} {mg : Str → Option Value} {base : Heap}
def signs : List Nat := [32, 33, 34, 35, 36, 38, 39, 40, 41, 42, 43, 44, 45, 46, 47, 48, 49, 50, 51, 52, 53, 54, 55, 56, 57, 58, 59, 60, 61, 62, 63, 64, 65, 66, 67, 68, 69, 70, 71, 72, 73, 74, 75, 76, 77, 78, 79, 80, 81, 82, 83, 84, 85, 86, 87, 88, 89, 90, 91, 92, 93, 94, 95, 96, 99, 100, 101, 102, 103, 104, 105, 106, 107, 108, 109, 110, 111, 112, 113, 114, 115, 116, 117, 118, 119, 120, 121, 122, 123, 124, 125, 126, 10]
def spLaw (K : PySem.W.Frag) : Sp := fun vs H Q _ => ∃ (a : Addr) (ns : List Int), vs = [.ref a] ∧ SqL K H a (ns.map V.int) ∧ ns.length ≤ 63 ∧ ∀ H', Q (.bl true) H'
theorem ok_law {f f1 f2 f3 f4 : Addr} {fd fd1 fd2 fd3 fd4 : FuncData} (F : Fun K "law" "law" st_law f fd)
    (F_law_reel : Fun K "_law_reel" "_law_reel" st_law_reel f1 fd1) (G_law_reel : FnOk P w K mg base CX0 1 f1 fd1 ["script"] (spReel K)) (b_law_reel : Binds K fd1 ["script"] []) (g_law_reel : mg "_law_reel" = some (.ref f1))
    (F_law_word : Fun K "_law_word" "_law_word" st_law_word f2 fd2) (G_law_word : FnOk P w K mg base CX0 2 f2 fd2 ["reel", "low", "high"] spWord) (b_law_word : Binds K fd2 ["reel", "low", "high"] []) (g_law_word : mg "_law_word" = some (.ref f2))
    (F_law_no_rows : Fun K "_law_no_rows" "_law_no_rows" st_law_no_rows f3 fd3) (G_law_no_rows : FnOk P w K mg base CX0 2 f3 fd3 ["reel", "text"] (spNoRows K)) (b_law_no_rows : Binds K fd3 ["reel", "text"] []) (g_law_no_rows : mg "_law_no_rows" = some (.ref f3))
    (F_is_row : Fun K "is_row" "is_row" st_is_row f4 fd4) (G_is_row : FnOk P w K mg base CX0 1 f4 fd4 ["value"] (spIsRow K)) (b_is_row : Binds K fd4 ["value"] []) (g_is_row : mg "is_row" = some (.ref f4))
    (m_range : mg "range" = none) (m_min : mg "min" = none) (m_len : mg "len" = none) (m_repr : mg "repr" = none) : FnG P w K mg base CX0 3 f fd ["script"] (spLaw K) := by
  refine okG F sc_law (fun vs H Q E h => ?_) (fun cdv A outer s H vs Q E hgd hr h => ?_)
  · obtain ⟨a, ns, rfl, _⟩ := h; rfl
  obtain ⟨a, ns, rfl, hS, hlen, q⟩ := h
  refine ⟨_, (pss_cons (ps_set (i := 1) sc_law.nd rfl (Or.inl rfl) (pe_call G_law_reel (hr.mono (by omega)) (by rfl) g_law_reel F_law_reel.kp b_law_reel .nil pass0 (pa_cons (pv 0) pa_nil)))
    (pss_cons (ps_for PassesOwn.never rfl (pi_range1 rfl m_range (pa_cons (pe_op op_add pe_int (pe_callB (call_min2 rfl) (by rfl) m_min (by decide +kernel) (pa_cons (pe_callB call_len_seq (by rfl) m_len PySem.boot_len (pa_cons (pv 0) pa_nil)) (pa_cons pe_int pa_nil)))) pa_nil)) (pg_name (i := 2) sc_law.nd rfl (Or.inl rfl)) (pss_cons (ps_set (i := 3) sc_law.nd rfl (Or.inl rfl) (pe_call G_law_word (hr.mono (by omega)) (by rfl) g_law_word F_law_word.kp b_law_word .nil pass0 (pa_cons (pv 1) (pa_cons pe_int (pa_cons (pe_ix ix_list (pe_lst (pa_cons pe_int (pa_cons pe_int pa_nil))) (pe_op op_mod (pv 2) pe_int) (fun _ _ => rfl)) pa_nil)))))
    (pss_cons (ps_set (i := 4) sc_law.nd rfl (Or.inl rfl) (pe_lst1 (pa_cons (pv 3) (pa_cons (pe_revS (pv 3)) (pa_cons (pe_slice sl_tx (pv 3) po_none (po_some pe_int)) (pa_cons (pe_slice sl_tx (pe_op op_rep_str (pv 3) pe_int) po_none (po_some pe_int)) (pa_cons (pe_op op_rep_str pe_str pe_int) (pa_cons pe_str pa_nil))))))))
    (pss_cons (ps_set (i := 5) sc_law.nd rfl (Or.inl rfl) (pe_call G_law_no_rows (hr.mono (by omega)) (by rfl) g_law_no_rows F_law_no_rows.kp b_law_no_rows .nil pass0 (pa_cons (pv 1) (pa_cons (pv 3) pa_nil))))
    (pss_cons (ps_set (i := 6) sc_law.nd rfl (Or.inl rfl) (pe_callB (call_reprX hgd hr.units) (by rfl) m_repr (by decide +kernel) (pa_cons (pe_lst1 (pa_cons (pv 4) (pa_cons (pv 5) pa_nil))) pa_nil)))
    (pss_cons (ps_if (pt_cmpR (op_neD hr.units) (pe_lc (own := [("value", 9)]) rfl sc_law.nd (pi_list (pv 4)) (blkOk_by (own := [("value", 9)]) (N := N_law) (sc := defScope st_law) (by decide +kernel)) (fun _ _ _ _ _ => (pg_name (i := 9) sc_law.nd rfl (Or.inl rfl))) (fun _ _ _ _ _ => (pts_one (pt_cmpR op_isnot_bl (pe_call G_is_row (hr.mono (by omega)) (by rfl) g_is_row F_is_row.kp b_is_row .nil pass0 (pa_cons (pv 9) pa_nil)) pe_bl (nomark _)))) (fun _ _ _ _ _ => (pv 9))) (pe_lst pa_nil) (nomark _)) (pss_one (ps_ret pe_bl)) pss_nil)
    (pss_one (ps_if (PW.pt (pw_or (pt_cmpR (op_neD hr.units) (pe_lc (own := [("value", 9)]) rfl sc_law.nd (pi_list (pv 5)) (blkOk_by (own := [("value", 9)]) (N := N_law) (sc := defScope st_law) (by decide +kernel)) (fun _ _ _ _ _ => (pg_name (i := 9) sc_law.nd rfl (Or.inl rfl))) (fun _ _ _ _ _ => (pts_one (pt_cmpR op_isnot_bl (pe_call G_is_row (hr.mono (by omega)) (by rfl) g_is_row F_is_row.kp b_is_row .nil pass0 (pa_cons (pv 9) pa_nil)) pe_bl (nomark _)))) (fun _ _ _ _ _ => (pv 9))) (pe_lst pa_nil) (nomark _)) (pw_or1 (pt_cmpR op_ne (pe_callB (call_reprX hgd hr.units) (by rfl) m_repr (by decide +kernel) (pa_cons (pe_lst1 (pa_cons (pv 4) (pa_cons (pv 5) pa_nil))) pa_nil)) (pv 6) (nomark _))))) (pss_one (ps_ret pe_bl)) pss_nil))))))))
    (pss_cons (ps_set (i := 7) sc_law.nd rfl (Or.inl rfl) pe_str)
    (pss_cons (ps_if (pt_cmpR (op_neD hr.units) (pe_lc (own := [("sign", 8)]) rfl sc_law.nd (pi_str (pv 7)) (blkOk_by (own := [("sign", 8)]) (N := N_law) (sc := defScope st_law) (by decide +kernel)) (fun _ _ _ _ _ => (pg_name (i := 8) sc_law.nd rfl (Or.inl rfl))) (fun _ _ _ _ _ => (pts_one (PW.pt (pw_or (pt_val (pe_call G_is_row (hr.mono (by omega)) (by rfl) g_is_row F_is_row.kp b_is_row .nil pass0 (pa_cons (pv 8) pa_nil))) (pw_or (pt_val (pe_call G_is_row (hr.mono (by omega)) (by rfl) g_is_row F_is_row.kp b_is_row .nil pass0 (pa_cons (pe_op op_add_tx pe_str (pv 8)) pa_nil))) (pw_or1 (pt_val (pe_call G_is_row (hr.mono (by omega)) (by rfl) g_is_row F_is_row.kp b_is_row .nil pass0 (pa_cons (pe_op op_add_tx (pv 8) pe_str) pa_nil))))))))) (fun _ _ _ _ _ => (pv 8))) (pe_lst pa_nil) (nomark _)) (pss_one (ps_ret pe_bl)) pss_nil)
    (pss_one (ps_ret (pe_and (pe_cmpR op_is_bl (pe_call G_is_row (hr.mono (by omega)) (by rfl) g_is_row F_is_row.kp b_is_row .nil pass0 (pa_cons pe_str pa_nil)) pe_bl (nomark _)) (pe_and (pe_cmpR op_is_bl (pe_call G_is_row (hr.mono (by omega)) (by rfl) g_is_row F_is_row.kp b_is_row .nil pass0 (pa_cons pe_str pa_nil)) pe_bl (nomark _)) (pe_one (pe_cmpR op_is_bl (pe_call G_is_row (hr.mono (by omega)) (by rfl) g_is_row F_is_row.kp b_is_row .nil pass0 (pa_cons (pe_op op_rep_str pe_str pe_int) pa_nil)) pe_bl (nomark _))))))))))), ?_⟩
  refine ⟨.ref a, rfl, a, ns, rfl, hS, hlen, fun r H1 s1 nr R1 => ?_⟩
  refine ⟨.ref a, rfl, a, ns.map V.int, rfl, .inl (s1.seq hS), _, _, rfl, 2, _, rfl, rfl, ?_⟩
  have hmany : ∃ n : Nat, (2 : Int) + (if (6 : Int) < ((ns.map V.int).length : Int) then (6 : Int) else ((ns.map V.int).length : Int)) = (n : Int) ∧ n ≤ 8 := by
    by_cases h : (6 : Int) < ((ns.map V.int).length : Int)
    · rw [if_pos h]; exact ⟨8, rfl, Nat.le_refl _⟩
    · rw [if_neg h]; exact ⟨2 + (ns.map V.int).length, by omega, by omega⟩
  obtain ⟨many, hm, hm8⟩ := hmany
  refine ⟨(many : Int), by rw [← hm], by omega, by omega, for_range (lo := 0) (n := many) (fun i σ H' => Reel H' r ∧ ∃ y2 y3 y4 y5 y6, σ = [some (.ref a), some (.ref r), y2, y3, y4, y5, y6, none, none, none]) ⟨R1, none, none, none, none, none, rfl⟩ (fun i σ H' hi h => ?_) (fun σ H' h => ?_)⟩
  · obtain ⟨RR, y2, y3, y4, y5, y6, rfl⟩ := h
    -- text = _law_word(reel, 0, [200, 9][k % 2])
    refine ⟨.ref r, rfl, (by show 2 ≤ sizeLine; decide), fun p np => ?_⟩
    have s2 : Same H' (upd H' p (.lst [.int 200, .int 9])) := same_new np
    have hhi : ∃ hi : Int, atI [V.int 200, .int 9] ((0 + (i : Int)) % 2) = some (.int hi) ∧ 0 ≤ hi ∧ hi ≤ 200 := by
      have : (0 + (i : Int)) % 2 = 0 ∨ (0 + (i : Int)) % 2 = 1 := by omega
      rcases this with h | h
      · exact ⟨200, at_of (j := 0) h rfl, by decide, by decide⟩
      · exact ⟨9, at_of (j := 1) h rfl, by decide, by decide⟩
    obtain ⟨hi', hat, h0', h200⟩ := hhi
    refine ⟨.int (0 + (i : Int)), rfl, 0 + (i : Int), 2, rfl, rfl, (by show (0 : Int) < 2; decide), p, _, _, .int hi', rfl, rfl, SqL.of upd_same, hat, r, 0, hi', rfl, RR.mono s2, Int.le_refl _, h0', by omega, fun t H2 _ lt ab k2 R2 => ?_⟩
    have t200 : t.length ≤ 200 := by omega
    -- good
    refine ⟨.str (S t), rfl, .str (S t), rfl, t, rfl, by unfold sizeLine; omega, .str (S t), rfl, 1, rfl, t, rfl, by omega, .str (S t), rfl, t, 200, rfl, rfl, by decide, by decide, ?_, 200, rfl, repN (200 : Int).toNat t, rfl, ?_, [97], 200, rfl, rfl, by decide, by decide, by decide, (by show 6 ≤ sizeLine; decide), fun gd ngd hgd => ?_⟩
    · show 200 * t.length ≤ _; omega
    · rw [repN_length]; show 200 * t.length ≤ _; omega
    obtain ⟨Hg, hHg⟩ : ∃ X, X = upd H2 gd (.lst [.str (S t), .str (S t.reverse), .str (S (cutL t none (some 1))), .str (S (cutL (repN (200 : Int).toNat t) none (some 200))), .str (S (repN (200 : Int).toNat [97])), .str (S [])]) := ⟨_, rfl⟩
    have sg2 : Same H2 Hg := by rw [hHg]; exact same_new ngd
    have eg : Hg gd = some (.lst [.str (S t), .str (S t.reverse), .str (S (cutL t none (some 1))), .str (S (cutL (repN (200 : Int).toNat t) none (some 200))), .str (S (repN (200 : Int).toNat [97])), .str (S [])]) := by rw [hHg]; exact upd_same
    -- bad
    refine ⟨.ref r, rfl, .str (S t), rfl, r, t, rfl, by rw [hHg] at sg2; exact R2.mono sg2, t200, ab, fun b xs ds H4 k4 R4 nb eb hb fb bad len => ?_⟩
    have k4' : Vx.Step r Hg H4 := by rw [hHg]; exact k4
    have gr : gd ≠ r := R2.ne ngd
    obtain ⟨gl, hgl⟩ : ∃ gl : List (List Nat), gl = [t, t.reverse, t.take 1, (repN 200 t).take 200, repN 200 [97], []] := ⟨_, rfl⟩
    have hrow : ∀ g ∈ gl, abs g = true ∧ g.length ≤ 200 := by
      rw [hgl]
      intro g hg
      simp only [List.mem_cons, List.not_mem_nil, or_false] at hg
      rcases hg with rfl | rfl | rfl | rfl | rfl | rfl
      · exact ⟨ab, t200⟩
      · exact ⟨by rw [abs_reverse]; exact ab, by rw [List.length_reverse]; exact t200⟩
      · exact ⟨abs_take ab 1, by rw [List.length_take]; omega⟩
      · exact ⟨abs_take (abs_rep ab _) _, by rw [List.length_take]; omega⟩
      · exact ⟨by decide +kernel, by decide +kernel⟩
      · exact ⟨rfl, by decide⟩
    have eg' : Hg gd = some (.lst (gl.map fun g => V.str (S g))) := by
      rw [eg, hgl]
      have c1 : cutL t none (some 1) = t.take 1 := cutL_to t 1
      have c2 : cutL (repN (200 : Int).toNat t) none (some 200) = (repN 200 t).take 200 := cutL_to _ 200
      rw [c1, c2]; rfl
    have eg4 : H4 gd = some (.lst (gl.map fun g => V.str (S g))) := k4'.keep _ _ gr eg'
    have fg : Fines K H4 (gl.map fun g => V.str (S g)) (gl.map fun g => PyData.str (S g)) := fines_txts hrow
    have gl6 : (gl.map fun g => V.str (S g)).length ≤ 6 := by rw [hgl]; exact Nat.le_refl 6
    obtain ⟨gds, hgds⟩ : ∃ gds, gds = gl.map fun g => PyData.str (S g) := ⟨_, rfl⟩
    rw [← hgds] at fg
    -- kept = repr([good, bad])
    refine ⟨.ref gd, rfl, .ref b, rfl, (by show 2 ≤ sizeLine; decide), fun p2 np2 hp2 => ?_⟩
    have s5 : Same H4 (upd H4 p2 (.lst [.ref gd, .ref b])) := same_new np2
    have e5 : (upd H4 p2 (.lst [.ref gd, .ref b])) p2 = some (.lst [.ref gd, .ref b]) := upd_same
    generalize upd H4 p2 (.lst [.ref gd, .ref b]) = H5 at s5 e5 ⊢
    obtain ⟨d1, d2, d3, d4⟩ := rep_two (s5 _ _ eg4) hgd (fg.same s5) gl6 (s5 _ _ eb) hb (fb.same s5) (by omega) e5 hp2
    refine ⟨.ref p2, _, rfl, d1, d2, d3, d4, ?_⟩
    generalize hz : (PyData.list [.list gds, .list ds]).shown = z
    -- the rows
    refine ⟨.ref gd, rfl, gd, rfl, ⟨_, SqL.of (s5 _ _ eg4)⟩, fun D nD => ?_⟩
    refine lc_list (xs := gl.map fun g => V.str (S g)) (fun i H' => Same H5 H' ∧ H' D = some (.lst [])) ⟨same_new nD, upd_same⟩ (fun i H' _ h => SqL.of (h.1 _ _ (s5 _ _ eg4))) (fun i x H' hx h => ?_) (fun H6 h => ?_)
    · obtain ⟨g, hg, rfl⟩ := List.mem_map.mp (List.mem_of_getElem? hx)
      have hr2 := hrow g hg
      refine ⟨rfl, .str (S g), rfl, .str (S g), rfl, .inl ⟨g, rfl, by omega, _, _, rfl, rfl, _, rfl, ?_⟩⟩
      rw [rowB_of hr2]
      exact h
    · obtain ⟨s6, eD⟩ := h
      refine ⟨(by show 0 ≤ sizeLine; decide), fun e ne => ?_⟩
      have s7 : Same H6 (upd H6 e (.lst [])) := same_new ne
      have ee : (upd H6 e (.lst [])) e = some (.lst []) := upd_same
      generalize upd H6 e (.lst []) = H7 at s7 ee ⊢
      refine ⟨.list [], .list [], .lst (SqL.of (s7 _ _ eD)) .nil, .lst (SqL.of ee) .nil, shaped_nil, shaped_nil, false, by rw [eqv_nil]; rfl, ?_⟩
      have s47 : Same H4 H7 := s5.trans (s6.trans s7)
      have bad7 : ∀ x ∈ xs, BadRow K H7 x := fun x hx => (bad x hx).same s47
      -- what is no row
      refine ⟨.ref b, rfl, b, rfl, ⟨_, SqL.of (s47 _ _ eb)⟩, fun D2 nD2 => ?_⟩
      refine lc_list (xs := xs) (fun i H' => Same H7 H' ∧ H' D2 = some (.lst [])) ⟨same_new nD2, upd_same⟩ (fun i H' _ h => SqL.of (h.1 _ _ (s47 _ _ eb))) (fun i x H' hx h => ?_) (fun H8 h => ?_)
      · have hb2 := (bad7 x (List.mem_of_getElem? hx)).same h.1
        rcases hb2 with ⟨g, rfl, hgl, hgr⟩ | ⟨ty, h1, h2⟩
        · refine ⟨rfl, .str (S g), rfl, .str (S g), rfl, .inl ⟨g, rfl, hgl, _, _, rfl, rfl, _, rfl, ?_⟩⟩
          rw [hgr]
          exact h
        · refine ⟨rfl, x, rfl, x, rfl, .inr ⟨ty, h1, h2, _, _, rfl, rfl, _, rfl, ?_⟩⟩
          exact h
      · obtain ⟨s8, eD2⟩ := h
        refine ⟨(by show 0 ≤ sizeLine; decide), fun e2 ne2 => ?_⟩
        have s9 : Same H8 (upd H8 e2 (.lst [])) := same_new ne2
        have ee2 : (upd H8 e2 (.lst [])) e2 = some (.lst []) := upd_same
        generalize upd H8 e2 (.lst []) = H9 at s9 ee2 ⊢
        refine ⟨.list [], .list [], .lst (SqL.of (s9 _ _ eD2)) .nil, .lst (SqL.of ee2) .nil, shaped_nil, shaped_nil, false, by rw [eqv_nil]; rfl, ?_⟩
        have s49 : Same H4 H9 := s47.trans (s8.trans s9)
        refine ⟨.ref gd, rfl, .ref b, rfl, (by show 2 ≤ sizeLine; decide), fun p3 np3 hp3 => ?_⟩
        have s10 : Same H9 (upd H9 p3 (.lst [.ref gd, .ref b])) := same_new np3
        have e10 : (upd H9 p3 (.lst [.ref gd, .ref b])) p3 = some (.lst [.ref gd, .ref b]) := upd_same
        generalize upd H9 p3 (.lst [.ref gd, .ref b]) = H10 at s10 e10 ⊢
        have s410 : Same H4 H10 := s49.trans s10
        obtain ⟨c1, c2, c3, c4⟩ := rep_two (s410 _ _ eg4) hgd (fg.same s410) gl6 (s410 _ _ eb) hb (fb.same s410) (by omega) e10 hp3
        refine ⟨.ref p3, _, rfl, c1, c2, c3, c4, .str z, rfl, rfl, false, by rw [hz, decide_eq_true rfl]; rfl, ?_⟩
        exact ⟨R4.mono s410, _, _, _, _, _, rfl⟩
  · obtain ⟨RR, y2, y3, y4, y5, y6, rfl⟩ := h
    -- the signs
    refine ⟨.str (S signs), rfl, S signs, rfl, fun D nD => ?_⟩
    refine lc_txt (a := signs) (fun i H'' => Same H' H'' ∧ H'' D = some (.lst [])) ⟨same_new nD, upd_same⟩ (fun i c H'' hc h => ?_) (fun H'' h => ?_)
    · have hcm := List.mem_of_getElem? hc
      have hne : c ≠ 97 ∧ c ≠ 98 := (show ∀ c ∈ signs, c ≠ 97 ∧ c ≠ 98 by decide +kernel) c hcm
      have r1 : rowB [c] = false := not_abs List.mem_cons_self hne.1 hne.2
      have r2 : rowB ([97] ++ [c]) = false := not_abs (List.mem_append_right _ List.mem_cons_self) hne.1 hne.2
      have r3 : rowB ([c] ++ [98]) = false := not_abs (List.mem_append_left _ List.mem_cons_self) hne.1 hne.2
      refine ⟨rfl, .str (S [c]), rfl, .str (S [c]), rfl, .inl ⟨[c], rfl, by show 1 ≤ 100000; decide, false, by rw [r1], ?_⟩⟩
      refine ⟨.str (S [c]), rfl, [97], [c], rfl, rfl, by show 1 + 1 ≤ 1000000; decide, .str (S ([97] ++ [c])), rfl, .inl ⟨[97] ++ [c], rfl, by show 2 ≤ 100000; decide, false, by rw [r2], ?_⟩⟩
      refine ⟨.str (S [c]), rfl, [c], [98], rfl, rfl, by show 1 + 1 ≤ 1000000; decide, .str (S ([c] ++ [98])), rfl, .inl ⟨[c] ++ [98], rfl, by show 2 ≤ 100000; decide, false, by rw [r3], ?_⟩⟩
      exact h
    · obtain ⟨s2, eD⟩ := h
      refine ⟨(by show 0 ≤ sizeLine; decide), fun e ne => ?_⟩
      have s7 : Same H'' (upd H'' e (.lst [])) := same_new ne
      have ee : (upd H'' e (.lst [])) e = some (.lst []) := upd_same
      generalize upd H'' e (.lst []) = H7 at s7 ee ⊢
      refine ⟨.list [], .list [], .lst (SqL.of (s7 _ _ eD)) .nil, .lst (SqL.of ee) .nil, shaped_nil, shaped_nil, false, by rw [eqv_nil]; rfl, ?_⟩
      refine ⟨.str (S [97]), rfl, .inl ⟨[97], rfl, by decide, true, true, rfl, rfl, true, rfl, ?_⟩⟩
      refine ⟨.str (S [98]), rfl, .inl ⟨[98], rfl, by decide, true, true, rfl, rfl, true, rfl, ?_⟩⟩
      refine ⟨[97, 98], 100, rfl, rfl, by decide, by decide, by decide, .str (S (repN 100 [97, 98])), rfl, .inl ⟨repN 100 [97, 98], rfl, by decide +kernel, true, true, by rw [show rowB (repN 100 [97, 98]) = true by decide +kernel], rfl, ?_⟩⟩
      exact q _

end
end K01
namespace K01
open PySem PySem.Spec PyProof.Rows L2 Vx
theorem all_mk {l : PySem.W.OpenLaw} {w : World} {K : PySem.W.Frag} {h : Heap} {mg : Str → Option Value} {fa : Addr} (X : K.In h) (G : h.Ns mainGlobals mg) (hfa : mg "law" = some (.ref fa))
    {ais_row : Addr} {od_is_row an_is_row : Option Addr} {sl_is_row : Array (Option Value)} {oc_is_row kV_is_row dc_is_row pm_is_row cd_is_row ct_is_row : Value}
    (n_is_row : PySem.W.nsIn K mainGlobals "is_row" = some (some (.ref ais_row))) (l_is_row : K.lookup ais_row = some ⟨oc_is_row, od_is_row, .func (PySem.W.fnOf "is_row" "is_row" (defArgs st_is_row) (defBody st_is_row) (defScope st_is_row) .none kV_is_row dc_is_row pm_is_row an_is_row cd_is_row ct_is_row), sl_is_row⟩) (c_is_row : PySem.W.codeIn K cd_is_row "is_row" = true) (k_is_row : PySem.W.keepIn K (.ref ais_row) = true)
    {alaw_reel : Addr} {od_law_reel an_law_reel : Option Addr} {sl_law_reel : Array (Option Value)} {oc_law_reel kV_law_reel dc_law_reel pm_law_reel cd_law_reel ct_law_reel : Value}
    (n_law_reel : PySem.W.nsIn K mainGlobals "_law_reel" = some (some (.ref alaw_reel))) (l_law_reel : K.lookup alaw_reel = some ⟨oc_law_reel, od_law_reel, .func (PySem.W.fnOf "_law_reel" "_law_reel" (defArgs st_law_reel) (defBody st_law_reel) (defScope st_law_reel) .none kV_law_reel dc_law_reel pm_law_reel an_law_reel cd_law_reel ct_law_reel), sl_law_reel⟩) (c_law_reel : PySem.W.codeIn K cd_law_reel "_law_reel" = true) (k_law_reel : PySem.W.keepIn K (.ref alaw_reel) = true)
    {alaw_draw : Addr} {od_law_draw an_law_draw : Option Addr} {sl_law_draw : Array (Option Value)} {oc_law_draw kV_law_draw dc_law_draw pm_law_draw cd_law_draw ct_law_draw : Value}
    (n_law_draw : PySem.W.nsIn K mainGlobals "_law_draw" = some (some (.ref alaw_draw))) (l_law_draw : K.lookup alaw_draw = some ⟨oc_law_draw, od_law_draw, .func (PySem.W.fnOf "_law_draw" "_law_draw" (defArgs st_law_draw) (defBody st_law_draw) (defScope st_law_draw) .none kV_law_draw dc_law_draw pm_law_draw an_law_draw cd_law_draw ct_law_draw), sl_law_draw⟩) (c_law_draw : PySem.W.codeIn K cd_law_draw "_law_draw" = true) (k_law_draw : PySem.W.keepIn K (.ref alaw_draw) = true)
    {alaw_word : Addr} {od_law_word an_law_word : Option Addr} {sl_law_word : Array (Option Value)} {oc_law_word kV_law_word dc_law_word pm_law_word cd_law_word ct_law_word : Value}
    (n_law_word : PySem.W.nsIn K mainGlobals "_law_word" = some (some (.ref alaw_word))) (l_law_word : K.lookup alaw_word = some ⟨oc_law_word, od_law_word, .func (PySem.W.fnOf "_law_word" "_law_word" (defArgs st_law_word) (defBody st_law_word) (defScope st_law_word) .none kV_law_word dc_law_word pm_law_word an_law_word cd_law_word ct_law_word), sl_law_word⟩) (c_law_word : PySem.W.codeIn K cd_law_word "_law_word" = true) (k_law_word : PySem.W.keepIn K (.ref alaw_word) = true)
    {alaw_no_rows : Addr} {od_law_no_rows an_law_no_rows : Option Addr} {sl_law_no_rows : Array (Option Value)} {oc_law_no_rows kV_law_no_rows dc_law_no_rows pm_law_no_rows cd_law_no_rows ct_law_no_rows : Value}
    (n_law_no_rows : PySem.W.nsIn K mainGlobals "_law_no_rows" = some (some (.ref alaw_no_rows))) (l_law_no_rows : K.lookup alaw_no_rows = some ⟨oc_law_no_rows, od_law_no_rows, .func (PySem.W.fnOf "_law_no_rows" "_law_no_rows" (defArgs st_law_no_rows) (defBody st_law_no_rows) (defScope st_law_no_rows) .none kV_law_no_rows dc_law_no_rows pm_law_no_rows an_law_no_rows cd_law_no_rows ct_law_no_rows), sl_law_no_rows⟩) (c_law_no_rows : PySem.W.codeIn K cd_law_no_rows "_law_no_rows" = true) (k_law_no_rows : PySem.W.keepIn K (.ref alaw_no_rows) = true)
    {alaw : Addr} {od_law an_law : Option Addr} {sl_law : Array (Option Value)} {oc_law kV_law dc_law pm_law cd_law ct_law : Value}
    (n_law : PySem.W.nsIn K mainGlobals "law" = some (some (.ref alaw))) (l_law : K.lookup alaw = some ⟨oc_law, od_law, .func (PySem.W.fnOf "law" "law" (defArgs st_law) (defBody st_law) (defScope st_law) .none kV_law dc_law pm_law an_law cd_law ct_law), sl_law⟩) (c_law : PySem.W.codeIn K cd_law "law" = true) (k_law : PySem.W.keepIn K (.ref alaw) = true)
    (z_int : PySem.W.nsIn K mainGlobals "int" = some none)
    (z_isinstance : PySem.W.nsIn K mainGlobals "isinstance" = some none)
    (z_len : PySem.W.nsIn K mainGlobals "len" = some none)
    (z_list : PySem.W.nsIn K mainGlobals "list" = some none)
    (z_min : PySem.W.nsIn K mainGlobals "min" = some none)
    (z_range : PySem.W.nsIn K mainGlobals "range" = some none)
    (z_repr : PySem.W.nsIn K mainGlobals "repr" = some none)
    (z_str : PySem.W.nsIn K mainGlobals "str" = some none)
    (z_tuple : PySem.W.nsIn K mainGlobals "tuple" = some none)
    {t_MOST_LETTERS : Tok} (y_MOST_LETTERS : PySem.W.nsIn K mainGlobals "MOST_LETTERS" = some (some (.int 200 t_MOST_LETTERS)))
    : ∃ fd : FuncData, (∀ (s : Shared) (v : Value), BindsTo s fd ⟨[v], []⟩ [("script", v)]) ∧ ∀ base : Heap, K.In base → base.Ns mainGlobals mg → FnG l.prog w K mg base CX0 3 fa fd ["script"] (spLaw K) := by
  have e := hfa.symm.trans (PySem.W.mg_of X G n_law)
  cases e
  have F_is_row := fun_mk (st := st_is_row) l_is_row c_is_row k_is_row
  have b_is_row := F_is_row.binds (ps := ["value"]) fun _ _ _ _ _ _ us hl => match us, hl with | [_], _ => rfl
  have g_is_row := PySem.W.mg_of X G n_is_row
  have F_law_reel := fun_mk (st := st_law_reel) l_law_reel c_law_reel k_law_reel
  have b_law_reel := F_law_reel.binds (ps := ["script"]) fun _ _ _ _ _ _ us hl => match us, hl with | [_], _ => rfl
  have g_law_reel := PySem.W.mg_of X G n_law_reel
  have F_law_draw := fun_mk (st := st_law_draw) l_law_draw c_law_draw k_law_draw
  have b_law_draw := F_law_draw.binds (ps := ["reel", "many"]) fun _ _ _ _ _ _ us hl => match us, hl with | [_, _], _ => rfl
  have g_law_draw := PySem.W.mg_of X G n_law_draw
  have F_law_word := fun_mk (st := st_law_word) l_law_word c_law_word k_law_word
  have b_law_word := F_law_word.binds (ps := ["reel", "low", "high"]) fun _ _ _ _ _ _ us hl => match us, hl with | [_, _, _], _ => rfl
  have g_law_word := PySem.W.mg_of X G n_law_word
  have F_law_no_rows := fun_mk (st := st_law_no_rows) l_law_no_rows c_law_no_rows k_law_no_rows
  have b_law_no_rows := F_law_no_rows.binds (ps := ["reel", "text"]) fun _ _ _ _ _ _ us hl => match us, hl with | [_, _], _ => rfl
  have g_law_no_rows := PySem.W.mg_of X G n_law_no_rows
  have F_law := fun_mk (st := st_law) l_law c_law k_law
  have m_int := PySem.W.mg_none_of X G z_int
  have m_isinstance := PySem.W.mg_none_of X G z_isinstance
  have m_len := PySem.W.mg_none_of X G z_len
  have m_list := PySem.W.mg_none_of X G z_list
  have m_min := PySem.W.mg_none_of X G z_min
  have m_range := PySem.W.mg_none_of X G z_range
  have m_repr := PySem.W.mg_none_of X G z_repr
  have m_str := PySem.W.mg_none_of X G z_str
  have m_tuple := PySem.W.mg_none_of X G z_tuple
  have g_MOST_LETTERS := PySem.W.mg_of X G y_MOST_LETTERS
  refine ⟨PySem.W.fnOf "law" "law" (defArgs st_law) (defBody st_law) (defScope st_law) .none kV_law dc_law pm_law an_law cd_law ct_law, fun s v => .of_eq rfl, fun base _ _ => ?_⟩
  have G_is_row : FnOk l.prog w K mg base CX0 1 _ _ ["value"] ((spIsRow K)) := ok_is_row F_is_row m_isinstance m_str m_len g_MOST_LETTERS
  have G_law_reel : FnOk l.prog w K mg base CX0 1 _ _ ["script"] ((spReel K)) := ok_law_reel F_law_reel
  have G_law_draw : FnOk l.prog w K mg base CX0 1 _ _ ["reel", "many"] (spDraw) := ok_law_draw F_law_draw m_int m_len
  have G_law_word : FnOk l.prog w K mg base CX0 2 _ _ ["reel", "low", "high"] (spWord) := ok_law_word F_law_word F_law_draw G_law_draw b_law_draw g_law_draw m_range m_len
  have G_law_no_rows : FnOk l.prog w K mg base CX0 2 _ _ ["reel", "text"] ((spNoRows K)) := ok_law_no_rows F_law_no_rows F_law_draw G_law_draw b_law_draw g_law_draw m_len m_list m_tuple
  exact ok_law F_law F_law_reel G_law_reel b_law_reel g_law_reel F_law_word G_law_word b_law_word g_law_word F_law_no_rows G_law_no_rows b_law_no_rows g_law_no_rows F_is_row G_is_row b_is_row g_is_row m_range m_min m_len m_repr
end K01
open PySem PySem.W PyProof.Rows
set_option maxHeartbeats 0 in
theorem PySem.Challenge.cw_paircounts_k01_rows_judged_holds : PySem.Challenge.rw_paircounts_k01_rows_judged.Holds := by
  w_on; o_law; k_head; (case hw => w_witness2)
  k_fill
  refine Vx.walkG (l := PySem.Challenge.rw_paircounts_k01_rows_judged) (n := 63) (k := 3) (x := "script") (CX := fun _ => L2.CX0) (sp := fun w => K01.spLaw _) rfl (by decide) rfl ⟨rfl, by decide, by decide⟩ (fun w h Y => PySem.W.kIn_of Y) ?F (fun _ _ a ns hl hS => ⟨a, ns, rfl, hS, hl, fun _ => rfl⟩) (fun _ _ _ _ _ h => h)
  case F =>
    intro w mg fa h KX G hmg
    refine' K01.all_mk KX G hmg ?n_is_row ?l_is_row ?c_is_row ?k_is_row ?n_law_reel ?l_law_reel ?c_law_reel ?k_law_reel ?n_law_draw ?l_law_draw ?c_law_draw ?k_law_draw ?n_law_word ?l_law_word ?c_law_word ?k_law_word ?n_law_no_rows ?l_law_no_rows ?c_law_no_rows ?k_law_no_rows ?n_law ?l_law ?c_law ?k_law ?z_int ?z_isinstance ?z_len ?z_list ?z_min ?z_range ?z_repr ?z_str ?z_tuple ?y_MOST_LETTERS
    (case n_is_row => k_is); (case l_is_row => k_is); (case c_is_row => k_is); (case k_is_row => k_is); (case n_law_reel => k_is); (case l_law_reel => k_is); (case c_law_reel => k_is); (case k_law_reel => k_is); (case n_law_draw => k_is); (case l_law_draw => k_is); (case c_law_draw => k_is); (case k_law_draw => k_is); (case n_law_word => k_is); (case l_law_word => k_is); (case c_law_word => k_is); (case k_law_word => k_is); (case n_law_no_rows => k_is); (case l_law_no_rows => k_is); (case c_law_no_rows => k_is); (case k_law_no_rows => k_is); (case n_law => k_is); (case l_law => k_is); (case c_law => k_is); (case k_law => k_is); (case z_int => k_is); (case z_isinstance => k_is); (case z_len => k_is); (case z_list => k_is); (case z_min => k_is); (case z_range => k_is); (case z_repr => k_is); (case z_str => k_is); (case z_tuple => k_is); (case y_MOST_LETTERS => k_is)
