import PyProof.Rows.All
import Wide.All
import OpenK.AllK
import Wide.FinOn
import HandS.Base
import HandS.Call
import HandS.List
import HandS.Comp
import HandS.Ends
import HandS.Text
import HandS.Exc
import HandS.Words
import PyProof.ReprRoads
import HandS.Iter
import HandS.Dict
import HandS.IsInst
import HandS.Conv
import HandS.Codes
import HandS.Wide
import PyProof.ListStr
import PyProof.TupleCall
import PyProof.StrLawsTight
import HandS.Style
import HandS.ForMost
import HandS.TupLe
import PyProof.ReprLen
import KE.GoesMore
import KE.GoesEnum
import HandS.Walk
import PyProof.EnumMake
import HandS.Property
import HandS.ClsMeth
import HandS.More
import HandS.SlotsOwn
import KE.KOpsOwn
import PyProof.InstEq
import OpenK.KMake
import HandS.SortInts
import PyProof.CollectStr
import PyProof.Rows.SortKeyStr
import KE.KRevSl
import KE.KDictZip
import KE.KDictItemsList
import HandS.ListItems
import HandS.SortRule
import PySem.Challenge.RW_paircounts_k14_rows_after_double_swaps
set_option Elab.async false
set_option linter.all false
set_option maxRecDepth 100000
set_option maxHeartbeats 4000000
set_option exponentiation.threshold 10000
namespace Vx
open PySem PySem.Spec PyProof.Rows L2

/-! defs that are entered where no repr is under way -/
structure FnG (P : Program) (w : World) (K : PySem.W.Frag) (mg : Str → Option Value) (base : Heap) (CX : CXT) (k : Nat) (f : Addr) (fd : FuncData) (ps : List Str) (sp : Sp) : Prop where
  len : ∀ vs H Q E, sp vs H Q E → vs.length = ps.length
  run : ∀ (A : Around) (outer : List Env) (s : Shared) (H : Hp) (args : Args) (us : List Value) (vs : List V) (Q : VK) (E : XK), A.guards = some [] → Room k A →
    Env0 P w K mg base A outer s H → BindsTo s fd args (ps.zip us) → Vals vs us → sp vs H Q E → codeAny (model P w) A (.call (.ref f) args) (CR CX outer P w H s Q E) s

section
variable {P : Program} {w : World} {K : PySem.W.Frag} {mg : Str → Option Value} {base : Heap} {CX : CXT} {k : Nat} {f : Addr} {fd : FuncData} {ps : List Str} {sp : Sp}
theorem FnG.of (F : FnOk P w K mg base CX k f fd ps sp) : FnG P w K mg base CX k f fd ps sp := ⟨F.len, fun A outer s H args us vs Q E _ => F.run A outer s H args us vs Q E⟩
theorem FnG.mono {j : Nat} (F : FnG P w K mg base CX j f fd ps sp) (h : j ≤ k) : FnG P w K mg base CX k f fd ps sp :=
  ⟨F.len, fun A outer s H args us vs Q E hg hr => F.run A outer s H args us vs Q E hg (hr.mono h)⟩
end

/-- a def by its body, the guards told -/
theorem fnG_of {CX : CXT} {P : Program} {w : World} {K : PySem.W.Frag} {mg : Str → Option Value} {base : Heap} {k : Nat} {f : Addr} {name qual : Str} {params : Arguments} {body : List Stmt} {scope : Scope} {dV kV doc pm cdv ct oc : Value} {an od : Option Addr}
    {osl : Array (Option Value)} {N ps : List Str} {sp : Sp} (found : K.lookup f = some ⟨oc, od, .func (PySem.W.fnOf name qual params body scope dV kV doc pm an cdv ct), osl⟩) (code : PySem.W.codeIn K cdv qual = true) (S : FnScope N ps scope)
    (len : ∀ vs H Q E, sp vs H Q E → vs.length = ps.length)
    (walk : ∀ (A : Around) (outer : List Env) (s : Shared) (H : Hp) (vs : List V) (Q : VK) (E : XK), A.guards = some [] → Room k (A.deeper (envOfC qual scope s.heap.objs.size f cdv)) → sp vs H Q E →
      ∃ t, PSs (cxOf CX P w K mg base N qual scope f cdv A outer s H E) body t ∧ t { nx := fun _ H' => Q .non H', rt := Q } (start N vs) H) :
    FnG P w K mg base CX (k + 1) f (PySem.W.fnOf name qual params body scope dV kV doc pm an cdv ct) ps sp := by
  constructor
  · exact len
  intro A outer s H args us vs Q E guards room e0 bound r asked
  have many := len vs H Q E asked
  have inK : K.In s.heap := e0.mod.kin.keeps fun b o q => (e0.bs b o q).1
  have unlimited : s.heap.NoLimit := e0.mod.nolimit.keeps fun b o q => (e0.bs b o q).1
  have kinds : ∀ y ∈ ps.zip us, scope.names.lookup y.1 = some .local ∨ (scope.names.lookup y.1 = some .cell ∧ ((cellsFrom (s.heap.objs.size + 1) scope.names []).lookup y.1).isSome = true) := by
    rintro ⟨n, v⟩ within
    rcases S.par n (List.of_mem_zip within).1 with z | z
    · exact Or.inl z
    · exact Or.inr ⟨z, PySem.W.cellsFrom_some _ _ _ (Or.inl z)⟩
  refine codeAny_call_function room.depth (inK _ _ found) rfl S.co S.gen rfl (PySem.W.codeRec_of inK code) (bound _ _ _ _ (wpAny_newFunctionEnv_cells S.kind kinds ?_))
  intro env isEnv s1 entered
  subst isEnv
  refine And.intro (unlimited.keeps entered.toInCall.keep) (codeAny_func ?_)
  obtain ⟨t, derived, reads⟩ := walk A outer s H vs Q E guards (room.deeper _) asked
  have I0 : Inv (cxOf CX P w K mg base N qual scope f cdv A outer s H E) [] (start N vs) H s1 := inv_start S room.hd e0 many r entered
  refine wpAny_mono (derived.run [] s1 (start N vs) H _ I0 reads) ?_ (fun _ _ z => z)
  intro flow s' ended
  cases flow with
  | ret u =>
    obtain ⟨v, σ', H', J, rv, q⟩ := ended
    exact ⟨v, H', J.os, J.bare, J.base, J.hok, rv, q⟩
  | next =>
    obtain ⟨σ', H', J, q⟩ := ended
    exact ⟨V.non, H', J.os, J.bare, J.base, J.hok, rfl, q⟩
  | brk => exact (show False from ended.choose_spec.choose_spec.2).elim
  | cont => exact (show False from ended.choose_spec.choose_spec.2).elim

/-- a def of the text, the guards told; what it raises leaves it -/
theorem okGX {P : Program} {w : World} {K : PySem.W.Frag} {mg : Str → Option Value} {base : Heap} {CX : CXT} {x qual : Str} {st : Stmt} {f : Addr} {fd : FuncData} {N ps : List Str} {k : Nat} {sp : Sp} (F : Fun K x qual st f fd) (S : FnScope N ps (defScope st))
    (len : ∀ vs H Q E, sp vs H Q E → vs.length = ps.length)
    (walk : ∀ (cdv : Value) (A : Around) (outer : List Env) (s : Shared) (H : Hp) (vs : List V) (Q : VK) (E : XK), A.guards = some [] → Room k (A.deeper (envOfC qual (defScope st) s.heap.objs.size f cdv)) → sp vs H Q E →
      ∃ t, PSs (cxOf CX P w K mg base N qual (defScope st) f cdv A outer s H E) (defBody st) t ∧ t { nx := fun _ H' => Q .non H', rt := Q } (start N vs) H) : FnG P w K mg base CX (k + 1) f fd ps sp := by
  obtain ⟨oc, od, kV, doc, pm, an, cdv, ct, osl, rfl, found, code⟩ := F.ex
  exact fnG_of found code S len fun A outer s H vs Q E hg hr asked => walk cdv A outer s H vs Q E hg hr asked
/-- a def of the text, the guards told; nothing is raised -/
theorem okG {P : Program} {w : World} {K : PySem.W.Frag} {mg : Str → Option Value} {base : Heap} {x qual : Str} {st : Stmt} {f : Addr} {fd : FuncData} {N ps : List Str} {k : Nat} {sp : Sp} (F : Fun K x qual st f fd) (S : FnScope N ps (defScope st))
    (len : ∀ vs H Q E, sp vs H Q E → vs.length = ps.length)
    (walk : ∀ (cdv : Value) (A : Around) (outer : List Env) (s : Shared) (H : Hp) (vs : List V) (Q : VK) (E : XK), A.guards = some [] → Room k (A.deeper (envOfC qual (defScope st) s.heap.objs.size f cdv)) → sp vs H Q E →
      ∃ t, PSs (cxOf CX0 P w K mg base N qual (defScope st) f cdv A outer s H E).nox (defBody st) t ∧ t { nx := fun _ H' => Q .non H', rt := Q } (start N vs) H) : FnG P w K mg base CX0 (k + 1) f fd ps sp :=
  okGX F S len fun cdv A outer s H vs Q E hg hr asked => by
    obtain ⟨t, derived, reads⟩ := walk cdv A outer s H vs Q E hg hr asked
    exact ⟨t, derived.nox, reads⟩

section
variable {X : Cx} {CX : CXT} {k : Nat} {f : Addr} {fd : FuncData} {ps : List Str} {sp : Sp} {dvs : List V} {ds : List Value} {E : XK} {x : Str} {p pos : Pos} {e : Expr} {es : List Expr} {t : TA}
theorem goG {pins : List (Addr × Obj)} {σ : L2.St} {H : Hp} {s : Shared} {Q : VK} {us : List Value} {vs : List V} (F : FnG X.prog X.w X.K X.mg X.base CX k f fd ps sp) (hg : X.A.guards = some []) (hr : Room k X.A) (hb : Binds X.K fd ps ds) (hd : Vals dvs ds) (hx : Passes CX X E)
    (I : Inv X pins σ H s) (r : Vals vs us) (h : sp (vs ++ dvs) H Q E) : wpAny (model X.prog X.w) X.A (call (.ref f) us) (EP X pins σ Q) X.xe s := by
  have all : Vals (vs ++ dvs) (us ++ ds) := Vals.append r hd
  have many : (us ++ ds).length = ps.length := (Vals.length all).symm.trans (F.len _ _ _ _ h)
  apply wpAny_call
  refine codeAny_mono (F.run X.A X.stack s H ⟨us, []⟩ (us ++ ds) (vs ++ dvs) Q E hg hr I.env0 (hb s us I.kIn many) all h) ?_
  intro res s' ended
  rcases res with er | fl
  · exact hx pins σ H s er s' I ended
  · cases fl with
    | ret u => exact I.after ended
    | next => exact (show False from ended).elim
    | brk => exact (show False from ended).elim
    | cont => exact (show False from ended).elim
theorem pe_callG (F : FnG X.prog X.w X.K X.mg X.base CX k f fd ps sp) (hgd : X.A.guards = some []) (hr : Room k X.A) (hg : Gl X x) (hm : X.mg x = some (.ref f)) (hk : PySem.W.keepIn X.K (.ref f) = true) (hb : Binds X.K fd ps ds) (hd : Vals dvs ds) (hx : Passes CX X E)
    (ha : PA X (e :: es) t) (hdb : (x == ("__debug__" : Str)) = false := by decide) (he : starEach (e :: es) X.env = (false, eval e X.env) :: starEach es X.env := by rfl) (hpl : (backTo pos (starEach es X.env)).any (·.1) = false := by rfl) :
    PE X (.Call (.Name x p) (e :: es) [] pos) (tCall sp dvs E t) :=
  ⟨fun pins s σ H Q I h => wpAny_Call_Name_kw (ld_glob I hg hm (PySem.W.callWith_K (h₀ := X.base) I.ok.mod.kin hk
    (thn (ha.run pos pins s σ H _ I h) fun us s1 ⟨vs, H1, I1, r, q⟩ => ⟨I1.kIn, goG F hgd hr hb hd hx I1 r q⟩) he hpl) hdb)⟩
end
end Vx
namespace Vx
open PySem PySem.Spec PyProof.Rows L2
abbrev S := SX.S

theorem foldl_app (l : List (List Nat)) : ∀ acc : Array Nat, (l.map List.toArray).foldl (· ++ ·) acc = (acc.toList ++ l.flatten).toArray := by
  induction l with
  | nil => intro acc; simp
  | cons x r ih => intro acc; rw [List.map_cons, List.foldl_cons, ih]; simp
def repN (n : Nat) (a : List Nat) : List Nat := (List.replicate n a).flatten
theorem repN_zero (a : List Nat) : repN 0 a = [] := rfl
theorem repN_succ (n : Nat) (a : List Nat) : repN (n + 1) a = a ++ repN n a := by unfold repN; rw [List.replicate_succ, List.flatten_cons]
theorem repN_length (n : Nat) (a : List Nat) : (repN n a).length = n * a.length := by
  induction n with
  | zero => simp [repN]
  | succ n ih => rw [repN_succ, List.length_append, ih, Nat.succ_mul]; omega
theorem repN_one (a : List Nat) : repN 1 a = a := by rw [repN_succ, repN_zero, List.append_nil]
theorem repN_nil (n : Nat) : repN n [] = [] := by
  induction n with
  | zero => rfl
  | succ n ih => rw [repN_succ, ih]; rfl
theorem mem_repN {n : Nat} {a : List Nat} {c : Nat} (h : c ∈ repN n a) : c ∈ a := by
  induction n with
  | zero => simp [repN] at h
  | succ n ih =>
    rw [repN_succ] at h
    rcases List.mem_append.mp h with h | h
    · exact h
    · exact ih h
theorem mul_S (a : List Nat) (n : Nat) : (⟨(List.replicate n (S a).cps).foldl (· ++ ·) #[]⟩ : Str) = S (repN n a) := by
  have e : (List.replicate n (S a).cps) = (List.replicate n a).map List.toArray := by rw [List.map_replicate]
  rw [e, foldl_app]; rfl

section
variable {X : Cx}
/-- text * n -/
theorem op_rep_str : OpR X (binaryOp .Mult) (fun x y H Q => ∃ (a : List Nat) (i : Int), x = .str (S a) ∧ y = .int i ∧ i < 2 ^ 40 ∧ -(2 ^ 40) < i ∧ i.toNat * a.length ≤ 1000000 ∧ Q (.str (S (repN i.toNat a))) H) := by
  intro pins s σ H x y v u Q I rx ry h
  obtain ⟨a, i, rfl, rfl, h1, h2, h3, q⟩ := h
  obtain ⟨t, rfl⟩ := rx
  obtain ⟨t', rfl⟩ := ry
  have hl : (S a).length = a.length := SX.S_len a
  refine PySem.P.mul_str ?_ ?_ ?_ ?_
  · rw [decide_eq_false (by omega), decide_eq_false (by omega)]; first | done | rfl
  · intro hn _ hc
    have hp : 0 < i := by omega
    have : ((S a).length : Int) * i ≤ 1000000 := by
      rw [hl]
      have e : (i.toNat : Int) = i := Int.toNat_of_nonneg (by omega)
      have : ((i.toNat * a.length : Nat) : Int) ≤ 1000000 := by omega
      rw [Int.natCast_mul, e, Int.mul_comm] at this
      exact this
    have h4 : ((S a).length : Int) ≤ (2 ^ 63 - 1) / i := by
      rw [Int.le_ediv_iff_mul_le hp]
      omega
    omega
  · intro _ _
    unfold Builtin.Str.tooLong
    rw [hl, Nat.mul_comm]
    exact decide_eq_false (by unfold sizeLine; omega)
  · by_cases c1 : i < 1
    · rw [if_pos c1]
      have e : i.toNat = 0 := by omega
      rw [e, repN_zero] at q
      exact ⟨by decide, .str _, H, I.tok _, ⟨_, rfl⟩, q⟩
    · rw [if_neg c1]
      by_cases c2 : (i == 1 || (S a).length == 0) = true
      · rw [if_pos c2]
        have e : repN i.toNat a = a := by
          rcases Bool.or_eq_true _ _ ▸ c2 with c | c
          · have : i = 1 := by simpa using c
            rw [this]; exact repN_one a
          · have : a.length = 0 := by rw [hl] at c; simpa using c
            have : a = [] := List.length_eq_zero_iff.mp this
            rw [this]; exact repN_nil _
        rw [e] at q
        exact ⟨.str _, H, I, ⟨t, rfl⟩, q⟩
      · rw [if_neg c2, mul_S]
        refine ⟨?_, .str _, H, I.tok _, ⟨_, rfl⟩, q⟩
        show (S _).length ≤ sizeLine
        rw [SX.S_len, repN_length]; unfold sizeLine; omega
end

/-- one sign each -/
def sg (a : List Nat) : List V := a.map fun c => V.str (S [c])
theorem sg_length (a : List Nat) : (sg a).length = a.length := List.length_map ..
theorem vals_signs {a : List Nat} {acc : Array Value} (h : ItemsOf (SignAt (S a)) acc (S a).cps.size) : Vals (sg a) acc.toList := by
  refine vals_of_at ?_ fun j x u hx hu => ?_
  · have e : acc.toList.length = acc.size := Array.length_toList ..
    rw [sg_length, e, h.1]; exact (SX.S_len a).symm
  · rw [Array.getElem?_toList] at hu
    obtain ⟨c, t, hc, rfl⟩ := h.2 j u hu
    have hc' : a[j]? = some c := by
      have : (S a).cps[j]? = a[j]? := List.getElem?_toArray ..
      rw [← this]; exact hc
    unfold sg at hx
    rw [List.getElem?_map, hc'] at hx
    cases hx
    exact ⟨t, rfl⟩
section
variable {X : Cx}
/-- text[::-1] -/
def tRevS (te : TE) : TE := fun σ H Q => te σ H fun x H1 => ∃ a : List Nat, x = .str (S a) ∧ a.length ≤ sizeLine ∧ Q (.str (S a.reverse)) H1
theorem pe_revS {e : Expr} {te : TE} {k : Nat} {p1 p2 p3 pos : Pos} (he : PE X e te) : PE X (.Subscript e (.Slice none none (some (.UnaryOp .USub (.Constant (.int 1) k p1) p2)) p3) pos) (tRevS te) := by
  constructor
  intro pins s σ H Q I h
  apply Subscript_
  refine thn (he.run pins s σ H _ I h) ?_
  rintro v s1 ⟨x, H1, I1, r1, a, ex, hz, q⟩
  subst ex
  obtain ⟨t, rfl⟩ := r1
  have minus : PO X (some (.UnaryOp .USub (.Constant (.int 1) k p1) p2)) (tPart (tUn (rU fun i => .int (-i)) (tC (.int 1)))) := po_some (pe_un un_neg pe_int)
  apply wpAny_Slice
  refine thn (po_none.run pins s1 σ H1 (fun o H2 => o = none ∧ H2 = H1) I1 ⟨rfl, rfl⟩) ?_
  rintro vl s2 ⟨l, H2, I2, pl, el, e2⟩
  subst el e2
  refine thn (po_none.run pins s2 σ H2 (fun o H3 => o = none ∧ H3 = H2) I2 ⟨rfl, rfl⟩) ?_
  rintro vu s3 ⟨u, H3, I3, pu, eu, e3⟩
  subst eu e3
  refine thn (minus.run pins s3 σ H3 (fun o H4 => o = some (-1) ∧ H4 = H3) I3 ⟨1, rfl, -1, rfl, rfl, rfl⟩) ?_
  rintro vs s4 ⟨o, H4, I4, ps, eo, e4⟩
  subst eo e4
  have I5 : Inv X pins σ H4 { s4 with heap := s4.heap.push { cls := .type "slice", data := .fields #[vl, vu, vs] } } := I4.kept (t' := s4.toks) fun b ob z => Heap.get?_push_of_some _ z
  refine tail_any (ops := [.str (S a) t, .ref s4.heap.objs.size]) (typeIs_str _ _ _) F.slot_str_getitem.lookup ?_ (by with_unfolding_all rfl)
  obtain ⟨l, rfl, el⟩ := IsPart.raw pl
  obtain ⟨u, rfl, eu⟩ := IsPart.raw pu
  obtain ⟨w', rfl, ew⟩ := IsPart.raw ps
  have hl : l = none := by cases l with | none => rfl | some z => cases el
  have hu : u = none := by cases u with | none => rfl | some z => cases eu
  obtain ⟨tk, rfl⟩ : ∃ tk, w' = some (-1, tk) := by
    cases w' with
    | none => cases ew
    | some z => obtain ⟨z1, z2⟩ := z; cases ew; exact ⟨z2, rfl⟩
  subst hl hu
  refine wpAny_getItem_str_slice (l := none) (u := none) (st := some (-1, tk)) ⟨_, Heap.get?_push_size _ rfl, rfl, rfl⟩ (by rfl) ?_
  have hp : slicePicked (S a) none none (some (-1, tk)) = (List.range a.length).reverse := by
    unfold slicePicked
    rw [SX.S_len, ← PySem.W.krv_range, ← PySem.W.krv_sliceRange]
    rfl
  have hr : ((slicePicked (S a) none none (some (-1, tk))).filterMap ((S a).cps[·]?)).toArray = a.reverse.toArray := by
    rw [hp, List.filterMap_reverse]
    have e := PySem.W.krv_all a.toArray
    rw [List.size_toArray] at e
    have e' : (List.range a.length).filterMap (fun x => (S a).cps[x]?) = a := e
    rw [e']
  unfold sliceMade
  have hne : ((Option.map (fun x : Int × Tok => x.fst) (some (-1, tk))).getD 1 == 1 && (slicePicked (S a) none none (some (-1, tk))).length == (S a).length) = false := by
    rw [show ((Option.map (fun x : Int × Tok => x.fst) (some (-1, tk))).getD 1 == 1) = false from rfl, Bool.false_and]
  rw [if_neg (by rw [hne]; exact Bool.false_ne_true), hr]
  refine ⟨?_, .str _, H4, I5.tok _, ⟨_, rfl⟩, q⟩
  show (S a.reverse).length ≤ sizeLine
  rw [SX.S_len, List.length_reverse]; exact hz

/-- list(text) -/
theorem call_list_tx (hc : X.calm = true) : CallR X (.type "list") (fun xs H Q => ∃ a : List Nat, xs = [.str (S a)] ∧ a.length ≤ 100000 ∧ ∀ l, H l = none → Q (.ref l) (upd H l (.lst (sg a)))) := by
  intro pins s σ H xs us Q I r h
  obtain ⟨a, rfl, hz, q⟩ := h
  obtain ⟨u, rfl, rx⟩ := vals1 r
  obtain ⟨t, rfl⟩ := rx
  have hs : (S a).cps.size = a.length := SX.S_len a
  refine PySem.call_list_str (I.ok.hd hc) (S a) t (fun h' tk acc c' kp e it => ?_) (by rw [hs]; unfold sizeLine; omega)
  refine ⟨.ref s.heap.objs.size, _, I.laid (t' := tk) kp (Nat.le_refl _) (show ObjOk X.prog X.w _ h' _ (.lst (sg a)) from ⟨by rw [sg_length]; unfold sizeLine; omega, acc.toList, c', vals_signs it, ?_⟩), rfl, q _ (I.hok.fresh (Nat.le_refl _))⟩
  rw [Array.toArray_toList]; exact e
end
section
variable {prog : Program} {w : World} {A : Around} {E : Value → Shared → Prop} {s : Shared}
theorem code_tuple_tx {Q₁ : Value → Shared → Prop} (hh : A.handled = none) (x : Str) (t : Tok) (hn : x.cps.size ≤ 100000)
    (h : ∀ (s' : Shared) (acc : Array Value), (∀ b o, s.heap.get? b = some o → s'.heap.get? b = some o) → s'.gens = s.gens → s'.drawn = s.drawn → s'.os = s.os → ItemsOf (SignAt x) acc x.cps.size →
      Q₁ (.ref s'.heap.objs.size) { s' with heap := s'.heap.push { cls := .type "tuple", data := .seq acc } }) :
    codeAny (model prog w) A (.call (.builtin "tuple.__new__") ⟨[.type "tuple", .str x t], []⟩) (wants Q₁ E) s := by
  apply codeAny_of_tree
  show wpAny _ A.in1 (do checkBuiltinCall "tuple.__new__" ⟨[.type "tuple", .str x t], []⟩; again (.builtin "tuple.__new__" ⟨[.type "tuple", .str x t], []⟩)) _ _ s
  refine wpAny_bind (wpAny_of_eq (F.newCall_tuple_1 _) (wpAny_pure ⟨plainId_quiet F.plain_tuple_new _, codeAny_builtin F.entry_tuple_new ?_⟩))
  rw [Around.under_plainId F.plain_tuple_new _]
  have k1 := sub_tuple_self
  have k2 := init_tuple_lookup
  have k3 := madeHere_tuple
  have k4 : s.TypeIs (.str x t) "str" := typeIs_str s x t
  have k5 : A.in1.handled = none := hh
  have k6 : x.cps.size ≤ sizeLine := by unfold sizeLine; omega
  wp_walk using wpAny_typeOf k4, wpAny_collect_str (A := A.in1) k5 x t
  intro s' acc hk hg hd ho hacc
  show wpAny _ _ (Builtin.Tuple.tupleExact acc.toList.toArray >>= fun v => ret v) _ _ _
  unfold Builtin.Tuple.tupleExact
  have ea : acc.toList.toArray = acc := by simp
  rw [ea]
  refine wpAny_bind (wpAny_newObj_type ?_ (by show acc.size ≤ sizeLine; rw [hacc.1]; exact k6))
  exact wpAny_pure (h s' acc hk hg hd ho hacc)
theorem call_tuple_txt {Q : Value → Shared → Prop} (hh : A.handled = none) (x : Str) (t : Tok) (hn : x.cps.size ≤ 100000)
    (hQ : ∀ (s' : Shared) (acc : Array Value), (∀ b o, s.heap.get? b = some o → s'.heap.get? b = some o) → s'.gens = s.gens → s'.drawn = s.drawn → s'.os = s.os → ItemsOf (SignAt x) acc x.cps.size →
      Q (.ref s'.heap.objs.size) { s' with heap := s'.heap.push { cls := .type "tuple", data := .seq acc } }) :
    wpAny (model prog w) A (call (.type "tuple") [.str x t]) Q E s := by
  refine callType_codes (Q₁ := fun obj s₁ => s₁.TypeIs obj "tuple" ∧ Q obj s₁) F.called_tuple (F.typeCall_tuple_1 _) F.entry_object_init
    (code_tuple_tx (A := A.in1) hh x t hn fun s' acc hk hg hd ho hacc => ⟨⟨_, Heap.get?_push_size _ rfl, rfl⟩, hQ s' acc hk hg hd ho hacc⟩) fun obj s₁ h₁ => ?_
  exact ⟨h₁.1, F.args_object_init_2 obj _, object_init_meets F.called_tuple.init.lookup F.called_tuple.made (by decide) prog w A.in1 _ s₁ ⟨h₁.1, rfl, h₁.2⟩⟩
end
section
variable {X : Cx}
theorem call_tuple_tx (hc : X.calm = true) : CallR X (.type "tuple") (fun xs H Q => ∃ a : List Nat, xs = [.str (S a)] ∧ a.length ≤ 100000 ∧ ∀ l, H l = none → Q (.ref l) (upd H l (.tup (sg a)))) := by
  intro pins s σ H xs us Q I r h
  obtain ⟨a, rfl, hz, q⟩ := h
  obtain ⟨u, rfl, rx⟩ := vals1 r
  obtain ⟨t, rfl⟩ := rx
  have hs : (S a).cps.size = a.length := SX.S_len a
  refine call_tuple_txt (I.ok.hd hc) (S a) t (by rw [hs]; exact hz) fun s' acc kp hg hd ho it => ?_
  obtain ⟨h', g', d', t', o'⟩ := s'
  obtain rfl : g' = s.gens := hg
  obtain rfl : d' = s.drawn := hd
  obtain rfl : o' = s.os := ho
  have I2 : Inv X pins σ H { s with heap := h', toks := t' } := I.kept kp
  refine ⟨.ref h'.objs.size, upd H h'.objs.size (.tup (sg a)), I2.laid (t' := t') (fun c o e => Heap.get?_push_of_some _ e) (Nat.le_refl _) (show ObjOk X.prog X.w _ _ _ (.tup (sg a)) from ⟨by rw [sg_length]; unfold sizeLine; omega, acc.toList, vals_signs it, ?_⟩), rfl, q _ (I2.hok.fresh (Nat.le_refl _))⟩
  rw [Array.toArray_toList]; exact IsTup.new _ _
end
end Vx
namespace Vx
open PySem PySem.Spec PyProof.Rows L2
/-! repr of data at any depth, with dicts -/
mutual
inductive Dx (K : PySem.W.Frag) (H : Hp) : V → PyData → Prop
  | non : Dx K H .non .none
  | bl (b : Bool) : Dx K H (.bl b) (.bool b)
  | int (i : Int) : Dx K H (.int i) (.int i)
  | str (x : Str) : Dx K H (.str x) (.str x)
  | lst {a : Addr} {xs : List V} {ds : List PyData} : H a = some (.lst xs) → a ≠ sysModules → DxAll K H xs ds → Dx K H (.ref a) (.list ds)
  | tup {a : Addr} {xs : List V} {ds : List PyData} : SqT K H a xs → DxAll K H xs ds → Dx K H (.ref a) (.tuple ds)
  | dic {a : Addr} {kvs : List (Key × V)} {ds : List (PyData × PyData)} : H a = some (.dK kvs) → DxAll K H (kvs.map fun p => kV p.1) (ds.map (·.1)) → DxAll K H (kvs.map (·.2)) (ds.map (·.2)) → Dx K H (.ref a) (.dict ds)
inductive DxAll (K : PySem.W.Frag) (H : Hp) : List V → List PyData → Prop
  | nil : DxAll K H [] []
  | cons {v : V} {vs : List V} {d : PyData} {ds : List PyData} : Dx K H v d → DxAll K H vs ds → DxAll K H (v :: vs) (d :: ds)
end
theorem pair_keys {P : Program} {w : World} : ∀ {es : List DictEntry} {kvs : List (Key × V)} {vs : List (Key × Value)}, KV kvs vs → Pairs (mixKind P w) es vs → Vals (kvs.map fun p => kV p.1) (es.map (·.key)) ∧ Vals (kvs.map (·.2)) (es.map (·.val))
  | _, _, _, .nil, p => by cases p; exact ⟨.nil, .nil⟩
  | _, _, _, .cons r t, p => by
    cases p with
    | cons h1 h2 h3 =>
      obtain ⟨a, b⟩ := pair_keys t h3
      refine ⟨.cons ?_ a, .cons ?_ b⟩
      · dsimp only; rw [r.1]; exact keyIs_rel h1
      · dsimp only; rw [h2]; exact r.2
section
variable {X : Cx} {pins : List (Addr × Obj)} {σ : L2.St} {H : Hp} {s : Shared}
mutual
theorem Dx.reads (I : Inv X pins σ H s) : ∀ (d : PyData) (v : V) (u : Value), Dx X.K H v d → RelV v u → ∃ as, Reads s.heap u d as ∧ sysModules ∉ as
  | .none, _, _, h, r => by cases h; cases r; exact ⟨_, Reads.none, by simp⟩
  | .bool b, _, _, h, r => by cases h; cases r; exact ⟨_, Reads.bool b, by simp⟩
  | .int i, _, _, h, r => by cases h; obtain ⟨t, rfl⟩ := r; exact ⟨_, Reads.int i t, by simp⟩
  | .str x, _, _, h, r => by cases h; obtain ⟨t, rfl⟩ := r; exact ⟨_, Reads.str x t, by simp⟩
  | .list ds, _, _, h, r => by
    cases h with
    | lst hs hne ha =>
      cases r
      obtain ⟨its, rv, ⟨o, n, ho, hc, _, hd⟩, _⟩ := I.list (SqL.of hs)
      obtain ⟨as, hr, hn⟩ := Dx.readsAll I ds _ its ha rv
      refine ⟨_, Reads.list ho hc hd hr, fun z => ?_⟩
      rcases List.mem_cons.mp z with z | z
      · exact hne z.symm
      · exact hn z
  | .tuple ds, _, _, h, r => by
    cases h with
    | tup hs ha =>
      cases r
      obtain ⟨its, rv, ⟨o, ho, hc, n, hd⟩, _⟩ := I.tuple hs
      obtain ⟨as, hr, hn⟩ := Dx.readsAll I ds _ its ha rv
      exact ⟨_, Reads.tuple ho hc hd hr, hn⟩
  | .dict ds, _, _, h, r => by
    cases h with
    | dic hs ha hb =>
      cases r
      obtain ⟨_, hS, vs, kv, o, es, ep, ho, hx, hd, _, hp, _⟩ := dk_of I.hok hs
      obtain ⟨rk, rvv⟩ := pair_keys kv hp
      obtain ⟨as, hr, hn⟩ := Dx.readsKeys I ds _ _ ha rk
      obtain ⟨bs, hr2, hn2⟩ := Dx.readsVals I ds _ _ hb rvv
      refine ⟨_, Reads.dict ho hx.1 hd hr hr2, fun z => ?_⟩
      rcases List.mem_append.mp z with z | z
      · rcases List.mem_cons.mp z with z | z
        · exact absurd z.symm (by simpa using hS)
        · exact hn z
      · exact hn2 z
theorem Dx.readsAll (I : Inv X pins σ H s) : ∀ (ds : List PyData) (vs : List V) (us : List Value), DxAll X.K H vs ds → Vals vs us → ∃ as, ReadsAll s.heap us ds as ∧ sysModules ∉ as
  | [], _, _, h, r => by cases h; cases r; exact ⟨_, ReadsAll.nil, by simp⟩
  | d :: ds, _, _, h, r => by
    cases h with
    | cons a1 a2 =>
      cases r with
      | cons r1 r2 =>
        obtain ⟨as, q1, n1⟩ := Dx.reads I d _ _ a1 r1
        obtain ⟨bs, q2, n2⟩ := Dx.readsAll I ds _ _ a2 r2
        refine ⟨_, ReadsAll.cons q1 q2, fun z => ?_⟩
        rcases List.mem_append.mp z with z | z
        · exact n1 z
        · exact n2 z
theorem Dx.readsKeys (I : Inv X pins σ H s) : ∀ (ds : List (PyData × PyData)) (vs : List V) (us : List Value), DxAll X.K H vs (ds.map (·.1)) → Vals vs us → ∃ as, ReadsAll s.heap us (ds.map (·.1)) as ∧ sysModules ∉ as
  | [], _, _, h, r => by cases h; cases r; exact ⟨_, ReadsAll.nil, by simp⟩
  | (d, _) :: ds, _, _, h, r => by
    cases h with
    | cons a1 a2 =>
      cases r with
      | cons r1 r2 =>
        obtain ⟨as, q1, n1⟩ := Dx.reads I d _ _ a1 r1
        obtain ⟨bs, q2, n2⟩ := Dx.readsKeys I ds _ _ a2 r2
        refine ⟨_, ReadsAll.cons q1 q2, fun z => ?_⟩
        rcases List.mem_append.mp z with z | z
        · exact n1 z
        · exact n2 z
theorem Dx.readsVals (I : Inv X pins σ H s) : ∀ (ds : List (PyData × PyData)) (vs : List V) (us : List Value), DxAll X.K H vs (ds.map (·.2)) → Vals vs us → ∃ as, ReadsAll s.heap us (ds.map (·.2)) as ∧ sysModules ∉ as
  | [], _, _, h, r => by cases h; cases r; exact ⟨_, ReadsAll.nil, by simp⟩
  | (_, d) :: ds, _, _, h, r => by
    cases h with
    | cons a1 a2 =>
      cases r with
      | cons r1 r2 =>
        obtain ⟨as, q1, n1⟩ := Dx.reads I d _ _ a1 r1
        obtain ⟨bs, q2, n2⟩ := Dx.readsVals I ds _ _ a2 r2
        refine ⟨_, ReadsAll.cons q1 q2, fun z => ?_⟩
        rcases List.mem_append.mp z with z | z
        · exact n1 z
        · exact n2 z
end
end
/-- repr(x) -/
def rRepr (K : PySem.W.Frag) : List V → Hp → VK → Prop := fun xs H Q => ∃ x d, xs = [x] ∧ Dx K H x d ∧ d.showable = true ∧ d.shown.length ≤ sizeLine ∧ d.depth ≤ 50 ∧ Q (.str d.shown) H
theorem call_reprX {X : Cx} (hg : X.A.guards = some []) (hu : X.A.units + 64 < cLine) : CallR X (.builtin "repr") (rRepr X.K) := by
  intro pins s σ H xs us Q I r h
  obtain ⟨x, d, rfl, hd, hs, hz, hp, q⟩ := h
  obtain ⟨u, rfl, rx⟩ := vals1 r
  obtain ⟨as, hr, hn⟩ := Dx.reads I d x u hd rx
  cases hd with
  | non => cases rx; exact PySem.P.repr_of_none ⟨.str _, H, I.tok _, ⟨_, rfl⟩, by simpa only [PyData.shown] using q⟩
  | bl b => cases rx; exact PySem.P.repr_of_bool ⟨.str _, H, I.tok _, ⟨_, rfl⟩, by simpa only [PyData.shown] using q⟩
  | int i => obtain ⟨t, rfl⟩ := rx; exact PySem.P.repr_of_int (by simpa [PyData.showable] using hs) ⟨.str _, H, I.tok _, ⟨_, rfl⟩, by simpa only [PyData.shown] using q⟩
  | str y => obtain ⟨t, rfl⟩ := rx; exact PySem.P.repr_of_str ⟨.str _, H, I.tok _, ⟨_, rfl⟩, by simpa only [PyData.shown] using q⟩ (by simpa only [PyData.shown] using hz)
  | lst _ _ _ => cases rx; exact repr_of_reads' hr hs (fun _ => hn) hg (by omega) (fun _ _ e => e) (fun h' u tk hk => ⟨.str _, H, I.kept (t' := tk) hk, ⟨_, rfl⟩, q⟩) hz
  | tup _ _ => cases rx; exact repr_of_reads' hr hs (fun _ => hn) hg (by omega) (fun _ _ e => e) (fun h' u tk hk => ⟨.str _, H, I.kept (t' := tk) hk, ⟨_, rfl⟩, q⟩) hz
  | dic _ _ _ => cases rx; exact repr_of_reads' hr hs (fun _ => hn) hg (by omega) (fun _ _ e => e) (fun h' u tk hk => ⟨.str _, H, I.kept (t' := tk) hk, ⟨_, rfl⟩, q⟩) hz

section
variable {X : Cx} {es : List Expr} {pos : Pos} {t : TA}
theorem big_ne {pins : List (Addr × Obj)} {σ : L2.St} {H : Hp} {s : Shared} (I : Inv X pins σ H s) : s.heap.objs.size ≠ sysModules := Nat.ne_of_gt I.big
/-- a new list, its place told apart from the module table's -/
def tLst1 (t : TA) : TE := fun σ H Q => t σ H fun xs H1 => xs.length ≤ sizeLine ∧ ∀ p, H1 p = none → p ≠ sysModules → Q (.ref p) (upd H1 p (.lst xs))
theorem pe_lst1 (h : PA X es t) : PE X (.List es pos) (tLst1 t) := by
  constructor
  intro pins s σ H Q I hq
  apply wpAny_List_spliced
  refine thn (h.run pos pins s σ H _ I hq) ?_
  rintro us s1 ⟨xs, H1, I1, r, z, q⟩
  refine ⟨by rw [← r.length]; exact z, ?_⟩
  have fresh : H1 s1.heap.objs.size = none := I1.hok.fresh (Nat.le_refl _)
  exact ⟨.ref s1.heap.objs.size, upd H1 s1.heap.objs.size (.lst xs), I1.laid (t' := s1.toks) (fun b u e => Heap.get?_push_of_some _ e) (Nat.le_refl _) ⟨z, us, 0, r, Heap.get?_push_size _ rfl⟩, rfl, q _ fresh (big_ne I1)⟩
def rCat1 : R2 := fun x y H Q => ∃ l b xs zs, x = .ref l ∧ y = .ref b ∧ H l = some (.lst xs) ∧ H b = some (.lst zs) ∧ xs.length + zs.length ≤ sizeLine ∧ ∀ p, H p = none → p ≠ sysModules → Q (.ref p) (upd H p (.lst (xs ++ zs)))
theorem op_cat1 : OpR X (binaryOp .Add) rCat1 := by
  intro pins s σ H x y v u Q I rx ry h
  obtain ⟨l, b, xs, zs, rfl, rfl, h1, h2, hz, q⟩ := h
  cases rx
  cases ry
  obtain ⟨z1, its1, n1, r1, k1, e1⟩ := I.lstM h1
  obtain ⟨z2, its2, n2, r2, k2, e2⟩ := I.lstM h2
  refine PySem.P.add_list e1 e2 ?_ (by simp only [List.size_toArray]; omega)
  rw [show its1.toArray ++ its2.toArray = (its1 ++ its2).toArray by simp]
  exact ⟨.ref _, _, I.lnew (t' := s.toks) (r1.append r2) (by rw [List.length_append]; exact hz), rfl, q _ I.fresh (big_ne I)⟩
theorem call_list_tx1 (hc : X.calm = true) : CallR X (.type "list") (fun xs H Q => ∃ a : List Nat, xs = [.str (S a)] ∧ a.length ≤ 100000 ∧ ∀ l, H l = none → l ≠ sysModules → Q (.ref l) (upd H l (.lst (sg a)))) := by
  intro pins s σ H xs us Q I r h
  obtain ⟨a, rfl, hz, q⟩ := h
  obtain ⟨u, rfl, rx⟩ := vals1 r
  obtain ⟨t, rfl⟩ := rx
  have hs : (S a).cps.size = a.length := SX.S_len a
  refine PySem.call_list_str (I.ok.hd hc) (S a) t (fun h' tk acc c' kp e it => ?_) (by rw [hs]; unfold sizeLine; omega)
  refine ⟨.ref s.heap.objs.size, _, I.laid (t' := tk) kp (Nat.le_refl _) (show ObjOk X.prog X.w _ h' _ (.lst (sg a)) from ⟨by rw [sg_length]; unfold sizeLine; omega, acc.toList, c', vals_signs it, ?_⟩), rfl, q _ (I.hok.fresh (Nat.le_refl _)) (big_ne I)⟩
  rw [Array.toArray_toList]; exact e
end

/-! the law's call, the guards told -/
theorem lawG {P : Program} {w : World} {K : PySem.W.Frag} {mg mb : Str → Option Value} {CX : CXT} {k : Nat} {fa a : Addr} {fd : FuncData} {x : Str} {sp : Sp} {s₁ : Shared} {vs : List Value} {ns : List Int}
    (inK : K.In s₁.heap) (glob : s₁.heap.Ns mainGlobals mg) (blt : s₁.heap.Ns builtinsNs mb) (boot : ∀ x : Str, x ≠ "__name__" → mb x = bootBuiltins x) (unlim : s₁.heap.NoLimit) (nogen : s₁.gens = #[])
    (stands : s₁.heap.get? a = some { cls := .type "list", data := .seq vs.toArray }) (isInts : IntsAre vs ns) (short : ns.length ≤ sizeLine) (room : Room k callerA)
    (F : ∀ base : Heap, K.In base → base.Ns mainGlobals mg → FnG P w K mg base CX k fa fd [x] sp) (binds : ∀ (s : Shared) (u : Value), BindsTo s fd ⟨[u], []⟩ [(x, u)])
    (asked : ∀ H : Hp, SqL K H a (ns.map V.int) → sp [.ref a] H (fun v _ => v = .bl true) fun _ _ _ => False)
    (calm : ∀ H e s', CX [] H s₁ (fun _ _ _ => False) e s' → False) :
    codeAny (model P w) callerA (.call (.ref fa) ⟨[.ref a], []⟩) (fun r s' => r = .ok (.ret (.bool true)) ∧ OldK s₁.heap s'.heap ∧ s'.os = s₁.os ∧ AllBare s'.gens) s₁ := by
  have rel := vals_ints isInts
  have many := isInts.length
  have main : ∀ H : Hp, (∀ b, H b = none ∨ ∃ o xs, H b = some (.frz o (.lst xs))) → SqL K H a (ns.map V.int) → HOk P w H s₁.heap → (∀ b, H b ≠ none → b = a) → (H a ≠ none → K.lookup a = none) →
      codeAny (model P w) callerA (.call (.ref fa) ⟨[.ref a], []⟩) (fun r s' => r = .ok (.ret (.bool true)) ∧ OldK s₁.heap s'.heap ∧ s'.os = s₁.os ∧ AllBare s'.gens) s₁ := by
    intro H locked seq ok onlyA notK
    have keepD : ∀ {b : Addr} {o : Obj} {es : Array DictEntry} {ep : Nat}, s₁.heap.get? b = some o → o.data = .dict es ep → H b = none := by
      intro b o es ep e d
      by_cases q : H b = none
      · exact q
      · have e' := onlyA b q
        subst e'
        rw [stands] at e
        cases e
        exact nomatch (show Data.seq vs.toArray _ = Data.dict es ep from d)
    have keepN : ∀ {b : Addr} {m : Str → Option Value}, s₁.heap.Ns b m → (hidT s₁.heap H).Ns b m := by
      rintro b m ⟨o, es, ep, e, d, rest⟩
      exact ⟨o, es, ep, hidT_get e (keepD e d), d, rest⟩
    have keepK : K.In (hidT s₁.heap H) := by
      intro b o e
      refine hidT_get (inK b o e) ?_
      by_cases q : H b = none
      · exact q
      · have e' := onlyA b q
        subst e'
        rw [notK q] at e
        cases e
    have modul : Mod K mg (hidT s₁.heap H) := by
      refine ⟨keepK, keepN glob, ⟨mb, keepN blt, boot⟩, ?_⟩
      obtain ⟨mc, h1, h2⟩ := unlim
      exact ⟨mc, keepN h1, h2⟩
    have e0 : Env0 P w K mg (hidT s₁.heap H) callerA [] s₁ H :=
      ⟨rfl, modul, fun b o e => of_hidT e, Nat.le_of_eq (hidT_size _ _), trivial, fun b hb => (nomatch (show b ∈ ([] : List Addr) from hb)), ok, .of_eq nogen⟩
    refine codeAny_mono ((F _ keepK (keepN glob)).run callerA [] s₁ H ⟨[.ref a], []⟩ [.ref a] [.ref a] _ _ rfl room e0 (binds s₁ (.ref a)) (.cons rfl .nil) (asked H seq)) ?_
    intro r s' ended
    rcases r with er | fl
    · exact (calm H er s' ended).elim
    · cases fl with
      | next => exact (show False from ended).elim
      | brk => exact (show False from ended).elim
      | cont => exact (show False from ended).elim
      | ret u =>
        obtain ⟨v, H', os, bare, un, ok', r', q⟩ := ended
        obtain rfl : v = .bl true := q
        obtain rfl : u = Value.bool true := r'
        refine ⟨rfl, OldK.of_keep ?_, os, bare⟩
        intro b o e
        rcases locked b with z | ⟨ob, xs, z⟩
        · exact un.keep b o e z (fun y => nomatch (show b ∈ ([] : List Addr) from y)) (fun y => nomatch y)
        · obtain ⟨e1, _⟩ := ok b _ z
          obtain ⟨e2, _⟩ := ok' b _ (un.frzs b ob _ z)
          rw [e] at e1
          cases e1
          exact e2
  by_cases hk : ∃ o, K.lookup a = some o
  · obtain ⟨o, hk⟩ := hk
    have e := inK a o hk
    rw [stands] at e
    cases e
    exact main (fun _ => none) (fun _ => Or.inl rfl) (Or.inr ⟨_, vs.toArray, _, hk, rfl, rfl, rfl, by rw [List.size_toArray, many]; exact short, by simpa using rel⟩) (fun b u z => nomatch (show (none : Option HO) = some u from z)) (fun b z => absurd rfl z) (fun z => absurd rfl z)
  · have hn : K.lookup a = none := by
      cases q : K.lookup a with
      | none => rfl
      | some o => exact absurd ⟨o, q⟩ hk
    refine main (fun b => if b = a then some (.frz { cls := .type "list", data := .seq vs.toArray } (.lst (ns.map V.int))) else none) (fun b => ?_) (Or.inl (Or.inr ⟨_, if_pos rfl⟩)) (fun b u z => ?_) (fun b z => ?_) (fun _ => hn)
    · by_cases e : b = a
      · exact Or.inr ⟨_, _, if_pos e⟩
      · exact Or.inl (if_neg e)
    · by_cases e : b = a
      · have z' : some _ = some u := (if_pos e).symm.trans z
        cases z'
        subst e
        exact ⟨stands, by rw [List.length_map]; exact short, vs, _, rel, stands⟩
      · exact nomatch (if_neg e).symm.trans z
    · by_cases e : b = a
      · exact e
      · exact absurd (if_neg e) z
theorem walkG {l : PySem.W.OpenLaw} {n k : Nat} {q : Program} {loose : List Str} {XP : (Str → Option Value) → Heap → Prop} {YP : World → Heap → Prop} {d : DefRec} {K : Params → PySem.W.Frag} {CX : World → CXT} {sp : World → Sp} {x : Str}
    (most : l.most = some n) (n2 : n ≤ sizeLine) (plain : d.params.defaults = []) (room : Room k callerA) (hY : ∀ (w : World) (h : Heap), YP w h → (K w.params).In h)
    (F : ∀ (w : World) (mg : Str → Option Value) (fa : Addr) (h : Heap), (K w.params).In h → h.Ns mainGlobals mg → mg d.name = some (.ref fa) →
      ∃ fd : FuncData, (∀ (s : Shared) (u : Value), BindsTo s fd ⟨[u], []⟩ [(x, u)]) ∧ ∀ base : Heap, (K w.params).In base → base.Ns mainGlobals mg → FnG l.prog w (K w.params) mg base (CX w) k fa fd [x] (sp w))
    (asked : ∀ (w : World) (H : Hp) (a : Addr) (ns : List Int), ns.length ≤ n → SqL (K w.params) H a (ns.map V.int) → sp w [.ref a] H (fun v _ => v = .bl true) fun _ _ _ => False)
    (calm : ∀ (w : World) (H : Hp) (s : Shared) (e : Value) (s' : Shared), CX w [] H s (fun _ _ _ => False) e s' → False) :
    PySem.W.WalkO q loose XP YP l.row.toRowW d [] (fun f vs => PySem.call f vs) := by
  apply Att.attach_call most plain
  intro w s₀ s₁ mg mb fa o pm cd doc a vs ns G Y ho hd hcd hmg hobj hints hlen hg
  have inK := hY w _ Y
  obtain ⟨fd, hb, hF⟩ := F w mg fa _ inK G.T.g hmg
  exact lawG inK G.T.g G.T.b G.T.builtins G.T.nolimit hg hobj hints (Nat.le_trans hlen n2) room hF hb (fun H hS => asked w H a ns hlen hS) fun H e s' => calm w H s₁ e s'
end Vx
namespace Vx
open PySem PySem.Spec PyProof.Rows L2
/-! how often a sign stands in a text -/
theorem at_one {a : List Nat} {c i : Nat} : StrLaws.At (S a) (S [c]) (S a).length i ↔ a[i]? = some c := StrLaws.subAt_one (S a) c i
theorem count_gap {a : List Nat} {c : Nat} : ∀ (n i : Nat), (∀ k, i ≤ k → k < i + n → a[k]? ≠ some c) → (a.drop i).count c = (a.drop (i + n)).count c
  | 0, _, _ => rfl
  | n + 1, i, h => by
    have h1 := count_gap n (i + 1) fun k h1 h2 => h k (by omega) (by omega)
    rw [show i + (n + 1) = i + 1 + n by omega, ← h1]
    by_cases hi : i < a.length
    · rw [List.drop_eq_getElem_cons hi, List.count_cons]
      have e := h i (Nat.le_refl _) (by omega)
      rw [List.getElem?_eq_getElem hi] at e
      have : (a[i] == c) = false := by simpa using fun z => e (by rw [z])
      rw [this]; simp
    · rw [List.drop_eq_nil_of_le (by omega), List.drop_eq_nil_of_le (by omega)]
theorem count_hit {a : List Nat} {c i : Nat} (h : a[i]? = some c) : (a.drop i).count c = (a.drop (i + 1)).count c + 1 := by
  obtain ⟨hi, e⟩ := List.getElem?_eq_some_iff.mp h
  rw [List.drop_eq_getElem_cons hi, e, List.count_cons_self]
theorem chain_count {a : List Nat} {c : Nat} : ∀ (cuts : List Nat) (i f : Nat), StrLaws.ChainG (S a) (S [c]) (S a).length i cuts f → (∀ k, f ≤ k → ¬ StrLaws.At (S a) (S [c]) (S a).length k) → cuts.length = (a.drop i).count c
  | [], i, f, h, hn => by
    have e : f = i := h
    subst e
    have h1 := count_gap (a := a) (c := c) a.length f fun k h1 _ z => hn k h1 (at_one.mpr z)
    rw [h1, List.drop_eq_nil_of_le (by omega)]; rfl
  | x :: r, i, f, h, hn => by
    have h1 : i ≤ x := h.1
    have ih := chain_count r (x + 1) f h.2.2.2 hn
    have g := count_gap (a := a) (c := c) (x - i) i fun k a1 a2 z => h.2.2.1 k a1 (by omega) (at_one.mpr z)
    rw [show i + (x - i) = x by omega] at g
    rw [g, count_hit (at_one.mp h.2.1), ← ih]; rfl
theorem count_S (a : List Nat) (c : Nat) : Txt.count (S a) (S [c]) = (a.count c : Int) := by
  obtain ⟨f, h, hn⟩ := StrLaws.occ_tight (S a) (S [c]) (Nat.le_refl 1)
  have e := chain_count _ 0 f h hn
  unfold Txt.count
  rw [e]; rfl
/-- a row of at most 200 letters -/
def abs (a : List Nat) : Bool := a.all fun c => c == 97 || c == 98
def rowB (a : List Nat) : Bool := decide (a.length ≤ 200) && abs a
theorem count_ab (a : List Nat) : a.count 97 + a.count 98 ≤ a.length ∧ (a.count 97 + a.count 98 = a.length ↔ abs a = true) := by
  induction a with
  | nil => exact ⟨Nat.le_refl _, by simp [abs]⟩
  | cons x r ih =>
    unfold abs at ih ⊢
    rw [List.all_cons, List.count_cons, List.count_cons, List.length_cons]
    obtain ⟨h1, h2⟩ := ih
    by_cases hx : x = 97
    · subst hx; simp only [beq_self_eq_true, if_true, Bool.true_or, Bool.true_and, show ((97 : Nat) == 98) = false from rfl]
      constructor
      · simp; omega
      · rw [← h2]; simp; omega
    · by_cases hy : x = 98
      · subst hy; simp only [beq_self_eq_true, if_true, Bool.or_true, Bool.true_and, show ((98 : Nat) == 97) = false from rfl]
        constructor
        · simp; omega
        · rw [← h2]; simp; omega
      · have e1 : (x == 97) = false := by simpa using hx
        have e2 : (x == 98) = false := by simpa using hy
        rw [e1, e2]
        constructor
        · simp; omega
        · simp; omega
theorem ab_sum (a : List Nat) : decide ((a.count 97 : Int) + (a.count 98 : Int) = (a.length : Int)) = abs a := by
  have h := (count_ab a).2
  cases e : abs a
  · refine decide_eq_false fun z => ?_
    have : a.count 97 + a.count 98 = a.length := by omega
    rw [h.mp this] at e; cases e
  · exact decide_eq_true (by have := h.mpr e; omega)
theorem cutS_to (a : List Nat) (n : Nat) : cutS (S a) none (some (n : Int)) = S (a.take n) := by
  unfold cutS
  rw [show HT.sIx (S a).length 0 none = 0 from HT.sIx_none .., show HT.sIx (S a).length (S a).length (some (n : Int)) = min n (S a).length from HT.sIx_nat .., SX.S_len]
  show S ((a.drop 0).take (min n a.length - 0)) = _
  rw [List.drop_zero, Nat.sub_zero]
  congr 1
  by_cases h : n ≤ a.length
  · rw [Nat.min_eq_left h]
  · rw [Nat.min_eq_right (by omega), List.take_of_length_le (Nat.le_refl _), List.take_of_length_le (by omega)]
theorem cutS_from (a : List Nat) (n : Nat) : cutS (S a) (some (n : Int)) none = S (a.drop n) := by
  unfold cutS
  rw [show HT.sIx (S a).length (S a).length none = (S a).length from HT.sIx_none .., show HT.sIx (S a).length 0 (some (n : Int)) = min n (S a).length from HT.sIx_nat .., SX.S_len]
  show S ((a.drop (min n a.length)).take (a.length - min n a.length)) = _
  congr 1
  by_cases h : n ≤ a.length
  · rw [Nat.min_eq_left h, List.take_of_length_le (by rw [List.length_drop]; exact Nat.le_refl _)]
  · rw [Nat.min_eq_right (by omega), Nat.sub_self, List.take_zero, List.drop_eq_nil_of_le (by omega)]
end Vx
namespace Vx
open PySem PySem.Spec PyProof.Rows L2
/-! what stays but one object -/
def Keep (r : Addr) (H H' : Hp) : Prop := ∀ b o, b ≠ r → H b = some o → H' b = some o
theorem Keep.refl {r : Addr} (H : Hp) : Keep r H H := fun _ _ _ h => h
theorem Keep.trans {r : Addr} {H H1 H2 : Hp} (a : Keep r H H1) (b : Keep r H1 H2) : Keep r H H2 := fun c o n h => b c o n (a c o n h)
theorem Keep.of {r : Addr} {H H' : Hp} (a : Same H H') : Keep r H H' := fun c o _ h => a c o h
theorem Keep.new {r p : Addr} {H H1 : Hp} {o : HO} (k : Keep r H H1) (h : H1 p = none) : Keep r H (upd H1 p o) := fun c u n e => by
  have e1 := k c u n e
  rw [upd_ne (ne_of_none e1 h)]; exact e1
theorem Keep.put {r : Addr} {H H1 : Hp} {o : HO} (k : Keep r H H1) : Keep r H (upd H1 r o) := fun c u n e => by
  rw [upd_ne n]; exact k c u n e
theorem same_new {H : Hp} {p : Addr} {o : HO} (h : H p = none) : Same H (upd H p o) := fun b x e => by
  rw [upd_ne (ne_of_none e h)]; exact e
theorem Same.new {H H1 : Hp} {p : Addr} {o : HO} (k : Same H H1) (h : H1 p = none) : Same H (upd H1 p o) := k.trans (same_new h)
/-- an object that H does not know may change -/
theorem Same.mut {H H1 : Hp} {p : Addr} {o : HO} (k : Same H H1) (h : H p = none) : Same H (upd H1 p o) := fun b x e => by
  rw [upd_ne (ne_of_none e h)]; exact k b x e
theorem Keep.seq {K : PySem.W.Frag} {r a : Addr} {H H' : Hp} {xs : List V} (k : Keep r H H') (hr : ∃ ys, H r = some (.lst ys)) (hs : SqL K H a xs) (hf : a ≠ r) : SqL K H' a xs := by
  rcases hs with (h | ⟨o, h⟩) | h
  · exact .inl (.inl (k _ _ hf h))
  · exact .inl (.inr ⟨o, k _ _ hf h⟩)
  · exact .inr h
theorem Keep.none {r p : Addr} {H H' : Hp} (k : Keep r H H') (hn : p ≠ r) (h : H' p = Option.none) : H p = Option.none := by
  cases q : H p with
  | none => rfl
  | some o => rw [k p o hn q] at h; cases h
/-! data of ints and texts -/
theorem dp_ints {K : PySem.W.Frag} {H : Hp} : ∀ ns : List Int, DpAll K H (ns.map V.int) (ns.map PyData.int)
  | [] => .nil
  | n :: r => .cons (.int n) (dp_ints r)
theorem can_ints : ∀ ns : List Int, PyData.canLayAll0 (ns.map PyData.int) = true
  | [] => by simp [PyData.canLayAll0]
  | n :: r => by simp [PyData.canLayAll0, PyData.canLay0, can_ints r]
theorem depth_ints : ∀ ns : List Int, PyData.depthAll (ns.map PyData.int) = 0
  | [] => by simp [PyData.depthAll]
  | n :: r => by simp [PyData.depthAll, PyData.depth, depth_ints r]
theorem shaped_ints (ns : List Int) : SeqAt.shaped (.list (ns.map PyData.int)) = true := by
  simp [SeqAt.shaped, PyData.canLay0, PyData.depth, can_ints, depth_ints]
theorem shaped_nil : SeqAt.shaped (.list []) = true := shaped_ints []
theorem eqv_nil : ∀ ds : List PyData, PyData.eqv (.list ds) (.list []) = ds.isEmpty
  | [] => by simp [PyData.eqv, PyData.eqvAll]
  | d :: r => by simp [PyData.eqv, PyData.eqvAll]
/-! the drawing reel of the laws -/
structure ReelAt (H : Hp) (r g c : Addr) (gs cs : List Int) (n st : Int) : Prop where
  at_r : H r = some (.lst [.ref g, .ref c, .int n, .int st])
  ne_g : g ≠ r
  ne_c : c ≠ r
  at_g : H g = some (.lst (gs.map V.int))
  at_c : H c = some (.lst (cs.map V.int))
  len_g : gs.length ≤ 60
  pos_g : ∀ x ∈ gs, 0 ≤ x
  len_c : 1 ≤ cs.length ∧ cs.length ≤ 60
  lo : 0 ≤ st
  hi : st < 2 ^ 127
def Reel (H : Hp) (r : Addr) : Prop := ∃ g c gs cs n st, ReelAt H r g c gs cs n st
theorem Reel.mono {H H' : Hp} {r : Addr} (R : Reel H r) (s : Same H H') : Reel H' r := by
  obtain ⟨g, c, gs, cs, n, st, R⟩ := R
  exact ⟨g, c, gs, cs, n, st, { R with at_r := s _ _ R.at_r, at_g := s _ _ R.at_g, at_c := s _ _ R.at_c }⟩
theorem Reel.is {H : Hp} {r : Addr} (R : Reel H r) : ∃ xs, H r = some (.lst xs) := by
  obtain ⟨g, c, gs, cs, n, st, R⟩ := R
  exact ⟨_, R.at_r⟩
/-- an object that is none of the reel's -/
def Off (H : Hp) (r D : Addr) : Prop := ∀ g c x y, H r = some (.lst [.ref g, .ref c, x, y]) → D ≠ g ∧ D ≠ c
/-- all that is none of the reel's stays, and stays apart from it -/
structure Step (r : Addr) (H H' : Hp) : Prop where
  keep : Keep r H H'
  sep : ∀ D, (∃ o, H D = some o) → D ≠ r → Off H r D → Off H' r D
theorem Step.refl {r : Addr} (H : Hp) : Step r H H := ⟨.refl H, fun _ _ _ h => h⟩
theorem Step.trans {r : Addr} {H H1 H2 : Hp} (a : Step r H H1) (b : Step r H1 H2) : Step r H H2 :=
  ⟨a.keep.trans b.keep, fun D ⟨o, e⟩ n h => b.sep D ⟨o, a.keep D o n e⟩ n (a.sep D ⟨o, e⟩ n h)⟩
theorem Step.same {r : Addr} {H H' : Hp} (R : Reel H r) (s : Same H H') : Step r H H' := by
  obtain ⟨xs, e⟩ := R.is
  exact ⟨.of s, fun D _ _ h g c x y e2 => h g c x y (by rw [s _ _ e] at e2; rw [e]; exact e2)⟩
/-- an object that was made since may change -/
theorem Step.mut {r p : Addr} {H H1 : Hp} {o : HO} (a : Step r H H1) (h : H p = none) (n : p ≠ r) : Step r H (upd H1 p o) :=
  ⟨fun c u nc e => by rw [upd_ne (ne_of_none e h)]; exact a.keep c u nc e, fun D hD nD hO g c x y e => a.sep D hD nD hO g c x y (by rw [upd_ne n.symm] at e; exact e)⟩
theorem Off.new {H : Hp} {r D : Addr} (R : Reel H r) (n : H D = none) : Off H r D := by
  obtain ⟨g, c, gs, cs, n', st, R⟩ := R
  intro g2 c2 x y e
  rw [R.at_r] at e
  cases e
  exact ⟨(fun z => by rw [z, R.at_g] at n; cases n), (fun z => by rw [z, R.at_c] at n; cases n)⟩
theorem Off.upd {H : Hp} {r D p : Addr} {o : HO} (h : Off H r D) (n : p ≠ r) : Off (L2.upd H p o) r D := fun g c x y e => h g c x y (by rw [upd_ne n.symm] at e; exact e)
theorem Reel.upd {H : Hp} {r D : Addr} {o : HO} (R : Reel H r) (n : D ≠ r) (h : Off H r D) : Reel (L2.upd H D o) r := by
  obtain ⟨g, c, gs, cs, n', st, R⟩ := R
  obtain ⟨h1, h2⟩ := h g c _ _ R.at_r
  exact ⟨g, c, gs, cs, n', st, { R with at_r := by rw [upd_ne n.symm]; exact R.at_r, at_g := by rw [upd_ne h1.symm]; exact R.at_g, at_c := by rw [upd_ne h2.symm]; exact R.at_c }⟩
theorem Reel.ne {H : Hp} {r D : Addr} (R : Reel H r) (n : H D = none) : D ≠ r := by
  obtain ⟨xs, hx⟩ := R.is
  exact (ne_of_none hx n).symm
/-- a draw: an int below the bound; all else stays -/
def spDraw : Sp := fun vs H Q _ => ∃ (r : Addr) (m : Int), vs = [.ref r, .int m] ∧ Reel H r ∧ 1 ≤ m ∧ m.natAbs < 2 ^ 8000 ∧ ∀ (d : Int) (H' : Hp), 0 ≤ d → d < m → Step r H H' → Reel H' r → Q (.int d) H'
/-- a new reel from the script -/
def spReel (K : PySem.W.Frag) : Sp := fun vs H Q _ => ∃ (a : Addr) (ns : List Int), vs = [.ref a] ∧ SqL K H a (ns.map V.int) ∧ ns.length ≤ 63 ∧ ∀ (r : Addr) (H' : Hp), Same H H' → H r = none → Reel H' r → Q (.ref r) H'
/-- a text of a and b with low to high letters -/
def spWord : Sp := fun vs H Q _ => ∃ (r : Addr) (lo hi : Int), vs = [.ref r, .int lo, .int hi] ∧ Reel H r ∧ 0 ≤ lo ∧ lo ≤ hi ∧ hi ≤ 300 ∧
  ∀ (a : List Nat) (H' : Hp), lo ≤ (a.length : Int) → (a.length : Int) ≤ hi → abs a = true → Step r H H' → Reel H' r → Q (.str (S a)) H'
theorem bits127 {x : Int} (h0 : 0 ≤ x) (h : x < 2 ^ 127) : x.natAbs < 2 ^ 127 := by omega

theorem cut_to (xs : List V) (n : Nat) : cutV xs none (some (n : Int)) = xs.take n := by
  unfold cutV
  rw [HT.sIx_none, show HT.sIx xs.length xs.length (some (n : Int)) = min n xs.length from HT.sIx_nat ..]
  show (xs.drop 0).take (min n xs.length - 0) = _
  rw [List.drop_zero, Nat.sub_zero]
  by_cases h : n ≤ xs.length
  · rw [Nat.min_eq_left h]
  · rw [Nat.min_eq_right (by omega), List.take_of_length_le (Nat.le_refl _), List.take_of_length_le (by omega)]
theorem cut_from (xs : List V) (n : Nat) : cutV xs (some (n : Int)) none = xs.drop n := by
  unfold cutV
  rw [HT.sIx_none, show HT.sIx xs.length 0 (some (n : Int)) = min n xs.length from HT.sIx_nat ..]
  by_cases h : n ≤ xs.length
  · rw [Nat.min_eq_left h, List.take_of_length_le (by rw [List.length_drop]; exact Nat.le_refl _)]
  · rw [Nat.min_eq_right (by omega), Nat.sub_self, List.take_zero, List.drop_eq_nil_of_le (by omega)]

theorem bigM_pos : (0 : Int) < 2 ^ (64 : Int).toNat * 2 ^ (63 : Int).toNat - 1 := by decide
theorem bigM_le : (2 ^ (64 : Int).toNat * 2 ^ (63 : Int).toNat - 1 : Int) ≤ 2 ^ 127 := by decide

/-! texts by their codes -/
def cutL (a : List Nat) (lo hi : Option Int) : List Nat := (cutS (S a) lo hi).cps.toList
theorem cutL_to (a : List Nat) (n : Nat) : cutL a none (some (n : Int)) = a.take n := by unfold cutL; rw [cutS_to]
theorem cutL_from (a : List Nat) (n : Nat) : cutL a (some (n : Int)) none = a.drop n := by unfold cutL; rw [cutS_from]
theorem cutL_length (a : List Nat) (lo hi : Option Int) : (cutL a lo hi).length ≤ a.length := by
  have h := cutS_length (S a) lo hi
  rw [SX.S_len] at h
  exact h
section
variable {X : Cx}
def rAddT : R2 := fun x y H Q => ∃ a b : List Nat, x = .str (S a) ∧ y = .str (S b) ∧ a.length + b.length ≤ 1000000 ∧ Q (.str (S (a ++ b))) H
theorem op_add_tx : OpR X (binaryOp .Add) rAddT := by
  intro pins s σ H x y v u Q I rx ry h
  obtain ⟨a, b, rfl, rfl, hz, q⟩ := h
  refine op_add_str pins s σ H _ _ v u Q I rx ry ⟨S a, S b, rfl, rfl, ?_, ?_⟩
  · rw [SX.S_len, SX.S_len]; unfold sizeLine; omega
  · rw [SX.S_cat]; exact q
def rSlT2 : V → Option Int → Option Int → Hp → VK → Prop := fun x lo hi H Q => ∃ a : List Nat, x = .str (S a) ∧ a.length ≤ 1000000 ∧ Q (.str (S (cutL a lo hi))) H
theorem sl_tx : SlR X rSlT2 := by
  intro pins s σ H x v vl vu lo hi sl Q I rx hs pl pu h
  obtain ⟨a, rfl, hz, q⟩ := h
  refine sl_str pins s σ H _ v vl vu lo hi sl Q I rx hs pl pu ⟨S a, rfl, ?_, ?_⟩
  · rw [SX.S_len]; unfold sizeLine; omega
  · have e : S (cutL a lo hi) = cutS (S a) lo hi := SX.S_tl _
    rw [← e]; exact q
theorem call_len_tx : CallR X (.builtin "len") (fun xs H Q => ∃ a : List Nat, xs = [.str (S a)] ∧ a.length ≤ 1000000 ∧ Q (.int a.length) H) := by
  intro pins s σ H xs us Q I r h
  obtain ⟨a, rfl, hz, q⟩ := h
  refine call_len_str pins s σ H _ us Q I r ⟨S a, rfl, ?_, ?_⟩
  · rw [SX.S_len]; unfold sizeLine; omega
  · rw [SX.S_len]; exact q
theorem mt_count_tx : MtR X "str.count" (fun x xs H Q => ∃ (a : List Nat) (c : Nat), x = .str (S a) ∧ xs = [.str (S [c])] ∧ Q (.int (a.count c)) H) := by
  intro pins s σ H x xs v us Q I rx rs h
  obtain ⟨a, c, rfl, rfl, q⟩ := h
  refine mt_count pins s σ H _ _ v us Q I rx rs ⟨S a, S [c], rfl, rfl, ?_⟩
  rw [count_S]; exact q
def rIxT2 : R2 := fun x y H Q => ∃ (a : List Nat) (i : Nat) (c : Nat), x = .str (S a) ∧ y = .int (i : Int) ∧ a.length ≤ 1000000 ∧ a[i]? = some c ∧ Q (.str (S [c])) H
theorem ix_tx : IxR X rIxT2 := by
  intro value slice pins s σ H x y v u Q I rx ry h hs
  obtain ⟨a, i, c, rfl, rfl, hz, hc, q⟩ := h
  exact ix_str value slice pins s σ H _ _ v u Q I rx ry ⟨S a, i, c, rfl, rfl, by rw [SX.S_len]; unfold sizeLine; omega, atI_nat hc, q⟩ hs
end
theorem b8000 {m : Int} (h : m.natAbs < 2 ^ 300) : m.natAbs < 2 ^ 8000 := Nat.lt_of_lt_of_le h (Nat.pow_le_pow_right (by decide) (by decide))
theorem b8k {m : Int} (h0 : 0 ≤ m) (h : m < 2 ^ 250) : m.natAbs < 2 ^ 8000 := Nat.lt_of_lt_of_le (show m.natAbs < 2 ^ 250 by omega) (Nat.pow_le_pow_right (by decide) (by decide))
theorem joinL_nil : ∀ ps : List (List Nat), TL.joinL [] ps = ps.flatten
  | [] => rfl
  | [p] => by simp [TL.joinL]
  | p :: q :: r => by
    have ih := joinL_nil (q :: r)
    rw [TL.joinL, ih]; simp
theorem abs_append (a b : List Nat) : abs (a ++ b) = (abs a && abs b) := by unfold abs; rw [List.all_append]
theorem abs_take {a : List Nat} (h : abs a = true) (n : Nat) : abs (a.take n) = true := by
  unfold abs at *
  exact List.all_eq_true.mpr fun x hx => List.all_eq_true.mp h x (List.mem_of_mem_take hx)
theorem abs_drop {a : List Nat} (h : abs a = true) (n : Nat) : abs (a.drop n) = true := by
  unfold abs at *
  exact List.all_eq_true.mpr fun x hx => List.all_eq_true.mp h x (List.mem_of_mem_drop hx)
theorem abs_rep {a : List Nat} (h : abs a = true) (n : Nat) : abs (repN n a) = true := by
  unfold abs at *
  exact List.all_eq_true.mpr fun x hx => List.all_eq_true.mp h x (mem_repN hx)
theorem abs_reverse (a : List Nat) : abs a.reverse = abs a := by unfold abs; rw [List.all_reverse]
theorem abs_flatten {ps : List (List Nat)} (h : ∀ p ∈ ps, abs p = true) : abs ps.flatten = true := by
  unfold abs at *
  refine List.all_eq_true.mpr fun x hx => ?_
  obtain ⟨p, hp, hx⟩ := List.mem_flatten.mp hx
  exact List.all_eq_true.mp (h p hp) x hx
theorem abs_get {a : List Nat} (h : abs a = true) {i c : Nat} (e : a[i]? = some c) : abs [c] = true := by
  unfold abs at *
  have := List.all_eq_true.mp h c (List.mem_of_getElem? e)
  simp only [List.all_cons, List.all_nil, Bool.and_true]; exact this
theorem len_flatten1 {ps : List (List Nat)} (h : ∀ p ∈ ps, p.length = 1) : ps.flatten.length = ps.length := by
  induction ps with
  | nil => rfl
  | cons p r ih =>
    rw [List.flatten_cons, List.length_append, ih fun q hq => h q (List.mem_cons_of_mem _ hq), h p List.mem_cons_self, List.length_cons]; omega

/-! data that can be shown -/
structure Fine (K : PySem.W.Frag) (H : Hp) (x : V) (d : PyData) : Prop where
  dx : Dx K H x d
  sh : d.showable = true
  lv : d.leavesShort 100 = true
  dp : d.depth ≤ 10
  wt : d.weight ≤ 4100
/-- no text -/
def NoStr (K : PySem.W.Frag) (H : Hp) (x : V) : Prop := ∃ t, TyX K H x t ∧ PySem.W.kitOne K t (.type "str") = some false
theorem noStr_ty {K : PySem.W.Frag} {H : Hp} {x : V} {T : String} (h : TyOf K H x (.type T)) (e : kitB T "str" = some false) : NoStr K H x := ⟨_, .base h, kit_ty e⟩
inductive Fines (K : PySem.W.Frag) (H : Hp) : List V → List PyData → Prop
  | nil : Fines K H [] []
  | cons {x : V} {d : PyData} {xs : List V} {ds : List PyData} : Fine K H x d → Fines K H xs ds → Fines K H (x :: xs) (d :: ds)
theorem Fines.append {K : PySem.W.Frag} {H : Hp} : ∀ {xs ys : List V} {ds es : List PyData}, Fines K H xs ds → Fines K H ys es → Fines K H (xs ++ ys) (ds ++ es)
  | _, _, _, _, .nil, b => b
  | _, _, _, _, .cons x a, b => .cons x (Fines.append a b)
theorem Fines.all {K : PySem.W.Frag} {H : Hp} : ∀ {xs : List V} {ds : List PyData}, Fines K H xs ds →
    DxAll K H xs ds ∧ PyData.showableAll ds = true ∧ PyData.leavesShortAll 100 ds = true ∧ PyData.depthAll ds ≤ 10 ∧ PyData.weightAll ds ≤ 4101 * xs.length
  | _, _, .nil => ⟨.nil, by simp [PyData.showableAll], by simp [PyData.leavesShortAll], by simp [PyData.depthAll], by simp [PyData.weightAll]⟩
  | _, _, .cons (x := x) (d := d) (xs := xs) (ds := ds) f r => by
    obtain ⟨h1, h2, h3, h4, h5⟩ := Fines.all r
    refine ⟨.cons f.dx h1, by simp [PyData.showableAll, f.sh, h2], by simp [PyData.leavesShortAll, f.lv, h3], ?_, ?_⟩
    · have := f.dp; simp only [PyData.depthAll]; omega
    · have := f.wt; simp only [PyData.weightAll, List.length_cons]; omega
mutual
theorem Dx.same {K : PySem.W.Frag} {H H' : Hp} (s : Same H H') : ∀ {d : PyData} {v : V}, Dx K H v d → Dx K H' v d
  | .none, _, h => by cases h; exact .non
  | .bool _, _, h => by cases h; exact .bl _
  | .int _, _, h => by cases h; exact .int _
  | .str _, _, h => by cases h; exact .str _
  | .list ds, _, h => by
    cases h with
    | lst a n r => exact .lst (s _ _ a) n (DxAll.same s r)
  | .tuple ds, _, h => by
    cases h with
    | tup a r => exact .tup (by
        rcases a with (a | ⟨o, a⟩) | a
        · exact .inl (.inl (s _ _ a))
        · exact .inl (.inr ⟨o, s _ _ a⟩)
        · exact .inr a) (DxAll.same s r)
  | .dict ds, _, h => by
    cases h with
    | dic a k v => exact .dic (s _ _ a) (DxKeys.same s k) (DxVals.same s v)
theorem DxAll.same {K : PySem.W.Frag} {H H' : Hp} (s : Same H H') : ∀ {ds : List PyData} {vs : List V}, DxAll K H vs ds → DxAll K H' vs ds
  | [], _, h => by cases h; exact .nil
  | d :: ds, _, h => by
    cases h with
    | cons a r => exact .cons (Dx.same s a) (DxAll.same s r)
theorem DxKeys.same {K : PySem.W.Frag} {H H' : Hp} (s : Same H H') : ∀ {ds : List (PyData × PyData)} {vs : List V}, DxAll K H vs (ds.map (·.1)) → DxAll K H' vs (ds.map (·.1))
  | [], _, h => by cases h; exact .nil
  | (d, _) :: ds, _, h => by
    cases h with
    | cons a r => exact .cons (Dx.same s a) (DxKeys.same s r)
theorem DxVals.same {K : PySem.W.Frag} {H H' : Hp} (s : Same H H') : ∀ {ds : List (PyData × PyData)} {vs : List V}, DxAll K H vs (ds.map (·.2)) → DxAll K H' vs (ds.map (·.2))
  | [], _, h => by cases h; exact .nil
  | (_, d) :: ds, _, h => by
    cases h with
    | cons a r => exact .cons (Dx.same s a) (DxVals.same s r)
end
theorem Fine.same {K : PySem.W.Frag} {H H' : Hp} {x : V} {d : PyData} (s : Same H H') (f : Fine K H x d) : Fine K H' x d := { f with dx := f.dx.same s }
theorem Fines.same {K : PySem.W.Frag} {H H' : Hp} (s : Same H H') : ∀ {xs : List V} {ds : List PyData}, Fines K H xs ds → Fines K H' xs ds
  | _, _, .nil => .nil
  | _, _, .cons f r => .cons (f.same s) (r.same s)
theorem fine_txt {K : PySem.W.Frag} {H : Hp} {a : List Nat} (h : ∀ c ∈ a, c < 1000) (hl : a.length ≤ 4100) : Fine K H (.str (S a)) (.str (S a)) := by
  refine ⟨.str _, by simp [PyData.showable], ?_, by simp [PyData.depth], ?_⟩
  · simp only [PyData.leavesShort, List.all_eq_true, decide_eq_true_eq]
    intro c hc
    have := h c hc
    have e : (16 : Nat) ^ 8 = 4294967296 := by decide
    omega
  · show (S a).cps.size ≤ 4100
    rw [show (S a).cps.size = a.length from SX.S_len a]; exact hl
theorem fine_signs {K : PySem.W.Frag} {H : Hp} : ∀ {a : List Nat}, (∀ c ∈ a, c < 1000) → ∃ ds, DxAll K H (sg a) ds ∧ PyData.showableAll ds = true ∧ PyData.leavesShortAll 100 ds = true ∧ PyData.depthAll ds = 0 ∧ PyData.weightAll ds = 2 * a.length
  | [], _ => ⟨[], .nil, by simp [PyData.showableAll], by simp [PyData.leavesShortAll], by simp [PyData.depthAll], by simp [PyData.weightAll]⟩
  | c :: r, h => by
    obtain ⟨ds, h1, h2, h3, h4, h5⟩ := fine_signs (K := K) (H := H) (a := r) fun x hx => h x (List.mem_cons_of_mem _ hx)
    have f := fine_txt (K := K) (H := H) (a := [c]) (fun x hx => h x (by rw [List.mem_singleton.mp hx]; exact List.mem_cons_self)) (by show 1 ≤ 4100; decide)
    refine ⟨.str (S [c]) :: ds, .cons f.dx h1, by simp [PyData.showableAll, f.sh, h2], by simp [PyData.leavesShortAll, f.lv, h3], by simp [PyData.depthAll, PyData.depth, h4], ?_⟩
    have e : (PyData.str (S [c])).weight = 1 := rfl
    simp only [PyData.weightAll, e, h5, List.length_cons]
    omega
theorem fine_lst {K : PySem.W.Frag} {H : Hp} {p : Addr} {xs : List V} {ds : List PyData} (e : H p = some (.lst xs)) (n : p ≠ sysModules) (h : DxAll K H xs ds) (s : PyData.showableAll ds = true) (l : PyData.leavesShortAll 100 ds = true) (d : PyData.depthAll ds ≤ 9) (w : PyData.weightAll ds ≤ 4099) :
    Fine K H (.ref p) (.list ds) := ⟨.lst e n h, by simpa [PyData.showable] using s, by simpa [PyData.leavesShort] using l, by simp only [PyData.depth]; omega, by simp only [PyData.weight]; omega⟩
theorem fine_tup {K : PySem.W.Frag} {H : Hp} {p : Addr} {xs : List V} {ds : List PyData} (e : H p = some (.tup xs)) (h : DxAll K H xs ds) (s : PyData.showableAll ds = true) (l : PyData.leavesShortAll 100 ds = true) (d : PyData.depthAll ds ≤ 9) (w : PyData.weightAll ds ≤ 4099) :
    Fine K H (.ref p) (.tuple ds) := ⟨.tup (SqT.of e) h, by simpa [PyData.showable] using s, by simpa [PyData.leavesShort] using l, by simp only [PyData.depth]; omega, by simp only [PyData.weight]; omega⟩
/-- what is no row -/
def BadRow (K : PySem.W.Frag) (H : Hp) (x : V) : Prop := (∃ a : List Nat, x = .str (S a) ∧ a.length ≤ 100000 ∧ rowB a = false) ∨ NoStr K H x
/-- a new list of values that are no rows -/
def spNoRows (K : PySem.W.Frag) : Sp := fun vs H Q _ => ∃ (r : Addr) (a : List Nat), vs = [.ref r, .str (S a)] ∧ Reel H r ∧ a.length ≤ 200 ∧ abs a = true ∧
  ∀ (b : Addr) (xs : List V) (ds : List PyData) (H' : Hp), Step r H H' → Reel H' r → H b = none → H' b = some (.lst xs) → b ≠ sysModules → Fines K H' xs ds → (∀ x ∈ xs, BadRow K H' x) → xs.length = 28 → Q (.ref b) H'

theorem abs_lt {a : List Nat} (h : abs a = true) : ∀ c ∈ a, c < 1000 := fun c hc => by
  have := List.all_eq_true.mp h c hc
  simp only [Bool.or_eq_true, beq_iff_eq] at this
  omega
theorem not_abs {a : List Nat} {c : Nat} (hc : c ∈ a) (h1 : c ≠ 97) (h2 : c ≠ 98) : rowB a = false := by
  unfold rowB
  cases e : abs a with
  | false => exact Bool.and_false _
  | true =>
    have := List.all_eq_true.mp e c hc
    simp only [Bool.or_eq_true, beq_iff_eq] at this
    omega
theorem rowB_long {a : List Nat} (h : 200 < a.length) : rowB a = false := by unfold rowB; rw [decide_eq_false (by omega), Bool.false_and]
def mix (a : List Nat) (j c : Nat) : List Nat := a.take j ++ [c] ++ a.drop (j + 1)
theorem mix_len (a : List Nat) (j c : Nat) (h : a.length ≤ 200) : (mix a j c).length ≤ 201 := by
  unfold mix; rw [List.length_append, List.length_append, List.length_take, List.length_drop]; show min j a.length + 1 + _ ≤ _; omega
theorem mix_lt {a : List Nat} (h : abs a = true) (j c : Nat) (hc : c < 1000) : ∀ x ∈ mix a j c, x < 1000 := by
  intro x hx
  unfold mix at hx
  rcases List.mem_append.mp hx with hx | hx
  · rcases List.mem_append.mp hx with hx | hx
    · exact abs_lt h x (List.mem_of_mem_take hx)
    · rw [List.mem_singleton.mp hx]; exact hc
  · exact abs_lt h x (List.mem_of_mem_drop hx)
theorem mix_mem (a : List Nat) (j c : Nat) : c ∈ mix a j c := List.mem_append_left _ (List.mem_append_right _ List.mem_cons_self)
theorem fines_mix {K : PySem.W.Frag} {H : Hp} {a : List Nat} (h : abs a = true) (hl : a.length ≤ 200) (j : Nat) : ∀ {cs : List Nat}, (∀ c ∈ cs, c < 1000) → Fines K H (cs.map fun c => V.str (S (mix a j c))) (cs.map fun c => PyData.str (S (mix a j c)))
  | [], _ => .nil
  | c :: r, hc => .cons (fine_txt (mix_lt h j c (hc c List.mem_cons_self)) (by have := mix_len a j c hl; omega)) (fines_mix h hl j fun x hx => hc x (List.mem_cons_of_mem _ hx))

/-- a comprehension over a text -/
theorem lc_txt {a : List Nat} {g : TG} {tt : TT} {te : TE} {vs : List Nat} {σ : L2.St} {H1 : Hp} {D : Addr} {Qd : Hp → Prop} (Pv : Nat → Hp → Prop) (h0 : Pv 0 (upd H1 D (.lst [])))
    (hs : ∀ i c H, a[i]? = some c → Pv i H → g (.str (S [c])) (wipe σ vs) H fun σ2 H2 => wipe σ2 vs = wipe σ vs ∧ tt σ2 H2 fun b H3 =>
      if b = true then te σ2 H3 fun y H4 => ∃ acc, H4 D = some (.lst acc) ∧ acc.length < sizeLine ∧ Pv (i + 1) (upd H4 D (.lst (acc ++ [y]))) else Pv (i + 1) H3) (hd : ∀ H, Pv a.length H → Qd H) :
    ∃ W : Nat → Nat → Hp → Prop, (∃ m, W 0 m (upd H1 D (.lst []))) ∧ ∀ i m H, W i m H →
      ((Its (S a)).stop i H ∧ Qd H) ∨ ((Its (S a)).go i H ∧ ∃ Nx : Hp → Prop, (∀ H', Nx H' → ∃ m', m' < m ∧ W (i + 1) m' H') ∧ ∀ x H', (Its (S a)).yld i H x H' → g x (wipe σ vs) H' fun σ2 H2 => wipe σ2 vs = wipe σ vs ∧ tt σ2 H2 fun b H3 =>
        if b = true then te σ2 H3 fun y H4 => ∃ acc, H4 D = some (.lst acc) ∧ acc.length < sizeLine ∧ Nx (upd H4 D (.lst (acc ++ [y]))) else Nx H3) := by
  refine ⟨fun i m H => m = a.length - i ∧ i ≤ a.length ∧ Pv i H, ⟨a.length, by omega, Nat.zero_le _, h0⟩, ?_⟩
  rintro i m H ⟨rfl, hi, p⟩
  have sz : (S a).cps.size = a.length := SX.S_len a
  by_cases hlt : i < a.length
  · refine .inr ⟨(show i < (S a).cps.size by omega), Pv (i + 1), fun H' p' => ⟨a.length - (i + 1), by omega, rfl, hlt, p'⟩, fun x H' y => ?_⟩
    obtain ⟨e, c, hc, ex⟩ := y
    subst e ex
    have hc' : a[i]? = some c := by
      have : (S a).cps[i]? = a[i]? := List.getElem?_toArray ..
      rw [← this]; exact hc
    exact hs i c _ hc' p
  · have e : i = a.length := by omega
    subst e
    exact .inl ⟨(show (S a).cps.size ≤ a.length by omega), hd _ p⟩
theorem ne_nil {K : PySem.W.Frag} {H : Hp} {D e : Addr} (h1 : H D = some (.lst [])) (h2 : H e = some (.lst [])) {Q : V → Prop} (q : Q (.bl false)) : ∃ d e', Dp K H (.ref D) d ∧ Dp K H (.ref e) e' ∧ SeqAt.shaped d = true ∧ SeqAt.shaped e' = true ∧ Q (.bl (!PyData.eqv d e')) :=
  ⟨.list [], .list [], .lst (SqL.of h1) .nil, .lst (SqL.of h2) .nil, shaped_nil, shaped_nil, by rw [eqv_nil]; exact q⟩
theorem rep_data {K : PySem.W.Frag} {H : Hp} {p : Addr} {xs : List V} {ds : List PyData} (e : H p = some (.lst xs)) (n : p ≠ sysModules) (f : Fines K H xs ds) (l : xs.length ≤ 60) :
    Dx K H (.ref p) (.list ds) ∧ (PyData.list ds).showable = true ∧ (PyData.list ds).leavesShort 100 = true ∧ (PyData.list ds).depth ≤ 11 ∧ (PyData.list ds).weight ≤ 4101 * xs.length := by
  obtain ⟨h1, h2, h3, h4, h5⟩ := f.all
  exact ⟨.lst e n h1, by simpa [PyData.showable] using h2, by simpa [PyData.leavesShort] using h3, by simp only [PyData.depth]; omega, by simp only [PyData.weight]; omega⟩
theorem rep_two {K : PySem.W.Frag} {H : Hp} {p q r : Addr} {xs ys : List V} {ds es : List PyData} (e : H p = some (.lst xs)) (n : p ≠ sysModules) (f : Fines K H xs ds) (l : xs.length ≤ 6) (e2 : H q = some (.lst ys)) (n2 : q ≠ sysModules) (f2 : Fines K H ys es) (l2 : ys.length ≤ 28)
    (e3 : H r = some (.lst [.ref p, .ref q])) (n3 : r ≠ sysModules) :
    Dx K H (.ref r) (.list [.list ds, .list es]) ∧ (PyData.list [.list ds, .list es]).showable = true ∧ (PyData.list [.list ds, .list es]).shown.length ≤ sizeLine ∧ (PyData.list [.list ds, .list es]).depth ≤ 50 := by
  obtain ⟨a1, a2, a3, a4, a5⟩ := rep_data e n f (by omega)
  obtain ⟨b1, b2, b3, b4, b5⟩ := rep_data e2 n2 f2 (by omega)
  refine ⟨.lst e3 n3 (.cons a1 (.cons b1 .nil)), ?_, ?_, ?_⟩
  · simp only [PyData.showable, PyData.showableAll] at a2 b2 ⊢
    rw [a2, b2]; rfl
  · have h := PyData.shown_le 100 (by decide) (.list [.list ds, .list es]) (by simp only [PyData.leavesShort, PyData.leavesShortAll] at a3 b3 ⊢; rw [a3, b3]; rfl)
    have hw : (PyData.list [.list ds, .list es]).weight = (PyData.list ds).weight + 1 + ((PyData.list es).weight + 1 + 0) := by simp only [PyData.weight, PyData.weightAll]
    rw [hw] at h
    unfold sizeLine
    omega
  · have hd : (PyData.list [.list ds, .list es]).depth = max (PyData.list ds).depth (max (PyData.list es).depth 0) + 1 := by simp only [PyData.depth, PyData.depthAll]
    rw [hd]; omega

theorem fines_txts {K : PySem.W.Frag} {H : Hp} : ∀ {gl : List (List Nat)}, (∀ g ∈ gl, abs g = true ∧ g.length ≤ 200) → Fines K H (gl.map fun g => V.str (S g)) (gl.map fun g => PyData.str (S g))
  | [], _ => .nil
  | g :: r, h => .cons (fine_txt (abs_lt (h g List.mem_cons_self).1) (by have := (h g List.mem_cons_self).2; omega)) (fines_txts fun x hx => h x (List.mem_cons_of_mem _ hx))
theorem rowB_of {g : List Nat} (h : abs g = true ∧ g.length ≤ 200) : rowB g = true := by unfold rowB; rw [decide_eq_true h.2, h.1]; rfl

theorem tyOf_same {K : PySem.W.Frag} {H H' : Hp} (s : Same H H') {x : V} {t : Value} (h : TyOf K H x t) : TyOf K H' x t := by
  cases h with
  | non => exact .non
  | bl x => exact .bl x
  | int i => exact .int i
  | str x => exact .str x
  | flt x => exact .flt x
  | lst e => exact .lst (s _ _ e)
  | frz e => exact .frz (s _ _ e)
  | tup e => exact .tup (s _ _ e)
  | dK e => exact .dK (s _ _ e)
  | dT e => exact .dT (s _ _ e)
  | ins e cl ha hn htk hm => exact .ins (s _ _ e) cl ha hn htk hm
theorem tyX_same {K : PySem.W.Frag} {H H' : Hp} (s : Same H H') {x : V} {t : Value} (h : TyX K H x t) : TyX K H' x t := by
  cases h with
  | base h => exact .base (tyOf_same s h)
  | byt b => exact .byt b
  | set e => exact .set (s _ _ e)
  | kList e c => exact .kList e c
  | kTuple e c => exact .kTuple e c
  | kDict e c => exact .kDict e c
  | fTuple e => exact .fTuple (s _ _ e)
  | fDict e => exact .fDict (s _ _ e)
theorem BadRow.same {K : PySem.W.Frag} {H H' : Hp} (s : Same H H') {x : V} (h : BadRow K H x) : BadRow K H' x := by
  rcases h with h | ⟨t, h1, h2⟩
  · exact .inl h
  · exact .inr ⟨t, tyX_same s h1, h2⟩
end Vx
namespace Vx
open PySem PySem.Spec PyProof.Rows L2
/-! zip of a list and a text -/
def Itlt (K : PySem.W.Frag) (a : Addr) (x : Str) : It :=
  ⟨fun i H => ∃ xs, SqL K H a xs ∧ i < xs.length ∧ i < x.cps.size,
    fun i H v H' => ∃ T y c, v = .ref T ∧ H T = none ∧ H' = upd H T (.tup [y, .str ⟨#[c]⟩]) ∧ (∀ xs, SqL K H a xs → xs[i]? = some y) ∧ x.cps[i]? = some c,
    fun i H => ∃ xs, SqL K H a xs ∧ i ≤ xs.length ∧ i ≤ x.cps.size ∧ (i = xs.length ∨ i = x.cps.size)⟩
theorem turn_zipLT {P : Program} {w : World} {K : PySem.W.Frag} {elts : List Expr} {kk : Nat} {tpos : Pos} {a z TI TO i1 i2 : Addr} {x : Str} {t : Tok} (S : ZipSep2 z TI TO i1 i2 [i1, a] [i2]) (ne : a ≠ i1) :
    Turn P w K (.Tuple elts kk tpos) (Itlt K a x) [z, TI, TO, i1, i2] z (fun i h => IsZip h z TI TO .none ∧ IsTupOf2 h TI (.ref i1) (.ref i2) ∧ (∃ u v, IsTupOf2 h TO u v) ∧ h.IsListIter i1 a i ∧ h.IsStrIter i2 (strIterType x) x t i) where
  mem := by simp
  obj := fun i h st c hc => by
    obtain ⟨hz, hTI, ⟨u, v, hTO⟩, ⟨o1, e1, _, d1⟩, ⟨o2, e2, _, d2⟩⟩ := st
    simp only [List.mem_cons, List.not_mem_nil, or_false] at hc
    rcases hc with rfl | rfl | rfl | rfl | rfl
    · exact ⟨_, hz, fun v q => nomatch q⟩
    · exact ⟨_, hTI, fun v q => nomatch q⟩
    · exact ⟨_, hTO, fun v q => nomatch q⟩
    · exact ⟨o1, e1, fun v q => by rw [d1] at q; cases q⟩
    · exact ⟨o2, e2, fun v q => by rw [d2] at q; cases q⟩
  keep := fun i h h' st k => by
    obtain ⟨hz, hTI, ⟨u, v, hTO⟩, h1, ⟨o2, e2, r2⟩⟩ := st
    exact ⟨k z (by simp) _ hz, k TI (by simp) _ hTI, ⟨u, v, k TO (by simp) _ hTO⟩, h1.at fun o q => k i1 (by simp) o q, ⟨o2, k i2 (by simp) o2 e2, r2⟩⟩
  item := by
    intro X hP hw hK hc i pins s σ H E I hf st hg
    subst hP hw hK
    obtain ⟨hz, hTI, ⟨u0, v0, hTO⟩, h1, h2⟩ := st
    obtain ⟨xs, hq, hi, hi2⟩ := hg
    obtain ⟨its, rv, p, _⟩ := I.list hq
    have many := rv.length
    have hzl : z < s.heap.objs.size := Heap.lt_size hz
    have calm : X.A.in1.handled = none := I.ok.hd hc
    refine wpAny_pyNext_zipD2_item S (Draws.list calm i1 a ne its.toArray) (Draws.text calm i2 x t) hz hTI hTO ⟨h1, p.isList⟩ h2 (by simp only [List.size_toArray]; omega) hi2 ?_
    rintro x1 x2 h' tk hx1 ⟨c, tc, hcx, rfl⟩ z' TO' ⟨h1', _⟩ h2' hT hsz hk
    refine ⟨_, rfl, wpAny_letOwnedTupleGo_zip (s := { s with heap := h', toks := tk }) z' fun h'' z'' sb => ?_⟩
    have gx : xs[i]? = some xs[i] := List.getElem?_eq_getElem hi
    obtain ⟨u, hu, ru⟩ := rv.get gx
    obtain rfl : x1 = u := by
      have e : its[i]? = some x1 := by simpa using hx1
      rw [hu] at e; exact (Option.some.inj e).symm
    have hT2 : h''.get? s.heap.objs.size = some { cls := .type "tuple", data := .seq #[x1, .str ⟨#[c]⟩ tc] } := (sb.2 _ (Nat.ne_of_gt hzl)).trans hT
    have new : ObjOk X.prog X.w (upd H s.heap.objs.size (.tup [xs[i], .str ⟨#[c]⟩])) h'' s.heap.objs.size (.tup [xs[i], .str ⟨#[c]⟩]) :=
      ⟨by show 2 ≤ sizeLine; decide, [x1, .str ⟨#[c]⟩ tc], .cons ru (.cons ⟨tc, rfl⟩ .nil), ⟨_, hT2, rfl, _, rfl⟩⟩
    have I1 : Inv X pins σ (upd H s.heap.objs.size (.tup [xs[i], .str ⟨#[c]⟩])) { s with heap := h'', toks := tk } :=
      I.turnedNew (t' := tk) (ch := [z, TI, TO, i1, i2]) (fun d o hb q => by
        simp only [List.mem_cons, List.not_mem_nil, or_false, not_or] at hb
        obtain ⟨b1, b2, b3, b4, b5⟩ := hb
        exact (sb.2 d b1).trans (hk d o b1 b3 b4 b5 q)) hf (Nat.le_refl _) new
    refine ⟨.ref s.heap.objs.size, _, I1, rfl, ⟨_, xs[i], c, rfl, I.hok.fresh (Nat.le_refl _), rfl, fun l hl => by rw [I.list_inj hl hq]; exact gx, hcx⟩, ⟨z'', ?_, ⟨x1, .str ⟨#[c]⟩ tc, ?_⟩, ?_, ?_⟩, fun d hd => ?_⟩
    · exact (sb.2 _ S.TIz).trans (hk _ _ S.TIz S.TITO S.TIi1 S.TIi2 hTI)
    · exact (sb.2 _ S.TOz).trans TO'
    · exact h1'.at fun o q => (sb.2 _ S.zi1.symm).trans q
    · obtain ⟨o2, e2, r2⟩ := h2'
      exact ⟨o2, (sb.2 _ S.zi2.symm).trans e2, r2⟩
    · have below : d < s.heap.objs.size := by
        simp only [List.mem_cons, List.not_mem_nil, or_false] at hd
        rcases hd with rfl | rfl | rfl | rfl | rfl
        · exact hzl
        · exact Heap.lt_size hTI
        · exact Heap.lt_size hTO
        · obtain ⟨_, e, _⟩ := h1; exact Heap.lt_size e
        · obtain ⟨_, e, _⟩ := h2; exact Heap.lt_size e
      rw [upd_ne (Nat.ne_of_lt below)]
      exact (hf d hd).1
  done := by
    intro X hP hw hK hc i pins s σ H E I hf st hg
    subst hP hw hK
    obtain ⟨hz, hTI, ⟨u0, v0, hTO⟩, h1, h2⟩ := st
    obtain ⟨xs, hq, l1, l2, hend⟩ := hg
    obtain ⟨its, rv, p, _⟩ := I.list hq
    have many := rv.length
    have calm : X.A.in1.handled = none := I.ok.hd hc
    refine wpAny_pyNext_zipD2_end S (Draws.list calm i1 a ne its.toArray) (Draws.text calm i2 x t) hz hTI hTO ⟨h1, p.isList⟩ h2 (by simp only [List.size_toArray]; omega) l2 (by simp only [List.size_toArray]; omega) ?_
    intro h' tk hk
    exact ⟨rfl, I.turnedL (t' := tk) (ch := [z, TI, TO, i1, i2]) (fun d o hb q => by
      simp only [List.mem_cons, List.not_mem_nil, or_false, not_or] at hb
      obtain ⟨b1, b2, b3, b4, b5⟩ := hb
      exact hk d o b1 b3 b4 b5 q) hf⟩
  self := fun A i s Q E st h => wpAny_pyIter_zip st.1 h
def iZipLT (K : PySem.W.Frag) (ta : TA) : TI := fun σ H R => ta σ H fun vs H1 => ∃ a xs x, vs = [.ref a, .str x] ∧ SqL K H1 a xs ∧ R (Itlt K a x) H1
theorem pi_zipLT {X : Cx} {e e2 : Expr} {ta : TA} {p pos tpos : Pos} {elts : List Expr} {kk : Nat} (hg : Gl X "zip") (hm : X.mg "zip" = none) (ha : PA X [e, e2] ta)
    (hs : starEach [e, e2] X.env = (false, eval e X.env) :: starEach [e2] X.env := by rfl) (hpl : (backTo pos (starEach [e2] X.env)).any (·.1) = false := by rfl) :
    PI X (.Tuple elts kk tpos) (.Call (.Name "zip" p) [e, e2] [] pos) (iZipLT X.K ta) := by
  constructor
  intro pins s σ H R I h
  refine Call_ (ld_blt I hg hm PyProof.Rows.boot_zip (PyProof.Rows.callWith_type1 (thn (ha.run pos pins s σ H _ I h) ?_) hs hpl))
  rintro us s1 ⟨vs, H1, I1, r1, a, xs, x, rfl, hq, q⟩
  obtain ⟨u1, u2, rfl, r1, r2⟩ := vals2 r1
  cases r1
  obtain ⟨t, rfl⟩ := r2
  obtain ⟨its, rv, p1, _⟩ := I1.list hq
  have la : a < s1.heap.objs.size := p1.lt
  refine zip_begins2 (begins_list a its.toArray) (begins_text x t) p1.isList trivial fun h' hz hTI hTO g1 g2 hsz hk => wpAny_pyIter_zip hz ?_
  have I2 : Inv X pins σ H1 { s1 with heap := h' } := I1.kept (t' := s1.toks) hk
  have sep := zip_sep2 (N := s1.heap.objs.size) (fp1 := [a]) (fp2 := []) (fun b hb => by rw [List.mem_singleton.mp hb]; exact la) (fun b hb => nomatch hb)
  refine ⟨s1.heap.objs.size + 4, [s1.heap.objs.size + 4, s1.heap.objs.size + 2, s1.heap.objs.size + 3, s1.heap.objs.size, s1.heap.objs.size + 1], _, _, H1, rfl, I2, turn_zipLT (t := t) sep (Nat.ne_of_lt la), ⟨hz, hTI, ⟨_, _, hTO⟩, ⟨_, g1, rfl, rfl⟩, ⟨_, g2, rfl, rfl⟩⟩, fun c hc => ?_, q⟩
  have above : s1.heap.objs.size ≤ c := by
    simp only [List.mem_cons, List.not_mem_nil, or_false] at hc
    rcases hc with z | z | z | z | z
    · rw [z]; exact Nat.le_add_right _ _
    · rw [z]; exact Nat.le_add_right _ _
    · rw [z]; exact Nat.le_add_right _ _
    · rw [z]; exact Nat.le_refl _
    · rw [z]; exact Nat.le_add_right _ _
  exact I1.fpOk above (I1.hok.fresh above)
/-- a comprehension over a zip of a list and a text of one length -/
theorem lc_zipLT {K : PySem.W.Frag} {a : Addr} {xs : List V} {cs : List Nat} {g : TG} {tt : TT} {te : TE} {vs : List Nat} {σ : L2.St} {H1 : Hp} {D : Addr} {Qd : Hp → Prop} (m : Nat) (hm : m ≤ xs.length ∧ m ≤ cs.length ∧ (m = xs.length ∨ m = cs.length)) (Pv : Nat → Hp → Prop) (h0 : Pv 0 (upd H1 D (.lst [])))
    (hl : ∀ i H, i ≤ m → Pv i H → SqL K H a xs)
    (hs : ∀ i y c T H, xs[i]? = some y → cs[i]? = some c → Pv i H → H T = none → g (.ref T) (wipe σ vs) (upd H T (.tup [y, .str (S [c])])) fun σ2 H2 => wipe σ2 vs = wipe σ vs ∧ tt σ2 H2 fun b H3 =>
      if b = true then te σ2 H3 fun y H4 => ∃ acc, H4 D = some (.lst acc) ∧ acc.length < sizeLine ∧ Pv (i + 1) (upd H4 D (.lst (acc ++ [y]))) else Pv (i + 1) H3) (hd : ∀ H, Pv m H → Qd H) :
    ∃ W : Nat → Nat → Hp → Prop, (∃ m, W 0 m (upd H1 D (.lst []))) ∧ ∀ i m H, W i m H →
      ((Itlt K a (S cs)).stop i H ∧ Qd H) ∨ ((Itlt K a (S cs)).go i H ∧ ∃ Nx : Hp → Prop, (∀ H', Nx H' → ∃ m', m' < m ∧ W (i + 1) m' H') ∧ ∀ x H', (Itlt K a (S cs)).yld i H x H' → g x (wipe σ vs) H' fun σ2 H2 => wipe σ2 vs = wipe σ vs ∧ tt σ2 H2 fun b H3 =>
        if b = true then te σ2 H3 fun y H4 => ∃ acc, H4 D = some (.lst acc) ∧ acc.length < sizeLine ∧ Nx (upd H4 D (.lst (acc ++ [y]))) else Nx H3) := by
  have sz : (S cs).cps.size = cs.length := SX.S_len cs
  refine ⟨fun i k H => k = m - i ∧ i ≤ m ∧ Pv i H, ⟨m, by omega, Nat.zero_le _, h0⟩, ?_⟩
  rintro i k H ⟨rfl, hi, p⟩
  have q := hl i H hi p
  by_cases hlt : i < m
  · refine .inr ⟨⟨xs, q, by omega, by omega⟩, Pv (i + 1), fun H' p' => ⟨m - (i + 1), by omega, rfl, hlt, p'⟩, fun x H' y => ?_⟩
    obtain ⟨T, y, c, rfl, nT, rfl, hy, hc⟩ := y
    have hc' : cs[i]? = some c := by
      have : (S cs).cps[i]? = cs[i]? := List.getElem?_toArray ..
      rw [← this]; exact hc
    exact hs i y c T H (hy xs q) hc' p nT
  · have e : i = m := by omega
    subst e
    exact .inl ⟨⟨xs, q, hm.1, by omega, by omega⟩, hd _ p⟩
end Vx
namespace Vx
open PySem PySem.Spec PyProof.Rows L2
/-! enumerate over a text -/
def Itet (x : Str) : It :=
  ⟨fun i H => i < x.cps.size, fun i H v H' => ∃ T c, v = .ref T ∧ H T = none ∧ H' = upd H T (.tup [.int (i : Nat), .str ⟨#[c]⟩]) ∧ x.cps[i]? = some c, fun i H => i = x.cps.size⟩
theorem turn_enumT {P : Program} {w : World} {K : PySem.W.Frag} {elts : List Expr} {kk : Nat} {tpos : Pos} {x : Str} {t : Tok} (e it : Addr) (ne : e ≠ it) :
    Turn P w K (.Tuple elts kk tpos) (Itet x) [e, it] e (fun i h => (∃ old, IsEnum h e it ((i : Nat) : Int) old) ∧ h.IsStrIter it (strIterType x) x t i) where
  mem := by simp
  obj := fun i h st b hb => by
    obtain ⟨⟨old, he⟩, ⟨o, ho, hc, hd⟩⟩ := st
    have e' : b = e ∨ b = it := by simpa using hb
    rcases e' with z | z
    · rw [z]; exact ⟨_, he, fun v q => nomatch q⟩
    · rw [z]; exact ⟨o, ho, fun v q => by rw [hd] at q; cases q⟩
  keep := fun i h h' st k => let ⟨⟨old, he⟩, o, ho, r⟩ := st; ⟨⟨old, k e (by simp) _ he⟩, ⟨o, k it (by simp) o ho, r⟩⟩
  item := by
    intro X hP hw hK hc i pins s σ H E I hf st hg
    subst hP hw hK
    obtain ⟨⟨old, he⟩, hit⟩ := st
    have calm : X.A.in1.handled = none := I.ok.hd hc
    have hel : e < s.heap.objs.size := Heap.lt_size he
    have hil : it < s.heap.objs.size := by obtain ⟨_, q, _⟩ := hit; exact Heap.lt_size q
    refine wpAny_pyNext_enum_itemD (Draws.text calm it x t) he hit hg ne (fun z => ne (List.mem_singleton.mp z)) ?_
    rintro u h' tk ⟨c, tc, hcx, rfl⟩ ho hit' hT hsz hk
    refine ⟨_, rfl, wpAny_letOwnedTupleGo_enum (s := { s with heap := h', toks := tk + 1 }) ho fun h'' he' sb => ?_⟩
    have hT2 : h''.get? s.heap.objs.size = some { cls := .type "tuple", data := .seq #[.int i tk, .str ⟨#[c]⟩ tc] } := (sb.2 _ (Nat.ne_of_gt hel)).trans hT
    have new : ObjOk X.prog X.w (upd H s.heap.objs.size (.tup [.int (i : Nat), .str ⟨#[c]⟩])) h'' s.heap.objs.size (.tup [.int (i : Nat), .str ⟨#[c]⟩]) :=
      ⟨by show 2 ≤ sizeLine; decide, [.int i tk, .str ⟨#[c]⟩ tc], .cons ⟨_, rfl⟩ (.cons ⟨_, rfl⟩ .nil), ⟨_, hT2, rfl, _, rfl⟩⟩
    have I1 : Inv X pins σ (upd H s.heap.objs.size (.tup [.int (i : Nat), .str ⟨#[c]⟩])) { s with heap := h'', toks := tk + 1 } :=
      I.turnedNew (t' := tk + 1) (ch := [e, it]) (fun b ob hb q => (sb.2 b (fun z => hb (by simp [z]))).trans (hk b ob (fun z => hb (by simp [z])) (fun z => hb (by simp [z])) q)) hf (Nat.le_refl _) new
    refine ⟨.ref s.heap.objs.size, _, I1, rfl, ⟨_, c, rfl, I.hok.fresh (Nat.le_refl _), rfl, hcx⟩, ⟨⟨.str ⟨#[c]⟩ tc, ?_⟩, ?_⟩, fun b hb => ?_⟩
    · have e1 : ((i + 1 : Nat) : Int) = (i : Int) + 1 := by omega
      rw [e1]; exact he'
    · obtain ⟨o2, e2, r2⟩ := hit'
      exact ⟨o2, (sb.2 it (Ne.symm ne)).trans e2, r2⟩
    · have hb' : b < s.heap.objs.size := by
        have e' : b = e ∨ b = it := by simpa using hb
        rcases e' with z | z
        · rw [z]; exact hel
        · rw [z]; exact hil
      rw [upd_ne (Nat.ne_of_lt hb')]
      exact (hf b hb).1
  done := by
    intro X hP hw hK hc i pins s σ H E I hf st hg
    subst hP hw hK
    obtain ⟨⟨old, he⟩, hit⟩ := st
    have calm : X.A.in1.handled = none := I.ok.hd hc
    have hg' : i = x.cps.size := hg
    subst hg'
    obtain ⟨f0, f1, f2, f3, f4, f5⟩ := hf it (by simp)
    exact wpAny_pyNext_enum_endD (Draws.text calm it x t) he hit fun h' eb => ⟨rfl, I.turned (t' := s.toks) (fun b o hb q => eb b o hb q) f0 f1 f3 f4 f5⟩
  self := fun A i s Q E st h => let ⟨⟨_, he⟩, _⟩ := st; wpAny_pyIter_enum he h
def iEnumT (ta : TA) : TI := fun σ H R => ta σ H fun vs H1 => ∃ x, vs = [.str x] ∧ R (Itet x) H1
theorem pi_enumT {X : Cx} {e : Expr} {ta : TA} {p pos tpos : Pos} {elts : List Expr} {kk : Nat} (hg : Gl X "enumerate") (hm : X.mg "enumerate" = none) (ha : PA X [e] ta) (hs : starEach [e] X.env = [(false, eval e X.env)] := by rfl) :
    PI X (.Tuple elts kk tpos) (.Call (.Name "enumerate" p) [e] [] pos) (iEnumT ta) := by
  refine ⟨fun pins s σ H R I h => ?_⟩
  refine Call_ (ld_blt I hg hm boot_enumerate (PyProof.Rows.callWith_type1 (thn (ha.run pos pins s σ H _ I h) fun us s1 ⟨vs, H1, I1, r1, q1⟩ => ?_) hs rfl))
  obtain ⟨x, rfl, q⟩ := q1
  obtain ⟨u, rfl, r⟩ := vals1 r1
  obtain ⟨t, rfl⟩ := r
  refine call_enumerate_str fun h' he hit hsz hk => wpAny_pyIter_enum he ?_
  have I2 : Inv X pins σ H1 { s1 with heap := h' } := I1.kept (t' := s1.toks) hk
  refine ⟨s1.heap.objs.size + 1, [s1.heap.objs.size + 1, s1.heap.objs.size], _, _, H1, rfl, I2, turn_enumT (t := t) (s1.heap.objs.size + 1) s1.heap.objs.size (Nat.succ_ne_self _), ⟨⟨.none, he⟩, hit⟩, fun b hb => ?_, q⟩
  have e' : b = s1.heap.objs.size + 1 ∨ b = s1.heap.objs.size := by simpa using hb
  have hle : s1.heap.objs.size ≤ b := by
    rcases e' with z | z
    · rw [z]; exact Nat.le_add_right _ _
    · rw [z]; exact Nat.le_refl _
  exact I1.fpOk hle (I1.hok.fresh hle)
theorem walk_enumT (a : List Nat) : Walk (Itet (S a)) a.length (fun _ => True) (fun i H v H' => ∃ T c, v = .ref T ∧ H T = none ∧ H' = upd H T (.tup [.int (i : Nat), .str (S [c])]) ∧ a[i]? = some c) where
  goes := fun i H hi _ => show i < (S a).cps.size by rw [show (S a).cps.size = a.length from SX.S_len a]; exact hi
  stops := fun H _ => show a.length = (S a).cps.size from (SX.S_len a).symm
  yields := fun i H x H' _ _ y => by
    obtain ⟨T, c, rfl, h, rfl, hc⟩ := y
    exact ⟨T, c, rfl, h, rfl, by rw [← hc]; exact (List.getElem?_toArray ..).symm⟩
theorem walk_txt (a : List Nat) : Walk (Its (S a)) a.length (fun _ => True) (fun i H v H' => H' = H ∧ ∃ c, v = .str (S [c]) ∧ a[i]? = some c) where
  goes := fun i H hi _ => show i < (S a).cps.size by rw [show (S a).cps.size = a.length from SX.S_len a]; exact hi
  stops := fun H _ => show (S a).cps.size ≤ a.length from Nat.le_of_eq (SX.S_len a)
  yields := fun i H x H' _ _ y => by
    obtain ⟨e, c, hc, ex⟩ := y
    subst e ex
    exact ⟨rfl, c, rfl, by rw [← hc]; exact (List.getElem?_toArray ..).symm⟩
/-! rules that name the new heap by an equation -/
section
variable {X : Cx} {es : List Expr} {pos : Pos} {t : TA}
def rAppendQ : V → List V → Hp → VK → Prop := fun x vs H Q => ∃ l xs y, x = .ref l ∧ vs = [y] ∧ H l = some (.lst xs) ∧ xs.length < sizeLine ∧ ∀ H', H' = upd H l (.lst (xs ++ [y])) → Q .non H'
theorem mtq_append : MtM X "list.append" rAppendQ := by
  intro pins s σ H x vs v us Q I rx rv h
  obtain ⟨l, xs, y, h1, h2, h3, h4, q⟩ := h
  exact mt_append pins s σ H x vs v us Q I rx rv ⟨l, xs, y, h1, h2, h3, h4, q _ rfl⟩
def rReverseQ : V → List V → Hp → VK → Prop := fun x vs H Q => ∃ l xs, x = .ref l ∧ vs = [] ∧ H l = some (.lst xs) ∧ ∀ H', H' = upd H l (.lst xs.reverse) → Q .non H'
theorem mtq_reverse : MtM X "list.reverse" rReverseQ := by
  intro pins s σ H x vs v us Q I rx rv h
  obtain ⟨l, xs, h1, h2, h3, q⟩ := h
  exact mt_reverse pins s σ H x vs v us Q I rx rv ⟨l, xs, h1, h2, h3, q _ rfl⟩
def rSetLQ : V → V → V → Hp → (Hp → Prop) → Prop := fun o i v H Q => ∃ p xs k j, o = .ref p ∧ i = .int k ∧ H p = some (.lst xs) ∧ ixN xs.length k = some j ∧ ∀ H', H' = upd H p (.lst (xs.set j v)) → Q H'
theorem setq_list : PSet X rSetLQ := by
  intro pins s σ H o i v ov iv u Q I ro ri rv h
  obtain ⟨p, xs, k, j, h1, h2, h3, h4, q⟩ := h
  exact set_list pins s σ H o i v ov iv u Q I ro ri rv ⟨p, xs, k, j, h1, h2, h3, h4, q _ rfl⟩
def tLstQ (t : TA) : TE := fun σ H Q => t σ H fun xs H1 => xs.length ≤ sizeLine ∧ ∀ p H', H1 p = none → p ≠ sysModules → H' = upd H1 p (.lst xs) → Q (.ref p) H'
theorem peq_lst (h : PA X es t) : PE X (.List es pos) (tLstQ t) := by
  constructor
  intro pins s σ H Q I hq
  apply wpAny_List_spliced
  refine thn (h.run pos pins s σ H _ I hq) ?_
  rintro us s1 ⟨xs, H1, I1, r, z, q⟩
  refine ⟨by rw [← r.length]; exact z, ?_⟩
  have fresh : H1 s1.heap.objs.size = none := I1.hok.fresh (Nat.le_refl _)
  exact ⟨.ref s1.heap.objs.size, upd H1 s1.heap.objs.size (.lst xs), I1.laid (t' := s1.toks) (fun b u e => Heap.get?_push_of_some _ e) (Nat.le_refl _) ⟨z, us, 0, r, Heap.get?_push_size _ rfl⟩, rfl, q _ _ fresh (big_ne I1) rfl⟩
def tTupQ (t : TA) : TE := fun σ H Q => t σ H fun xs H1 => xs.length ≤ sizeLine ∧ ∀ p H', H1 p = none → p ≠ sysModules → H' = upd H1 p (.tup xs) → Q (.ref p) H'
theorem peq_tup {x1} (h : PA X es t) : PE X (.Tuple es x1 pos) (tTupQ t) := by
  refine ⟨fun pins s σ H Q I hq => ?_⟩
  refine wpAny_Tuple_spliced (thn (h.run pos pins s σ H _ I hq) fun us s1 ⟨xs, H1, I1, r, z, q⟩ => ⟨by rw [← r.length]; exact z, ?_⟩)
  have hf : H1 s1.heap.objs.size = none := I1.hok.fresh (Nat.le_refl _)
  refine ⟨.ref s1.heap.objs.size, upd H1 s1.heap.objs.size (.tup xs), I1.laid (t' := s1.toks) (fun b u e => Heap.get?_push_of_some _ e) (Nat.le_refl _) ?_, rfl, q _ _ hf (big_ne I1) rfl⟩
  exact ⟨z, us, r, ⟨_, Heap.get?_push_size _ rfl, rfl, _, rfl⟩⟩
end
end Vx
namespace Vx
open PySem PySem.Spec PyProof.Rows L2
/-! ints as data that can be shown -/
def smallI (i : Int) : Prop := i.natAbs < 10 ^ 95
theorem fine_int {K : PySem.W.Frag} {H : Hp} {i : Int} (h : i.natAbs < 10 ^ 95) : Fine K H (.int i) (.int i) := by
  have hb : i.natAbs < 2 ^ 316 := Nat.lt_of_lt_of_le h (by decide +kernel)
  have hlg : i.natAbs.log2 < 316 := by
    by_cases z : i.natAbs = 0
    · rw [z]; decide
    · exact (Nat.log2_lt z).mpr hb
  refine ⟨.int i, ?_, ?_, by simp [PyData.depth], ?_⟩
  · show decide (i.natAbs.log2 < 1920) = true
    exact decide_eq_true (by omega)
  · have : (PyData.shown (.int i)).length ≤ 96 := by
      have e := int_text_length_le10 (k := 95) (by decide) h
      show (Str.ofString (toString i)).length ≤ 96
      rw [PySem.ofString_length]; exact e
    show decide ((PyData.shown (.int i)).length ≤ 100) = true
    exact decide_eq_true (by omega)
  · show (if i == 0 then 0 else i.natAbs.log2 + 1) ≤ 4100
    split
    · omega
    · omega
theorem int_small {i : Int} (h0 : 0 ≤ i) (h : i ≤ 1000000) : i.natAbs < 10 ^ 95 := Nat.lt_of_le_of_lt (show i.natAbs ≤ 1000000 by omega) (by decide +kernel)
theorem fines_ints {K : PySem.W.Frag} {H : Hp} : ∀ {ns : List Int}, (∀ x ∈ ns, x.natAbs < 10 ^ 95) → Fines K H (ns.map V.int) (ns.map PyData.int)
  | [], _ => .nil
  | n :: r, h => .cons (fine_int (h n List.mem_cons_self)) (fines_ints fun x hx => h x (List.mem_cons_of_mem _ hx))
/-- what repr asks of a value and its data -/
structure Shows (K : PySem.W.Frag) (H : Hp) (x : V) (d : PyData) : Prop where
  dx : Dx K H x d
  sh : d.showable = true
  lv : d.leavesShort 100 = true
  dp : d.depth ≤ 40
  wt : d.weight ≤ 150000
theorem Shows.len {K : PySem.W.Frag} {H : Hp} {x : V} {d : PyData} (f : Shows K H x d) : d.shown.length ≤ sizeLine := by
  have h := PyData.shown_le 100 (by decide) d f.lv
  have := f.wt
  unfold sizeLine; omega
theorem Shows.same {K : PySem.W.Frag} {H H' : Hp} {x : V} {d : PyData} (s : Same H H') (f : Shows K H x d) : Shows K H' x d := { f with dx := f.dx.same s }
theorem Fine.shows {K : PySem.W.Frag} {H : Hp} {x : V} {d : PyData} (f : Fine K H x d) : Shows K H x d := ⟨f.dx, f.sh, f.lv, by have := f.dp; omega, by have := f.wt; omega⟩
inductive ShowAll (K : PySem.W.Frag) (H : Hp) : List V → List PyData → Nat → Nat → Prop
  | nil : ShowAll K H [] [] 0 0
  | cons {x : V} {d : PyData} {xs : List V} {ds : List PyData} {dp wt : Nat} : Dx K H x d → d.showable = true → d.leavesShort 100 = true → ShowAll K H xs ds dp wt → ShowAll K H (x :: xs) (d :: ds) (max d.depth dp) (d.weight + 1 + wt)
theorem ShowAll.all {K : PySem.W.Frag} {H : Hp} : ∀ {xs : List V} {ds : List PyData} {dp wt : Nat}, ShowAll K H xs ds dp wt →
    DxAll K H xs ds ∧ PyData.showableAll ds = true ∧ PyData.leavesShortAll 100 ds = true ∧ PyData.depthAll ds = dp ∧ PyData.weightAll ds = wt
  | _, _, _, _, .nil => ⟨.nil, by simp [PyData.showableAll], by simp [PyData.leavesShortAll], by simp [PyData.depthAll], by simp [PyData.weightAll]⟩
  | _, _, _, _, .cons h1 h2 h3 r => by
    obtain ⟨a1, a2, a3, a4, a5⟩ := ShowAll.all r
    exact ⟨.cons h1 a1, by simp [PyData.showableAll, h2, a2], by simp [PyData.leavesShortAll, h3, a3], by simp only [PyData.depthAll, a4], by simp only [PyData.weightAll, a5]⟩
theorem Shows.lst {K : PySem.W.Frag} {H : Hp} {p : Addr} {xs : List V} {ds : List PyData} {dp wt : Nat} (e : H p = some (.lst xs)) (n : p ≠ sysModules) (f : ShowAll K H xs ds dp wt) (h1 : dp ≤ 39) (h2 : wt ≤ 149999) : Shows K H (.ref p) (.list ds) := by
  obtain ⟨a1, a2, a3, a4, a5⟩ := f.all
  exact ⟨.lst e n a1, by simpa [PyData.showable] using a2, by simpa [PyData.leavesShort] using a3, by simp only [PyData.depth]; omega, by simp only [PyData.weight]; omega⟩
theorem Shows.tup {K : PySem.W.Frag} {H : Hp} {p : Addr} {xs : List V} {ds : List PyData} {dp wt : Nat} (e : H p = some (.tup xs)) (f : ShowAll K H xs ds dp wt) (h1 : dp ≤ 39) (h2 : wt ≤ 149999) : Shows K H (.ref p) (.tuple ds) := by
  obtain ⟨a1, a2, a3, a4, a5⟩ := f.all
  exact ⟨.tup (SqT.of e) a1, by simpa [PyData.showable] using a2, by simpa [PyData.leavesShort] using a3, by simp only [PyData.depth]; omega, by simp only [PyData.weight]; omega⟩
theorem shows_ints {K : PySem.W.Frag} {H : Hp} {p : Addr} {ns : List Int} (e : H p = some (.lst (ns.map V.int))) (n : p ≠ sysModules) (h : ∀ x ∈ ns, x.natAbs < 10 ^ 95) (hl : ns.length ≤ 220) :
    Dx K H (.ref p) (.list (ns.map PyData.int)) ∧ (PyData.list (ns.map PyData.int)).showable = true ∧ (PyData.list (ns.map PyData.int)).leavesShort 100 = true ∧ (PyData.list (ns.map PyData.int)).depth = 1 ∧ (PyData.list (ns.map PyData.int)).weight ≤ 70000 := by
  have hg : PyData.showableAll (ns.map PyData.int) = true ∧ PyData.leavesShortAll 100 (ns.map PyData.int) = true ∧ PyData.weightAll (ns.map PyData.int) ≤ 317 * ns.length ∧ DxAll K H (ns.map V.int) (ns.map PyData.int) := by
    clear e hl
    induction ns with
    | nil => exact ⟨by simp [PyData.showableAll], by simp [PyData.leavesShortAll], by simp [PyData.weightAll], .nil⟩
    | cons x r ih =>
      obtain ⟨a1, a2, a3, a4⟩ := ih fun y hy => h y (List.mem_cons_of_mem _ hy)
      have hx := h x List.mem_cons_self
      have f := fine_int (K := K) (H := H) hx
      have hw : (PyData.int x).weight ≤ 316 := by
        have hb : x.natAbs < 2 ^ 316 := Nat.lt_of_lt_of_le hx (by decide +kernel)
        show (if x == 0 then 0 else x.natAbs.log2 + 1) ≤ 316
        split
        · omega
        · have : x.natAbs ≠ 0 := fun z => by
            rename_i hne
            exact hne (by rw [Int.natAbs_eq_zero.mp z]; rfl)
          have := (Nat.log2_lt this).mpr hb
          omega
      refine ⟨by simp [PyData.showableAll, f.sh, a1], by simp [PyData.leavesShortAll, f.lv, a2], ?_, .cons f.dx a4⟩
      simp only [List.map_cons, PyData.weightAll, List.length_cons]; omega
  obtain ⟨a1, a2, a3, a4⟩ := hg
  exact ⟨.lst e n a4, by simpa [PyData.showable] using a1, by simpa [PyData.leavesShort] using a2, by simp only [PyData.depth]; rw [depth_ints], by simp only [PyData.weight]; omega⟩
end Vx
namespace Vx
open PySem PySem.Spec PyProof.Rows L2
/-! an instance made by a class that a local name holds -/
section
variable {X : Cx} {CX : CXT} {k : Nat} {f C : Addr} {fd : FuncData} {ps : List Str} {sp : Sp} {dvs : List V} {ds : List Value} {E : XK} {x : Str} {p pos : Pos} {e : Expr} {es : List Expr} {t : TA}
def tMakeL (i : Nat) (C : Addr) (sp : Sp) (dvs : List V) (E : XK) (t : TA) : TE := fun σ H Q => σ[i]? = some (some (.ref C)) ∧ tMake C sp dvs E t σ H Q
theorem pe_makeL {i : Nat} (M : Mk X.K C f) (F : FnOk X.prog X.w X.K X.mg X.base CX k f fd ps sp) (hr : Room (k + 1) X.A) (hN : X.N[i]? = some x) (hv : Vis X.env.scope x) (hb : Binds X.K fd ps ds) (hd : Vals dvs ds) (hx : Passes CX X E)
    (ha : PA X (e :: es) t) (hdb : (x == ("__debug__" : Str)) = false := by decide) (hcd : (x == ("__classdict__" : Str)) = false := by decide) (he : starEach (e :: es) X.env = (false, eval e X.env) :: starEach es X.env := by rfl) (hpl : (backTo pos (starEach es X.env)).any (·.1) = false := by rfl) :
    PE X (.Call (.Name x p) (e :: es) [] pos) (tMakeL i C sp dvs E t) := by
  refine ⟨fun pins s σ H Q I h => ?_⟩
  obtain ⟨h1, h2⟩ := h
  refine wpAny_Call_Name_kw (thn ((pe_var (pos := p) hN hv hdb hcd).run pins s σ H (fun v H1 => v = .ref C ∧ H1 = H) I ⟨.ref C, h1, rfl, rfl⟩) fun u s1 ⟨v, H1, I1, r1, q1⟩ => ?_)
  obtain ⟨rfl, rfl⟩ := q1
  cases r1
  refine PySem.W.callWith_K (h₀ := X.base) I1.ok.mod.kin M.kp (thn (ha.run pos pins s1 σ _ _ I1 h2) fun us s2 ⟨vs, H2, I2, r, q⟩ => ⟨I2.kIn, ?_⟩) he hpl
  exact run_make M F hr hb hd hx I2 r q
end
/-! Counts objects -/
theorem nAB : ¬ (("_many_a" : Str) = "_many_b") := by decide +kernel
theorem nAP : ¬ (("_many_a" : Str) = "_pairs") := by decide +kernel
theorem nBP : ¬ (("_many_b" : Str) = "_pairs") := by decide +kernel
theorem putF_len (f : Str) (v : V) : ∀ fs : List (Str × V), (putF f v fs).length ≤ fs.length + 1
  | [] => Nat.le_refl _
  | (g, x) :: r => by
    have ih := putF_len f v r
    unfold putF
    split
    · exact Nat.le_succ _
    · exact Nat.succ_le_succ ih
def flds (a b p : Int) : List (Str × V) := putF "_pairs" (.int p) (putF "_many_b" (.int b) (putF "_many_a" (.int a) []))
theorem flds_a (a b p : Int) : (flds a b p).lookup ("_many_a" : Str) = some (.int a) := by
  unfold flds
  rw [lookup_putF, if_neg nAP, lookup_putF, if_neg nAB, lookup_putF, if_pos rfl]
theorem flds_b (a b p : Int) : (flds a b p).lookup ("_many_b" : Str) = some (.int b) := by
  unfold flds
  rw [lookup_putF, if_neg nBP, lookup_putF, if_pos rfl]
theorem flds_p (a b p : Int) : (flds a b p).lookup ("_pairs" : Str) = some (.int p) := by
  unfold flds
  rw [lookup_putF, if_pos rfl]
theorem flds_no (a b p : Int) {m : Str} (h1 : ¬ m = "_many_a") (h2 : ¬ m = "_many_b") (h3 : ¬ m = "_pairs") : (flds a b p).lookup m = none := by
  unfold flds
  rw [lookup_putF, if_neg h3, lookup_putF, if_neg h2, lookup_putF, if_neg h1]; rfl
def CountsAt (C : Addr) (H : Hp) (x : Addr) (a b p : Int) : Prop := ∃ dx, H x = some (.ins C dx (flds a b p))
theorem CountsAt.same {C : Addr} {H H' : Hp} {x : Addr} {a b p : Int} (s : Same H H') (h : CountsAt C H x a b p) : CountsAt C H' x a b p := let ⟨dx, e⟩ := h; ⟨dx, s _ _ e⟩
theorem CountsAt.keep {C r : Addr} {H H' : Hp} {x : Addr} {a b p : Int} (s : Keep r H H') (n : x ≠ r) (h : CountsAt C H x a b p) : CountsAt C H' x a b p := let ⟨dx, e⟩ := h; ⟨dx, s _ _ n e⟩
/-- three numbers that are counts, of bounded size -/
structure COk (a b p : Int) : Prop where
  a0 : 0 ≤ a
  b0 : 0 ≤ b
  p0 : 0 ≤ p
  pm : p ≤ a * b
  ba : a.natAbs < 2 ^ 3000
  bb : b.natAbs < 2 ^ 3000
/-- what the walk asks of the class as the top has made it -/
structure CT (K : PySem.W.Frag) (mg : Str → Option Value) (C : Addr) : Prop where
  cl : Cls K C
  nA : NoAttr K C "_many_a"
  nB : NoAttr K C "_many_b"
  nP : NoAttr K C "_pairs"
  mg : mg "Counts" = some (.ref C)
def spInit (C : Addr) : Sp := fun vs H Q _ => ∃ (x dx : Addr) (a b p : Int), vs = [.ref x, .int a, .int b, .int p] ∧ H x = some (.ins C dx []) ∧ COk a b p ∧ ∀ H', CountsAt C H' x a b p → Keep x H H' → Q .non H'
theorem made_same {x dx : Addr} {H H' : Hp} {o1 o2 : HO} (nx : H x = none) (ndx : H dx = none) (k : Keep x (upd (upd H dx o1) x o2) H') : Same H H' := fun b o e => by
  have n1 := ne_of_none e nx
  refine k b o n1 ?_
  rw [upd_ne n1, upd_ne (ne_of_none e ndx)]; exact e
theorem mkC {C x dx : Addr} {H : Hp} {a b p : Int} {Q : VK} (nx : H x = none) (ndx : H dx = none) (c : COk a b p) (h : ∀ H', Same H H' → CountsAt C H' x a b p → Q (.ref x) H') :
    spInit C (.ref x :: ([.int a, .int b, .int p] ++ [])) (upd (upd H dx (.own x)) x (.ins C dx [])) (fun v H2 => v = .non ∧ Q (.ref x) H2) E0 :=
  ⟨x, dx, a, b, p, rfl, upd_same, c, fun H' hc k => ⟨rfl, h H' (made_same nx ndx k) hc⟩⟩
/-- is_integer: ints only -/
def spIsInt (K : PySem.W.Frag) : Sp := fun vs H Q _ => ∃ x, vs = [x] ∧ ((∃ i, x = .int i ∧ Q (.bl true) H) ∨ (∃ b, x = .bl b ∧ Q (.bl false) H) ∨ (∃ t, TyX K H x t ∧ PySem.W.kitOne K t (.type "int") = some false ∧ Q (.bl false) H))
def spAre : Sp := fun vs H Q _ => ∃ a b p : Int, vs = [.int a, .int b, .int p] ∧ COk a b p ∧ ∀ H', Same H H' → Q (.bl true) H'
/-! rules that name the class's fragment -/
section
variable {X : Cx}
def rLenK (K : PySem.W.Frag) : List V → Hp → VK → Prop := fun xs H Q => ∃ p ys, xs = [V.ref p] ∧ SqL K H p ys ∧ Q (V.int ys.length) H
theorem call_lenK (K : PySem.W.Frag) (h : X.K = K) : CallR X (.builtin "len") (rLenK K) := by
  subst h
  intro pins s σ H xs us Q I r h
  obtain ⟨p, ys, e, hs, q⟩ := h
  exact call_len_seq pins s σ H xs us Q I r ⟨p, ys, e, .inl hs, q⟩
theorem pi_listK (K : PySem.W.Frag) (h : X.K = K) {tg e : Expr} {te : TE} (he : PE X e te) : PI X tg e (iList K te) := by
  subst h
  exact pi_list he
theorem call_reprK (K : PySem.W.Frag) (h : X.K = K) (hg : X.A.guards = some []) (hu : X.A.units + 64 < cLine) : CallR X (.builtin "repr") (rRepr K) := by
  subst h
  exact call_reprX hg hu
/-- xs * n, the new list by an equation -/
def rRepQ : R2 := fun x y H Q => ∃ l k xs, x = .ref l ∧ y = .int k ∧ H l = some (.lst xs) ∧ -(2 ^ 63) ≤ k ∧ k < 2 ^ 63 ∧ xs.length * k.toNat ≤ sizeLine ∧
  ∀ p H', H p = none → p ≠ sysModules → H' = upd H p (.lst (List.replicate k.toNat xs).flatten) → Q (.ref p) H'
end
end Vx
namespace Vx
open PySem PySem.Spec PyProof.Rows L2
/-! shown data as texts of characters -/
def okS (x : Str) : Prop := x.cps.all (· < 0x110000) = true
theorem okS_of (s : String) : okS (Str.ofString s) := by
  unfold okS
  rw [Str.ofString_eq_toList]
  rw [Array.all_eq_true_iff_forall_mem]
  intro c hc
  have hc' : c ∈ s.toList.map Char.toNat := by simpa using hc
  obtain ⟨d, _, rfl⟩ := List.mem_map.mp hc'
  have := d.valid
  have h2 : d.toNat < 0x110000 := by
    rcases this with h | ⟨_, h⟩
    · exact Nat.lt_trans h (by decide)
    · exact h
  simpa using h2
theorem okS_append {x y : Str} (h1 : okS x) (h2 : okS y) : okS (x ++ y) := by
  unfold okS at *
  show (x.cps ++ y.cps).all _ = true
  rw [Array.all_append, h1, h2]; rfl
theorem okS_textFrom : ∀ (ts : List Str) (k : Nat) (acc : Str), okS acc → (∀ t ∈ ts, okS t) → okS (textFrom k acc ts)
  | [], _, _, h, _ => h
  | t :: r, k, acc, h, ht => okS_textFrom r (k + 1) _ (okS_append (okS_append h (okS_of _)) (ht t List.mem_cons_self)) fun x hx => ht x (List.mem_cons_of_mem _ hx)
theorem okS_listText {ts : List Str} (h : ∀ t ∈ ts, okS t) : okS (listText ts) := okS_append (okS_textFrom ts 0 _ (okS_of "[") h) (okS_of "]")
theorem okS_join : ∀ {ts : List Str}, (∀ t ∈ ts, okS t) → okS (Str.join ", " ts)
  | [], _ => okS_of ""
  | [x], h => h x List.mem_cons_self
  | x :: y :: r, h => okS_append (okS_append (h x List.mem_cons_self) (okS_of ", ")) (okS_join fun z hz => h z (List.mem_cons_of_mem _ hz))
theorem okS_tupleText {ts : List Str} (h : ∀ t ∈ ts, okS t) : okS (tupleText ts) := okS_append (okS_append (okS_of "(") (okS_join h)) (okS_of _)
theorem okS_int (i : Int) : okS (PyData.shown (.int i)) := okS_of (toString i)
theorem okS_ints : ∀ ns : List Int, ∀ t ∈ PyData.shownAll (ns.map PyData.int), okS t
  | [], t, h => by simp [PyData.shownAll] at h
  | n :: r, t, h => by
    have h' : t = PyData.shown (.int n) ∨ t ∈ PyData.shownAll (r.map PyData.int) := by simpa [PyData.shownAll] using h
    rcases h' with rfl | h'
    · exact okS_int n
    · exact okS_ints r t h'
theorem okS_tup (ns : List Int) : okS (PyData.shown (.tuple (ns.map PyData.int))) := okS_tupleText (okS_ints ns)
theorem okS_lst (ns : List Int) : okS (PyData.shown (.list (ns.map PyData.int))) := okS_listText (okS_ints ns)
/-- lists of one text -/
theorem shaped_strs {z : Str} (h : okS z) : ∀ n, SeqAt.shaped (.list (List.replicate n (.str z))) = true := by
  intro n
  have h1 : PyData.canLayAll0 (List.replicate n (PyData.str z)) = true := by
    induction n with
    | zero => simp [PyData.canLayAll0]
    | succ n ih =>
      rw [List.replicate_succ]
      simp only [PyData.canLayAll0, ih, Bool.and_true]
      show PyData.strOk z = true
      exact h
  have h2 : PyData.depthAll (List.replicate n (PyData.str z)) = 0 := by
    clear h1
    induction n with
    | zero => simp [PyData.depthAll]
    | succ n ih => rw [List.replicate_succ]; simp [PyData.depthAll, PyData.depth, ih]
  simp [SeqAt.shaped, PyData.canLay0, PyData.depth, h1, h2]
theorem eqv_strs {z : Str} : ∀ n, PyData.eqv (.list (List.replicate n (.str z))) (.list (List.replicate n (.str z))) = true
  | 0 => by simp [PyData.eqv, PyData.eqvAll]
  | n + 1 => by
    have ih := eqv_strs (z := z) n
    rw [List.replicate_succ]
    simp only [PyData.eqv, PyData.eqvAll] at ih ⊢
    rw [ih]; simp
theorem dp_strs {K : PySem.W.Frag} {H : Hp} {z : Str} : ∀ n, DpAll K H (List.replicate n (V.str z)) (List.replicate n (PyData.str z))
  | 0 => .nil
  | n + 1 => .cons (.str z) (dp_strs n)
/-- a tuple of three ints, to be shown -/
theorem shows_tup3 {K : PySem.W.Frag} {H : Hp} {T : Addr} {a b p : Int} (e : H T = some (.tup [.int a, .int b, .int p])) (ha : a.natAbs < 10 ^ 95) (hb : b.natAbs < 10 ^ 95) (hp : p.natAbs < 10 ^ 95) : Shows K H (.ref T) (.tuple [.int a, .int b, .int p]) := by
  have f1 := fine_int (K := K) (H := H) ha
  have f2 := fine_int (K := K) (H := H) hb
  have f3 := fine_int (K := K) (H := H) hp
  have w1 := f1.wt
  have w2 := f2.wt
  have w3 := f3.wt
  exact .tup e (.cons f1.dx f1.sh f1.lv (.cons f2.dx f2.sh f2.lv (.cons f3.dx f3.sh f3.lv .nil))) (by show max 0 (max 0 (max 0 0)) ≤ 39; decide) (by omega)
end Vx
namespace Vx
open PySem PySem.Spec PyProof.Rows L2
/-! operators of an own class, its objects with a dict -/
structure Dun (K : PySem.W.Frag) (C : Addr) (m : Str) (g : Addr) : Prop where
  at_ : PySem.W.findIn K (.ref C) m = some (some (.ref g))
  fn : PySem.W.isFn K (.ref g) = true
section
variable {X : Cx} {CX : CXT} {n : Nat} {C g : Addr} {sp : Sp} {E : XK}
theorem look_ins {pins : List (Addr × Obj)} {σ : L2.St} {H : Hp} {s : Shared} {a dx : Addr} {fs : List (Str × V)} (I : Inv X pins σ H s) (ea : H a = some (.ins C dx fs)) : ∃ ox od, PySem.W.InstAt s.heap a ox C (some od) := by
  obtain ⟨mA, O, _, _, _, _⟩ := ins_get I.hok ea
  obtain ⟨od, J, _⟩ := O.look
  exact ⟨_, od, J⟩
def rUnOwn (C : Addr) (sp : Sp) (E : XK) : V → Hp → VK → Prop := fun x H Q => ∃ a dx fs, x = .ref a ∧ H a = some (.ins C dx fs) ∧ sp [x] H Q E
theorem un_ownI (d : Dun X.K C "__invert__" g) (F : FnR X.prog X.w X.K X.mg X.base CX n g sp) (hr : Room n X.A) (hx : Passes CX X E) : UnR X (unaryOp .Invert) (rUnOwn C sp E) := by
  intro pins s σ H x v Q I rx h
  obtain ⟨a, dx, fs, rfl, ea, q⟩ := h
  cases (show v = Value.ref a from rx)
  obtain ⟨ox, od, J⟩ := look_ins I ea
  obtain ⟨m, hF⟩ := I.fr
  exact PySem.W.ksp_inv hF I.ok.mod.kin J d.at_ d.fn (wpAny_call (run_fnR (us := [.ref a]) (vs := [.ref a]) F hr hx I (.cons rfl .nil) q))
theorem un_ownN (d : Dun X.K C "__neg__" g) (F : FnR X.prog X.w X.K X.mg X.base CX n g sp) (hr : Room n X.A) (hx : Passes CX X E) : UnR X (unaryOp .USub) (rUnOwn C sp E) := by
  intro pins s σ H x v Q I rx h
  obtain ⟨a, dx, fs, rfl, ea, q⟩ := h
  cases (show v = Value.ref a from rx)
  obtain ⟨ox, od, J⟩ := look_ins I ea
  obtain ⟨m, hF⟩ := I.fr
  exact PySem.W.ksp_neg hF I.ok.mod.kin J d.at_ d.fn (wpAny_call (run_fnR (us := [.ref a]) (vs := [.ref a]) F hr hx I (.cons rfl .nil) q))
/-- x op y, both of the class -/
def rBinOwn (C : Addr) (sp : Sp) (E : XK) : R2 := fun x y H Q => ∃ a dx fs b dy gs, x = .ref a ∧ y = .ref b ∧ H a = some (.ins C dx fs) ∧ H b = some (.ins C dy gs) ∧ sp [x, y] H Q E
theorem op_binOwn {op : Operator} (hc : PySem.W.selfFirst X.K C = true) (d : Dun X.K C (PySem.dunder op.info.2) g) (F : FnR X.prog X.w X.K X.mg X.base CX n g sp) (hr : Room n X.A) (hx : Passes CX X E) : OpR X (binaryOp op) (rBinOwn C sp E) := by
  intro pins s σ H x y v u Q I rx ry h
  obtain ⟨a, dx, fs, b, dy, gs, rfl, rfl, ea, eb, q⟩ := h
  cases (show v = Value.ref a from rx)
  cases (show u = Value.ref b from ry)
  obtain ⟨ox, od, J⟩ := look_ins I ea
  obtain ⟨ox2, od2, J2⟩ := look_ins I eb
  obtain ⟨m, hF⟩ := I.fr
  refine PySem.W.binop_K hF I.ok.mod.kin J J2.type hc d.at_ d.fn ?_
  refine wpAny_mono (wpAny_call (run_fnR (us := [.ref a, .ref b]) (vs := [.ref a, .ref b]) F hr hx I (.cons rfl (.cons rfl .nil)) q)) (fun w s' z => ?_) fun _ _ x => x
  obtain ⟨z', H', I', rz, qz⟩ := z
  exact SlX.cmpback rz ⟨z', H', I', rz, qz⟩
end
end Vx
namespace Vx
open PySem PySem.Spec PyProof.Rows L2 PySem.W
/-! x != y of an own class with __eq__ and object's __ne__ -/
section
variable {prog : Program} {w : World} {A : Around} {E : Value → Shared → Prop} {s : Shared} {K : Frag} {x C L f : Addr} {h₀ : Heap} {m : Str → Option Value} {ox : Obj} {od : Option Obj} {b tb : Value}
theorem ifBound_B {M : Model} {name : Str} {id : String} {args : List Value} {Q : Option Value → Shared → Prop} (X : K.In s.heap) (I : InstAt s.heap x ox C od) (hs : findIn K (.ref C) name = some (some (.builtin id))) (hb : ∀ self, bindSpecial (.builtin id) self = pure (.builtin id, [self]))
    (h : wpAny M A (call (.builtin id) (.ref x :: args)) (fun v => Q (some v)) E s) : wpAny M A (callSpecialIfBound? (.ref x) name args) Q E s := by
  simp only [callSpecialIfBound?, bindSpecialIfBound?]
  refine wpAny_holding (wpAny_bind (wpAny_bind (wpAny_bind (I.type.here ((looks_findIn X hs).here ?_)))))
  dsimp only
  rw [hb]
  refine wpAny_bind (wpAny_askSetting (wpAny_ite ?_))
  have fin : wpAny M A (call (.builtin id) ([.ref x] ++ args) >>= fun v => pure (some v)) Q E s := wpAny_bind (wpAny_mono h (fun v s' h' => wpAny_pure h') fun _ _ h' => h')
  split
  · exact wpAny_bind (wpAny_pure (wpAny_pure (by exact fin)))
  · exact wpAny_tryCatch (wpAny_bind (wpAny_pure (wpAny_pure (by exact fin))))
/-- object.__ne__ of an instance whose class has its own __eq__, a bool -/
theorem objNe_K {Q : Fin → Shared → Prop} (hu : A.units < cLine) (X : K.In s.heap) (I : InstAt s.heap x ox C od) (heq : findIn K (.ref C) "__eq__" = some (some (.ref f))) (hf : isFn K (.ref f) = true)
    (h : wpAny (model prog w) A (call (.ref f) [.ref x, b]) (fun v s' => ∃ k, v = .bool k ∧ Q (.done (.ret (.bool (!k)))) s') E s) :
    wpAny (model prog w) A (Builtin.«object.__ne__» ⟨[.ref x, b], []⟩) Q E s := by
  unfold Builtin.«object.__ne__»
  refine wpAny_bind (wpAny_of_eq (a := ((Value.ref x : Value), [b])) (by first | rfl | (simp only [Builtin.slotArgs]; rfl)) ?_)
  refine wpAny_bind (wpAny_cRoomFor hu ?_)
  refine wpAny_bind (ifBound_K X I heq hf (wpAny_mono h (fun v s' hv => ?_) fun _ _ z => z))
  obtain ⟨k, rfl, q⟩ := hv
  dsimp only
  refine wpAny_bind (wpAny_truthy_bool ?_)
  exact wpAny_pure q
theorem ne_K {Q : Value → Shared → Prop} (hu : A.units + 1 < cLine) (F : Fr h₀ L s.heap m) (X₀ : K.In h₀) (I : InstAt s.heap x ox C od) (hb : Looks (model prog w) s.heap (typeOf b) tb) (hn : notFirst K C tb = true)
    (hne : findIn K (.ref C) "__ne__" = some (some (.builtin "object.__ne__"))) (heq : findIn K (.ref C) "__eq__" = some (some (.ref f))) (hf : isFn K (.ref f) = true) (hobj : subIn K (.ref C) (.type "object") = some true)
    (h : wpAny (model prog w) A.in1 (call (.ref f) [.ref x, b]) (fun v s' => ∃ k, v = .bool k ∧ Q (.bool (!k)) s') E s) : wpAny (model prog w) A (richCompare .NotEq (.ref x) b) Q E s := by
  have X := X₀.keeps F.keep
  have hu0 : A.units < cLine := Nat.lt_of_succ_lt hu
  have isObj : Looks (model prog w) s.heap (isInstance (.ref x) (.type "object")) true := I.type.andThen (looks_subIn X hobj)
  have one : wpAny (model prog w) A (tryCompare (.ref x) "__ne__" b) (fun r s' => ∃ v, r = some v ∧ Q v s') E s := by
    unfold tryCompare
    refine wpAny_bind (ifBound_B X I hne PySem.F.cmp_object.ne.bind (wpAny_call (codeAny_call_builtin PySem.F.cmp_object.ne.plain PySem.F.cmpEntry_ne ?_)))
    refine check_slot PySem.F.cmpKind_ne PySem.F.cmpSplit_ne isObj (PySem.F.cmpArgs_ne _ _) ?_
    refine objNe_K (A := A.in1) hu X I heq hf (wpAny_mono h (fun v s' hv => ?_) fun _ _ z => z)
    obtain ⟨k, rfl, q⟩ := hv
    exact ⟨k, rfl, wpAny_pure ⟨_, rfl, q⟩⟩
  unfold richCompare
  simp only [oneThing_ref, cmpInfo_NotEq]
  refine wpAny_holding (wpAny_bind (wpAny_cRoomFor hu0 ?_))
  refine wpAny_bind (I.type.here (wpAny_bind (hb.here ?_)))
  split
  · rename_i q
    have e : subIn K tb (.ref C) = some false := by
      rcases Bool.or_eq_true_iff.mp hn with e | e
      · rw [beq_iff_eq.mp e] at q; simp at q
      · exact beq_iff_eq.mp e
    refine wpAny_bind ((looks_subIn X e).here ?_)
    simp only [Bool.false_eq_true, if_false]
    refine wpAny_bind (wpAny_mono one (fun r s' z => ?_) fun _ _ e => e)
    obtain ⟨v, rfl, hq⟩ := z
    exact wpAny_pure hq
  · refine wpAny_bind (wpAny_pure ?_)
    simp only [Bool.false_eq_true, if_false]
    refine wpAny_bind (wpAny_mono one (fun r s' z => ?_) fun _ _ e => e)
    obtain ⟨v, rfl, hq⟩ := z
    exact wpAny_pure hq
end
/-- == of an own class's object and any value; != likewise -/
def rEqOwn (K : PySem.W.Frag) (C : Addr) (sp : Sp) (E : XK) : R2 := fun x y H Q => ∃ a dx fs, x = .ref a ∧ H a = some (.ins C dx fs) ∧ ((∃ b dy gs, y = .ref b ∧ H b = some (.ins C dy gs)) ∨ ∃ t, TyX K H y t ∧ PySem.W.notFirst K C t = true) ∧ sp [x, y] H Q E
def rNeOwn (K : PySem.W.Frag) (C : Addr) (sp : Sp) (E : XK) : R2 := fun x y H Q => ∃ a dx fs, x = .ref a ∧ H a = some (.ins C dx fs) ∧ ((∃ b dy gs, y = .ref b ∧ H b = some (.ins C dy gs)) ∨ ∃ t, TyX K H y t ∧ PySem.W.notFirst K C t = true) ∧ sp [x, y] H (fun v H' => ∃ k, v = .bl k ∧ Q (.bl (!k)) H') E
/-- what != asks of the class -/
structure NeOf (K : PySem.W.Frag) (C : Addr) : Prop where
  ne : PySem.W.findIn K (.ref C) "__ne__" = some (some (.builtin "object.__ne__"))
  ob : PySem.W.subIn K (.ref C) (.type "object") = some true
section
variable {X : Cx} {CX : CXT} {n : Nat} {C g : Addr} {sp : Sp} {E : XK}
theorem op_eqOwn (K : PySem.W.Frag) (hK : X.K = K) (d : Dun K C "__eq__" g) (F : FnR X.prog X.w K X.mg X.base CX n g sp) (hr : Room n X.A) (hx : Passes CX X E) : OpR X (compareOp .Eq) (rEqOwn K C sp E) := by
  subst hK
  intro pins s σ H x y v u Q I rx ry h
  obtain ⟨a, dx, fs, rfl, ea, hy, q⟩ := h
  cases (show v = Value.ref a from rx)
  obtain ⟨ox, od, J⟩ := look_ins I ea
  obtain ⟨m, hF⟩ := I.fr
  have call : wpAny (model X.prog X.w) X.A (PySem.call (.ref g) [.ref a, u]) (PySem.W.CmpBack (EP X pins σ Q)) X.xe s := by
    refine wpAny_mono (wpAny_call (run_fnR (us := [.ref a, u]) (vs := [.ref a, y]) F hr hx I (.cons rfl (.cons ry .nil)) q)) (fun w s' z => ?_) fun _ _ x => x
    obtain ⟨z', H', I', rz, qz⟩ := z
    exact SlX.cmpback rz ⟨z', H', I', rz, qz⟩
  refine PySem.W.cmp_ofEq ?_
  rcases hy with ⟨b, dy, gs, rfl, eb⟩ | ⟨t, ty, hn⟩
  · cases (show u = Value.ref b from ry)
    obtain ⟨ox2, od2, J2⟩ := look_ins I eb
    exact PySem.W.cmp_K (op := .Eq) (tb := .ref C) hr.units0 hF I.ok.mod.kin J J2.type (by simp [PySem.W.notFirst]) d.at_ d.fn call
  · obtain ⟨P, Z, p, _⟩ := kit_of I ry ty
    exact PySem.W.cmp_K (op := .Eq) (tb := t) hr.units0 hF I.ok.mod.kin J (Z.ty _ _ I.kIn p) hn d.at_ d.fn call
theorem op_neOwn (K : PySem.W.Frag) (hK : X.K = K) (N : NeOf K C) (d : Dun K C "__eq__" g) (F : FnR X.prog X.w K X.mg X.base CX n g sp) (hr : Room (n + 1) X.A) (hx : Passes CX X E) : OpR X (compareOp .NotEq) (rNeOwn K C sp E) := by
  subst hK
  intro pins s σ H x y v u Q I rx ry h
  obtain ⟨a, dx, fs, rfl, ea, hy, q⟩ := h
  cases (show v = Value.ref a from rx)
  obtain ⟨ox, od, J⟩ := look_ins I ea
  obtain ⟨m, hF⟩ := I.fr
  have hu : X.A.units + 1 < cLine := by have := hr.un; omega
  have call : wpAny (model X.prog X.w) X.A.in1 (PySem.call (.ref g) [.ref a, u]) (fun v s' => ∃ k, v = .bool k ∧ EP X pins σ Q (.bool (!k)) s') X.xe s := by
    refine wpAny_mono (wpAny_call (SlX.run_at (us := [.ref a, u]) (ws := [.ref a, y]) F hr.in1 I.env0.in1 hx I (.cons rfl (.cons ry .nil)) q)) (fun w s' z => ?_) fun _ _ x => x
    obtain ⟨z', H', I', rz, k, rfl, qz⟩ := z
    cases (show w = Value.bool k from rz)
    exact ⟨k, rfl, .bl (!k), H', I', rfl, qz⟩
  refine PySem.W.cmp_ofNotEq ?_
  rcases hy with ⟨b, dy, gs, rfl, eb⟩ | ⟨t, ty, hn⟩
  · cases (show u = Value.ref b from ry)
    obtain ⟨ox2, od2, J2⟩ := look_ins I eb
    exact ne_K (tb := .ref C) hu hF I.ok.mod.kin J J2.type (by simp [PySem.W.notFirst]) N.ne d.at_ d.fn N.ob call
  · obtain ⟨P, Z, p, _⟩ := kit_of I ry ty
    exact ne_K (tb := t) hu hF I.ok.mod.kin J (Z.ty _ _ I.kIn p) hn N.ne d.at_ d.fn N.ob call
end
end Vx
namespace Vx
open PySem PySem.Spec PyProof.Rows L2 Srt SrtO
/-! sorted of a text, of any length -/
section
variable {prog : Program} {w : World} {A : Around} {E : Value → Shared → Prop} {s : Shared}
def cv : Value → Nat
  | .str x _ => x.cps.toList.headD 0
  | _ => 0
def ltCv (v u : Value) : Bool := decide (cv v < cv u)
theorem swo_sign : Swo ltCv := by
  refine ⟨fun x y h => ?_, fun x y z h1 h2 => ?_⟩
  · have a := of_decide_eq_true (p := cv x < cv y) h
    exact decide_eq_false (p := cv y < cv x) (by omega)
  · have a := of_decide_eq_false (p := cv y < cv x) h1
    have b := of_decide_eq_false (p := cv z < cv y) h2
    exact decide_eq_false (p := cv z < cv x) (by omega)
def IsSign (v : Value) : Prop := ∃ (c : Nat) (t : Tok), v = Value.str (S [c]) t
theorem sign_cmp {vs : List Value} (hI : ∀ v ∈ vs, IsSign v) : Cmp prog w A s oneType' (fun p => p.1 ∈ vs) (lt2 ltCv) := by
  intro p q hm hm'
  obtain ⟨a, t, e⟩ := hI _ hm
  obtain ⟨b, u, e'⟩ := hI _ hm'
  show wpAny (model prog w) A (keyLt' oneType' p.1 q.1) (fun r s' => s' = s ∧ r = ltCv p.1 q.1) (fun _ _ => False) s
  rw [e, e', keyLt'_oneType]
  refine oneLt_str ⟨rfl, ?_⟩
  show decide ([a] < [b]) = decide (a < b)
  rw [decide_eq_decide]
  simp [List.cons_lt_cons_iff]
theorem strs_of : ∀ {vs : List Value}, (∀ v ∈ vs, IsSign v) → ∃ ks, StrsAre vs ks
  | [], _ => ⟨[], .nil⟩
  | v :: r, h => by
    obtain ⟨c, t, e⟩ := h v List.mem_cons_self
    subst e
    obtain ⟨ks, q⟩ := strs_of fun u hu => h u (List.mem_cons_of_mem _ hu)
    exact ⟨_, .cons _ _ q⟩
theorem signs_sortable {a : Addr} {vs : List Value} (hI : ∀ v ∈ vs, IsSign v) (h2 : 2 ≤ vs.length) : SortableO prog w A s a vs ltCv := by
  intro h' _
  refine ⟨oneType', fun Q E hq => ?_, sign_cmp hI⟩
  match vs, hI, h2 with
  | v1 :: v2 :: rest, hI, _ =>
    obtain ⟨ks, hk⟩ := strs_of hI
    rw [keyKind_strs hk]
    exact wpAny_pure hq
  | [], _, h => exact absurd h (by decide)
  | [v], _, h => exact absurd h (by simp)
end
theorem vals_sg : ∀ {vs : List Value}, (∀ v ∈ vs, IsSign v) → Vals (sg (vs.map cv)) vs
  | [], _ => .nil
  | v :: r, h => by
    obtain ⟨c, t, e⟩ := h v List.mem_cons_self
    subst e
    exact .cons ⟨t, rfl⟩ (vals_sg fun u hu => h u (List.mem_cons_of_mem _ hu))
section
variable {X : Cx}
theorem cr_sortedTx (hc : X.calm = true) : CallR X (.builtin "sorted") (fun xs H Q => ∃ a : List Nat, xs = [.str (S a)] ∧ a.length ≤ 100000 ∧ ∀ (b : List Nat) (p : Addr) (H' : Hp), b.Perm a → b.Pairwise (· ≤ ·) → H p = none → p ≠ sysModules → H' = upd H p (.lst (sg b)) → Q (.ref p) H') := by
  intro pins s σ H xs us Q I r h
  obtain ⟨a, rfl, hz, q⟩ := h
  obtain ⟨u, rfl, rx⟩ := vals1 r
  obtain ⟨t, rfl⟩ := rx
  have hs : (S a).cps.size = a.length := SX.S_len a
  refine Calls.call_function_entry PyProof.Rows.kind_sorted PyProof.Rows.plain_sorted PyProof.Rows.entry_sorted (PyProof.Rows.args_sorted1 _) ?_
  unfold Builtin.«sorted»
  refine wpAny_bind (m := checkCount "sorted" 1 1 _) (wpAny_pure ?_)
  refine wpAny_bind (PySem.wpAny_collect_str (A := X.A.in1) (show X.A.in1.handled = none from I.ok.hd hc) (S a) t (fun s' acc hk hg hd ho it => ?_) (by rw [hs]; unfold sizeLine; omega))
  obtain ⟨h', g', d', tk, o'⟩ := s'
  dsimp only at hk hg hd ho
  subst hg hd ho
  have hsign : ∀ v ∈ acc.toList, IsSign v := fun v hv => by
    obtain ⟨j, hj⟩ := List.getElem?_of_mem hv
    obtain ⟨c, t', _, rfl⟩ := it.2 j v (by rw [← Array.getElem?_toList]; exact hj)
    exact ⟨c, t', rfl⟩
  have hal : acc.toList.length = a.length := by rw [Array.length_toList, it.1]; exact hs
  have hcv : acc.toList.map cv = a := by
    refine List.ext_getElem? fun j => ?_
    rw [List.getElem?_map]
    cases e : acc.toList[j]? with
    | none =>
      have : acc.toList.length ≤ j := List.getElem?_eq_none_iff.mp e
      rw [List.getElem?_eq_none (by omega)]; rfl
    | some v =>
      obtain ⟨c, t', h1, rfl⟩ := it.2 j v (by rw [← Array.getElem?_toList]; exact e)
      have h2 : a[j]? = some c := by rw [← h1]; exact (List.getElem?_toArray ..).symm
      rw [h2]; rfl
  have I1 : Inv X pins σ H { s with heap := h', toks := tk } := I.kept hk
  have hz16 : acc.toList.length ≤ sizeLine := by rw [hal]; unfold sizeLine; omega
  refine wpAny_bind (wpAny_newList ?_ hz16)
  have hoL : (h'.push (seqObj "list" acc.toList.toArray 0)).get? h'.objs.size = some (seqObj "list" acc.toList.toArray 0) := Heap.get?_push_size _ rfl
  show wpAny _ _ _ _ _ { s with heap := h'.push (seqObj "list" acc.toList.toArray 0), toks := tk }
  refine wpAny_bind (wpAny_holding (wpAny_call_entry PyProof.Rows.slot_list_sort ⟨_, hoL, rfl⟩ PyProof.Rows.entry_list_sort
    (SrtO.list_sort_ord (s := { s with heap := h'.push (seqObj "list" acc.toList.toArray 0), toks := tk }) swo_sign hoL hz16 (fun h2 => signs_sortable hsign h2) fun out h1 h2 => ⟨_, rfl, ?_⟩)
    (PyProof.Rows.args_list_sort _)))
  have hso : ∀ v ∈ out, IsSign v := fun v hv => hsign v (h2.perm.mem_iff.mp hv)
  obtain ⟨e', he'⟩ := PyProof.Rows.sortedHeap_at (vs := acc.toList) (out := out.toArray) hoL
  have hperm : (out.map cv).Perm a := by
    have := h2.perm.map cv
    rw [hcv] at this; exact this
  have hlen : (sg (out.map cv)).length ≤ sizeLine := by
    rw [sg_length, hperm.length_eq]; unfold sizeLine; omega
  have hsrt : (out.map cv).Pairwise (· ≤ ·) := List.pairwise_map.mpr (h1.imp fun {x y} h => Nat.not_lt.mp (of_decide_eq_false (p := cv y < cv x) h))
  have nb : h'.objs.size ≠ sysModules := big_ne I1
  refine wpAny_pure ⟨_, rfl, .ref h'.objs.size, upd H h'.objs.size (.lst (sg (out.map cv))), I1.laid (t' := tk) (fun b u e => ?_) (Nat.le_refl _)
    (show ObjOk X.prog X.w _ _ _ (.lst (sg (out.map cv))) from ⟨hlen, out, e', vals_sg hso, he'⟩), rfl, q _ _ _ hperm hsrt (I1.hok.fresh (Nat.le_refl _)) nb rfl⟩
  have hb : b < h'.objs.size := Heap.lt_size e
  rw [PyProof.Rows.sortedHeap_old (Nat.ne_of_lt hb) (by rw [size_push']; exact Nat.lt_succ_of_lt hb)]
  exact Heap.get?_push_of_some _ e
end
end Vx
namespace Vx
open PySem PySem.Spec PyProof.Rows L2
theorem range_up (a : List Nat) (tk : Tok) : slicePicked (S a) none none (some (1, tk)) = List.range a.length := by
  unfold slicePicked
  rw [SX.S_len]
  show sliceRange 0 (a.length : Int) 1 = _
  generalize a.length = n
  unfold sliceRange
  by_cases h : (0 : Int) < (n : Int)
  · have e : ((n : Int) - 0 + 1 - 1) / 1 = (n : Int) := by rw [Int.ediv_one]; omega
    rw [if_pos (by decide), if_pos h, e]
    show (List.range ((n : Int)).toNat).map (fun k : Nat => ((0 : Int) + 1 * (k : Int)).toNat) = _
    rw [Int.toNat_natCast]
    have : (List.range n).map (fun k : Nat => ((0 : Int) + 1 * (k : Int)).toNat) = (List.range n).map id := List.map_congr_left fun k _ => by simp
    rw [this, List.map_id]
  · have e : n = 0 := by omega
    subst e; rfl
section
variable {X : Cx}
/-- text[::step], the step 1 or -1 -/
def tStepS (te ts : TE) : TE := fun σ H Q => te σ H fun x H1 => ∃ a : List Nat, x = .str (S a) ∧ a.length ≤ 100000 ∧ tPart ts σ H1 fun o H2 => ∃ i : Int, o = some i ∧ (i = 1 ∨ i = -1) ∧ Q (.str (S (if i = 1 then a else a.reverse))) H2
theorem pe_stepS {e l r : Expr} {op : Operator} {te ts : TE} {p2 p3 pos : Pos} (he : PE X e te) (h2 : PE X (.BinOp l op r p2) ts) : PE X (.Subscript e (.Slice none none (some (.BinOp l op r p2)) p3) pos) (tStepS te ts) := by
  constructor
  intro pins s σ H Q I h
  apply Subscript_
  refine thn (he.run pins s σ H _ I h) ?_
  rintro v s1 ⟨x, H1, I1, r1, a, ex, hz, q⟩
  subst ex
  obtain ⟨t, rfl⟩ := r1
  have st : PO X (some (.BinOp l op r p2)) (tPart ts) := po_some h2
  apply wpAny_Slice
  refine thn (po_none.run pins s1 σ H1 (fun o H2 => o = none ∧ H2 = H1) I1 ⟨rfl, rfl⟩) ?_
  rintro vl s2 ⟨l, H2, I2, pl, el, e2⟩
  subst el e2
  refine thn (po_none.run pins s2 σ H2 (fun o H3 => o = none ∧ H3 = H2) I2 ⟨rfl, rfl⟩) ?_
  rintro vu s3 ⟨u, H3, I3, pu, eu, e3⟩
  subst eu e3
  refine thn (st.run pins s3 σ H3 _ I3 q) ?_
  rintro vs s4 ⟨o, H4, I4, ps, i, eo, hi, q4⟩
  subst eo
  have I5 : Inv X pins σ H4 { s4 with heap := s4.heap.push { cls := .type "slice", data := .fields #[vl, vu, vs] } } := I4.kept (t' := s4.toks) fun b ob z => Heap.get?_push_of_some _ z
  refine tail_any (ops := [.str (S a) t, .ref s4.heap.objs.size]) (typeIs_str _ _ _) F.slot_str_getitem.lookup ?_ (by with_unfolding_all rfl)
  obtain ⟨l, rfl, el⟩ := IsPart.raw pl
  obtain ⟨u, rfl, eu⟩ := IsPart.raw pu
  obtain ⟨w', rfl, ew⟩ := IsPart.raw ps
  have hl : l = none := by cases l with | none => rfl | some z => cases el
  have hu : u = none := by cases u with | none => rfl | some z => cases eu
  obtain ⟨tk, rfl⟩ : ∃ tk, w' = some (i, tk) := by
    cases w' with
    | none => cases ew
    | some z => obtain ⟨z1, z2⟩ := z; cases ew; exact ⟨z2, rfl⟩
  subst hl hu
  have hlen : (S a).length ≤ sizeLine := by rw [SX.S_len]; unfold sizeLine; omega
  rcases hi with rfl | rfl
  · refine wpAny_getItem_str_slice (l := none) (u := none) (st := some (1, tk)) ⟨_, Heap.get?_push_size _ rfl, rfl, rfl⟩ (by rfl) ?_
    have hp : slicePicked (S a) none none (some (1, tk)) = List.range a.length := range_up a tk
    unfold sliceMade
    have hne : ((Option.map (fun x : Int × Tok => x.fst) (some ((1 : Int), tk))).getD 1 == 1 && (slicePicked (S a) none none (some (1, tk))).length == (S a).length) = true := by
      rw [hp, List.length_range, SX.S_len]; simp
    rw [if_pos hne]
    exact ⟨.str _, H4, I5, ⟨t, rfl⟩, q4⟩
  · refine wpAny_getItem_str_slice (l := none) (u := none) (st := some (-1, tk)) ⟨_, Heap.get?_push_size _ rfl, rfl, rfl⟩ (by rfl) ?_
    have hp : slicePicked (S a) none none (some (-1, tk)) = (List.range a.length).reverse := by
      unfold slicePicked
      rw [SX.S_len, ← PySem.W.krv_range, ← PySem.W.krv_sliceRange]
      rfl
    have hr : ((slicePicked (S a) none none (some (-1, tk))).filterMap ((S a).cps[·]?)).toArray = a.reverse.toArray := by
      rw [hp, List.filterMap_reverse]
      have e := PySem.W.krv_all a.toArray
      rw [List.size_toArray] at e
      have e' : (List.range a.length).filterMap (fun x => (S a).cps[x]?) = a := e
      rw [e']
    unfold sliceMade
    have hne : ((Option.map (fun x : Int × Tok => x.fst) (some ((-1 : Int), tk))).getD 1 == 1 && (slicePicked (S a) none none (some (-1, tk))).length == (S a).length) = false := by
      rw [show ((Option.map (fun x : Int × Tok => x.fst) (some ((-1 : Int), tk))).getD 1 == 1) = false from rfl, Bool.false_and]
    rw [if_neg (by rw [hne]; exact Bool.false_ne_true), hr]
    refine ⟨?_, .str _, H4, I5.tok _, ⟨_, rfl⟩, q4⟩
    show (S a.reverse).length ≤ sizeLine
    rw [SX.S_len, List.length_reverse]; unfold sizeLine; omega
theorem op_notInK (K : PySem.W.Frag) (h : X.K = K) : OpR X (compareOp .NotIn) (rIn K true) := by subst h; exact op_notIn_seq
theorem op_inK (K : PySem.W.Frag) (h : X.K = K) : OpR X (compareOp .In) (rIn K false) := by subst h; exact op_in_seq
def rExtendQ : V → List V → Hp → VK → Prop := fun x vs H Q => ∃ l b xs zs, x = .ref l ∧ vs = [.ref b] ∧ H l = some (.lst xs) ∧ H b = some (.lst zs) ∧ xs.length + zs.length ≤ sizeLine ∧ ∀ H', H' = upd H l (.lst (xs ++ zs)) → Q .non H'
theorem mtq_extend : MtM X "list.extend" rExtendQ := by
  intro pins s σ H x vs v us Q I rx rv h
  obtain ⟨l, b, xs, zs, h1, h2, h3, h4, h5, q⟩ := h
  exact mt_extend pins s σ H x vs v us Q I rx rv ⟨l, b, xs, zs, h1, h2, h3, h4, h5, q _ rfl⟩
end
end Vx
namespace Vu
open PySem PySem.Spec PySem.Calls PySem.W PyProof.Rows
/-! list(zip(a, b)) of two lists -/
theorem zip_no_len : typeLookup (.type "zip") "__len__" = pure none := by rw [typeLookup_type, builtinLookup_eq_fast]; kernel_rfl
theorem zip_no_hint : typeLookup (.type "zip") "__length_hint__" = pure none := by rw [typeLookup_type, builtinLookup_eq_fast]; kernel_rfl
/-- a zip of two lists before turn i: nothing is given out, or the last tuple is held -/
structure ZSt (h : Heap) (z TI TO i1 i2 a b S : Addr) (xs ys : Array Value) (i : Nat) : Prop where
  pair : PySem.IsPair h TI (.ref i1) (.ref i2)
  one : h.IsListIter i1 a i
  two : h.IsListIter i2 b i
  la : h.IsList a xs
  lb : h.IsList b ys
  zip : (IsZip h z TI TO .none ∧ ∃ x y, PySem.IsPair h TO x y) ∨ ∃ (T : Addr) (f : Bool) (oT : Obj), IsZipHeld h z TI TO T f ∧ h.get? T = some oT ∧ T ≠ z ∧ T ≠ i1 ∧ T ≠ i2 ∧ T ≠ S
theorem ZSt.keep {h h' : Heap} {z TI TO i1 i2 a b S : Addr} {xs ys : Array Value} {i : Nat} (st : ZSt h z TI TO i1 i2 a b S xs ys i) (off : ∀ c ∈ [z, TI, TO, i1, i2, a, b], c ≠ S) (k : ∀ c o, c ≠ S → h.get? c = some o → h'.get? c = some o) : ZSt h' z TI TO i1 i2 a b S xs ys i := by
  obtain ⟨p, h1, h2, la, lb, hz⟩ := st
  refine ⟨k _ _ (off TI (by simp)) p, h1.at fun o q => k _ o (off i1 (by simp)) q, h2.at fun o q => k _ o (off i2 (by simp)) q, la.at fun o q => k _ o (off a (by simp)) q, lb.at fun o q => k _ o (off b (by simp)) q, ?_⟩
  rcases hz with ⟨hz, x, y, hTO⟩ | ⟨T, f, oT, hz, hT, t1, t2, t3, t4⟩
  · exact .inl ⟨k _ _ (off z (by simp)) hz, x, y, k _ _ (off TO (by simp)) hTO⟩
  · exact .inr ⟨T, f, oT, k _ _ (off z (by simp)) hz, k _ _ t4 hT, t1, t2, t3, t4⟩
section
variable {prog : Program} {w : World} {A : Around} {E : Value → Shared → Prop} {s : Shared}
theorem z_item {z TI TO i1 i2 a b S : Addr} {xs ys : Array Value} {x y : Value} {i : Nat} {Q : Option Value → Shared → Prop} (D : ZipApart z TI TO i1 i2 a b) (st : ZSt s.heap z TI TO i1 i2 a b S xs ys i) (hS : S < s.heap.objs.size) (hx : xs[i]? = some x) (hy : ys[i]? = some y)
    (hQ : ∀ h', ZSt h' z TI TO i1 i2 a b S xs ys (i + 1) → PySem.IsPair h' s.heap.objs.size x y → h'.objs.size = s.heap.objs.size + 1 → (∀ c o, c ≠ z → c ≠ TO → c ≠ i1 → c ≠ i2 → s.heap.get? c = some o → h'.get? c = some o) → Q (some (.ref s.heap.objs.size)) { s with heap := h' }) :
    wpAny (model prog w) A (pyNext (.ref z)) Q E s := by
  obtain ⟨hTI, h1, h2, la, lb, hz⟩ := st
  have n1 : s.heap.objs.size ≠ i1 := by obtain ⟨_, e, _⟩ := h1; exact Nat.ne_of_gt (Heap.lt_size e)
  have n2 : s.heap.objs.size ≠ i2 := by obtain ⟨_, e, _⟩ := h2; exact Nat.ne_of_gt (Heap.lt_size e)
  rcases hz with ⟨hz, x0, y0, hTO⟩ | ⟨T, f, oT, hz, hT, t1, t2, t3, t4⟩
  · refine wpAny_pyNext_zip_item D hz hTI hTO h1 h2 la lb hx hy fun h' z' TO' h1' h2' hp hsz hk => hQ h' ⟨hk _ _ D.TIz D.TITO D.TIi1 D.TIi2 hTI, h1', h2', la.at fun o q => hk _ _ D.l1z D.l1TO D.l1i1 D.l1i2 q, lb.at fun o q => hk _ _ D.l2z D.l2TO D.l2i1 D.l2i2 q, .inr ⟨s.heap.objs.size, false, _, z', hp, Nat.ne_of_gt (Heap.lt_size hz), n1, n2, Nat.ne_of_gt hS⟩⟩ hp hsz hk
  · refine wpAny_pyNext_zip_item_held D hz hT hTI h1 h2 la lb hx hy fun h' z' h1' h2' hp hsz hk => hQ h' ⟨hk _ _ D.TIz D.TIi1 D.TIi2 hTI, h1', h2', la.at fun o q => hk _ _ D.l1z D.l1i1 D.l1i2 q, lb.at fun o q => hk _ _ D.l2z D.l2i1 D.l2i2 q, .inr ⟨T, true, oT, z', hk _ _ t1 t2 t3 hT, t1, t2, t3, t4⟩⟩ hp hsz fun c o c1 _ c3 c4 q => hk c o c1 c3 c4 q
theorem z_done {z TI TO i1 i2 a b S : Addr} {xs ys : Array Value} {i : Nat} {Q : Option Value → Shared → Prop} (hh : A.handled = none) (D : ZipApart z TI TO i1 i2 a b) (st : ZSt s.heap z TI TO i1 i2 a b S xs ys i) (he : xs[i]? = none ∨ ys[i]? = none)
    (hQ : ∀ h', (∀ c o, c ≠ z → c ≠ TO → c ≠ i1 → c ≠ i2 → s.heap.get? c = some o → h'.get? c = some o) → Q none { s with heap := h' }) :
    wpAny (model prog w) A (pyNext (.ref z)) Q E s := by
  obtain ⟨hTI, h1, h2, la, lb, hz⟩ := st
  rcases hz with ⟨hz, x0, y0, hTO⟩ | ⟨T, f, oT, hz, hT, t1, t2, t3, t4⟩
  · exact wpAny_pyNext_zip_end hh D hz hTI hTO h1 h2 la lb he fun h' hk => hQ h' hk
  · exact wpAny_pyNext_zip_end_held hh D hz hT hTI h1 h2 la lb he fun h' hk => hQ h' fun c o c1 _ c3 c4 q => hk c o c1 c3 c4 q
end
structure ZG (xs ys : Array Value) (lo : Addr) (h : Heap) (as : List Addr) : Prop where
  rise : as.Pairwise (· < ·)
  above : ∀ a ∈ as, lo < a
  pairs : ∀ (j : Nat) (a : Addr), as[j]? = some a → ∃ x y, xs[j]? = some x ∧ ys[j]? = some y ∧ PySem.IsPair h a x y
theorem ZG.there {xs ys : Array Value} {lo : Addr} {h : Heap} {as : List Addr} (g : ZG xs ys lo h as) {a : Addr} (ha : a ∈ as) : a < h.objs.size := by
  obtain ⟨j, hj⟩ := List.mem_iff_getElem?.mp ha
  obtain ⟨_, _, _, _, e⟩ := g.pairs j a hj
  exact Heap.lt_size e
section
variable {prog : Program} {w : World} {A : Around} {s : Shared} {R : Result → Shared → Prop} {xs ys : Array Value} {n : Nat}
theorem z_loop {S z TI TO i1 i2 a b : Addr} (hh : A.handled = none) (D : ZipApart z TI TO i1 i2 a b) (off : ∀ c ∈ [z, TI, TO, i1, i2, a, b], c < S) (hx : n ≤ xs.size) (hy : n ≤ ys.size) (he : xs[n]? = none ∨ ys[n]? = none) (hn : n ≤ sizeLine) (res : Value) {h₁ : Heap}
    (hR : ∀ h' tk acc c as, (∀ b o, b ≠ S → b ≠ z → b ≠ TO → b ≠ i1 → b ≠ i2 → h₁.get? b = some o → h'.get? b = some o) → h'.get? S = some { cls := .type "list", dict := none, data := .seq acc c, slots := #[] } → as.length = n → ZG xs ys S h' as →
      acc.toList = as.map Value.ref → R (.ok (.ret res)) { s with heap := h', toks := tk }) :
    ∀ (k i : Nat) (h : Heap) (tk c : Nat) (acc : Array Value) (as : List Addr), n - i = k → i ≤ n → ZSt h z TI TO i1 i2 a b S xs ys i → (∀ b o, b ≠ S → b ≠ z → b ≠ TO → b ≠ i1 → b ≠ i2 → h₁.get? b = some o → h.get? b = some o) →
      h.get? S = some { cls := .type "list", dict := none, data := .seq acc c, slots := #[] } → acc.toList = as.map Value.ref → as.length = i → ZG xs ys S h as →
      codeAny (model prog w) A (.builtin "list.extend.loop" ⟨[.ref S, .ref z, res], []⟩) R { s with heap := h, toks := tk } := by
  have nS : ∀ c ∈ [z, TI, TO, i1, i2, a, b], c ≠ S := fun c h => Nat.ne_of_lt (off c h)
  intro k
  induction k with
  | zero =>
    intro i h tk c acc as hk hi hst hkeep hS hacc hal hG
    have hin : i = n := by omega
    subst hin
    refine codeAny_builtin PySem.F.entry_extend_loop ?_
    rw [Around.under_plainId PySem.F.plain_extend_loop _]
    show wpAny _ A.in1 (pyNext (.ref z) >>= _) _ _ _
    refine wpAny_bind (z_done (s := { s with heap := h, toks := tk }) (A := A.in1) hh D hst he fun h' hk' => ?_)
    refine wpAny_pure (hR h' tk acc c as (fun b o b1 b2 b3 b4 b5 e => hk' b o b2 b3 b4 b5 (hkeep b o b1 b2 b3 b4 b5 e)) (hk' S _ (nS z (by simp)).symm (nS TO (by simp)).symm (nS i1 (by simp)).symm (nS i2 (by simp)).symm hS) hal ⟨hG.rise, hG.above, fun j a' hj => ?_⟩ hacc)
    obtain ⟨x, y, e1, e2, e3⟩ := hG.pairs j a' hj
    have ab := hG.above a' (List.mem_of_getElem? hj)
    exact ⟨x, y, e1, e2, hk' a' _ (Nat.ne_of_gt (Nat.lt_trans (off z (by simp)) ab)) (Nat.ne_of_gt (Nat.lt_trans (off TO (by simp)) ab)) (Nat.ne_of_gt (Nat.lt_trans (off i1 (by simp)) ab)) (Nat.ne_of_gt (Nat.lt_trans (off i2 (by simp)) ab)) e3⟩
  | succ k ih =>
    intro i h tk c acc as hk hi hst hkeep hS hacc hal hG
    have hlt : i < n := by omega
    have hsz : acc.size = i := by rw [← Array.length_toList, hacc, List.length_map, hal]
    refine codeAny_builtin PySem.F.entry_extend_loop ?_
    rw [Around.under_plainId PySem.F.plain_extend_loop _]
    show wpAny _ A.in1 (pyNext (.ref z) >>= _) _ _ _
    have gx : xs[i]? = some (xs[i]'(by omega)) := Array.getElem?_eq_getElem (by omega)
    have gy : ys[i]? = some (ys[i]'(by omega)) := Array.getElem?_eq_getElem (by omega)
    refine wpAny_bind (z_item (s := { s with heap := h, toks := tk }) (S := S) D hst (Heap.lt_size hS) gx gy fun h' hst' ht hz hkp => ?_)
    dsimp only at ht hz hkp ⊢
    have hS' := hkp S _ (nS z (by simp)).symm (nS TO (by simp)).symm (nS i1 (by simp)).symm (nS i2 (by simp)).symm hS
    have up : ∀ b o, b ≠ S → h'.get? b = some o → (h'.update S (Obj.mapSeq (·.push (Value.ref h.objs.size)))).get? b = some o := fun b o hb e => (Heap.get?_update_other _ _ (Ne.symm hb)).trans e
    have hSl : S < h.objs.size := Heap.lt_size hS
    show wpAny _ A.in1 (updateSeq S (·.push (Value.ref h.objs.size)) >>= _) _ _ _
    refine wpAny_bind ?_
    refine wpAny_updateSeq hS' rfl (wpAny_pure ⟨plainId_quiet PySem.F.plain_extend_loop _, ih (i + 1) _ tk _ (acc.push (Value.ref h.objs.size)) (as ++ [h.objs.size]) (by omega) hlt (hst'.keep nS up)
      (fun b o b1 b2 b3 b4 b5 e => up b o b1 (hkp b o b2 b3 b4 b5 (hkeep b o b1 b2 b3 b4 b5 e))) (Heap.get?_update_self _ hS' rfl) (by rw [Array.toList_push, hacc, List.map_append]; rfl) (by rw [List.length_append, hal]; rfl) ⟨?_, ?_, ?_⟩⟩) (by rw [hsz]; omega) (by show (acc.push (Value.ref h.objs.size)).size ≤ sizeLine + 1; rw [Array.size_push, hsz]; omega)
    · refine List.pairwise_append.mpr ⟨hG.rise, List.pairwise_singleton _ _, fun a ha b hb => ?_⟩
      rw [List.mem_singleton.mp hb]
      exact hG.there ha
    · intro a ha
      rcases List.mem_append.mp ha with ha | ha
      · exact hG.above a ha
      · rw [List.mem_singleton.mp ha]; exact hSl
    · intro j b' hj
      rcases Nat.lt_trichotomy j as.length with h1 | h1 | h1
      · rw [List.getElem?_append_left h1] at hj
        obtain ⟨x, y, e1, e2, e3⟩ := hG.pairs j b' hj
        have hb := hG.above b' (List.mem_of_getElem? hj)
        exact ⟨x, y, e1, e2, up b' _ (Nat.ne_of_gt hb) (hkp b' _ (Nat.ne_of_gt (Nat.lt_trans (off z (by simp)) hb)) (Nat.ne_of_gt (Nat.lt_trans (off TO (by simp)) hb)) (Nat.ne_of_gt (Nat.lt_trans (off i1 (by simp)) hb)) (Nat.ne_of_gt (Nat.lt_trans (off i2 (by simp)) hb)) e3)⟩
      · subst h1
        have hb : h.objs.size = b' := by simpa using hj
        subst hb
        subst hal
        exact ⟨_, _, gx, gy, up _ _ (Nat.ne_of_gt hSl) ht⟩
      · have hnone : (as ++ [h.objs.size])[j]? = none := List.getElem?_eq_none (by rw [List.length_append, List.length_singleton]; omega)
        rw [hnone] at hj; cases hj
end
section
variable {prog : Program} {w : World} {A : Around} {s : Shared} {xs ys : Array Value} {n : Nat} {z TI TO i1 i2 a b : Addr}
theorem z_extend {R : Result → Shared → Prop} (hh : A.handled = none) (D : ZipApart z TI TO i1 i2 a b) (S : Addr) (off : ∀ c ∈ [z, TI, TO, i1, i2, a, b], c < S) (hx : n ≤ xs.size) (hy : n ≤ ys.size) (he : xs[n]? = none ∨ ys[n]? = none) (hn : n ≤ sizeLine) (res : Value) (c₀ : Nat)
    (hz : IsZip s.heap z TI TO .none) (hst : ZSt s.heap z TI TO i1 i2 a b S xs ys 0) (hS : s.heap.get? S = some { cls := .type "list", data := .seq #[] c₀ })
    (hR : ∀ h' tk acc c as, (∀ b o, b ≠ S → b ≠ z → b ≠ TO → b ≠ i1 → b ≠ i2 → s.heap.get? b = some o → h'.get? b = some o) → h'.get? S = some { cls := .type "list", dict := none, data := .seq acc c, slots := #[] } → as.length = n → ZG xs ys S h' as →
      acc.toList = as.map Value.ref → R (.ok (.ret res)) { s with heap := h', toks := tk }) :
    wpAny (model prog w) A.in1 (Builtin.List.listExtendWith (.ref S) (.ref z) res)
      (fun fin s' => match fin with | .done f => R (.ok f) s' | .again c' => c'.quiet = true ∧ codeAny (model prog w) A c' R s') (fun e s' => R (.error e) s') s := by
  have nS : ∀ c ∈ [z, TI, TO, i1, i2, a, b], c ≠ S := fun c h => Nat.ne_of_lt (off c h)
  have hT : s.TypeIs (.ref z) "zip" := ⟨_, hz, rfl⟩
  unfold Builtin.List.listExtendWith
  refine wpAny_bind (wpAny_typeOf hT ?_)
  have h1 : Builtin.List.listSameRef (.ref S) (.ref z) = false := by simp [Builtin.List.listSameRef, (nS z (by simp)).symm]
  have h2 : (Value.type "zip" == Value.type "list") = false := by decide
  have h3 : (Value.type "zip" == Value.type "tuple") = false := by decide
  simp only [h1, h2, h3, Bool.or_false, Bool.false_eq_true, if_false]
  refine wpAny_bind (wpAny_pyIter_zip hz ?_)
  refine wpAny_bind (wpAny_holding ?_)
  unfold Builtin.List.listLengthHint
  refine wpAny_bind (wpAny_specialOf hT zip_no_len ?_)
  show wpAny _ A.in1 (specialOf (Value.ref z) (Str.ofString "__length_hint__") >>= _) _ _ _
  refine wpAny_bind (wpAny_specialOf hT zip_no_hint ?_)
  refine wpAny_pure ?_
  show wpAny _ A.in1 (rule "list.extend.makes-room" >>= fun _ => Builtin.List.listTouch (.ref S) >>= fun _ => again (.builtin "list.extend.loop" ⟨[.ref S, .ref z, res], []⟩)) _ _ _
  refine wpAny_bind (wpAny_rule ?_)
  refine wpAny_bind ?_
  show wpAny _ A.in1 (updateSeq S (·.push .none) >>= fun _ => updateSeq S (·.pop)) _ _ _
  refine wpAny_bind (wpAny_updateSeq hS rfl ?_)
  have hS₂ := Heap.get?_update_self (Obj.mapSeq (·.push Value.none)) hS rfl
  refine wpAny_updateSeq (hz := by seq_fits) hS₂ rfl ?_
  have hS₃ := Heap.get?_update_self (Obj.mapSeq (·.pop)) hS₂ rfl
  have oth : ∀ b o, b ≠ S → s.heap.get? b = some o → ((s.heap.update S (Obj.mapSeq (·.push Value.none))).update S (Obj.mapSeq (·.pop))).get? b = some o :=
    fun b o hb e => (Heap.get?_update_other _ _ (Ne.symm hb)).trans ((Heap.get?_update_other _ _ (Ne.symm hb)).trans e)
  refine wpAny_pure ⟨plainId_quiet PySem.F.plain_extend_loop _, z_loop (s := s) (h₁ := s.heap) hh D off hx hy he hn res hR n 0 _ _ _ #[] [] (Nat.sub_zero _) (Nat.zero_le _) (hst.keep nS oth) (fun b o b1 _ _ _ _ e => oth b o b1 e) hS₃ rfl rfl
    ⟨List.Pairwise.nil, (fun _ ha => nomatch ha), (fun j a hj => by simp at hj)⟩⟩
theorem z_init {R : Result → Shared → Prop} (hh : A.handled = none) (D : ZipApart z TI TO i1 i2 a b) (S : Addr) (off : ∀ c ∈ [z, TI, TO, i1, i2, a, b], c < S) (hx : n ≤ xs.size) (hy : n ≤ ys.size) (he : xs[n]? = none ∨ ys[n]? = none) (hn : n ≤ sizeLine)
    (hz : IsZip s.heap z TI TO .none) (hst : ZSt s.heap z TI TO i1 i2 a b S xs ys 0) (hS : s.heap.get? S = some { cls := .type "list", data := .seq #[] })
    (hR : ∀ h' tk acc c as, (∀ b o, b ≠ S → b ≠ z → b ≠ TO → b ≠ i1 → b ≠ i2 → s.heap.get? b = some o → h'.get? b = some o) → h'.get? S = some { cls := .type "list", dict := none, data := .seq acc c, slots := #[] } → as.length = n → ZG xs ys S h' as →
      acc.toList = as.map Value.ref → R (.ok (.ret .none)) { s with heap := h', toks := tk }) :
    wpAny (model prog w) A.in1 (Builtin.«list.__init__» ⟨[.ref S, .ref z], []⟩)
      (fun fin s' => match fin with | .done f => R (.ok f) s' | .again c' => c'.quiet = true ∧ codeAny (model prog w) A c' R s') (fun e s' => R (.error e) s') s := by
  have nS : ∀ c ∈ [z, TI, TO, i1, i2, a, b], c ≠ S := fun c h => Nat.ne_of_lt (off c h)
  show wpAny _ _ (do let old ← Builtin.List.listItems (.ref S); Builtin.List.listUpdate (.ref S) (fun _ => #[]); letGo old.toList.reverse; Builtin.List.listExtendWith (.ref S) (.ref z) .none) _ _ s
  refine wpAny_bind ?_
  unfold Builtin.List.listItems
  refine wpAny_bind (wpAny_seqItems hS rfl (wpAny_pure ?_))
  show wpAny _ _ (updateSeq S (fun _ => #[]) >>= fun _ => letGo (#[] : Array Value).toList.reverse >>= fun _ => Builtin.List.listExtendWith (.ref S) (.ref z) .none) _ _ s
  refine wpAny_bind (wpAny_updateSeq hS rfl ?_)
  have hS₂ := Heap.get?_update_self (Obj.mapSeq (fun _ => (#[] : Array Value))) hS rfl
  have oth : ∀ b o, b ≠ S → s.heap.get? b = some o → (s.heap.update S (Obj.mapSeq (fun _ => (#[] : Array Value)))).get? b = some o :=
    fun b o hb e => (Heap.get?_update_other _ _ (Ne.symm hb)).trans e
  refine wpAny_bind (wpAny_letGo ?_)
  refine z_extend hh D S off hx hy he hn .none _ (oth z _ (nS z (by simp)) hz) (hst.keep nS oth) hS₂ fun h' tk acc c as hk hS' hl hG hacc => ?_
  exact hR h' tk acc c as (fun b o b1 b2 b3 b4 b5 e => hk b o b1 b2 b3 b4 b5 (oth b o b1 e)) hS' hl hG hacc
end
section
variable {prog : Program} {w : World} {A : Around} {E : Value → Shared → Prop} {s : Shared} {xs ys : Array Value} {n : Nat} {z TI TO i1 i2 a b : Addr}
theorem z_call {Q : Value → Shared → Prop} (hh : A.handled = none) (D : ZipApart z TI TO i1 i2 a b) (off : ∀ c ∈ [z, TI, TO, i1, i2, a, b], c < s.heap.objs.size) (hx : n ≤ xs.size) (hy : n ≤ ys.size) (he : xs[n]? = none ∨ ys[n]? = none) (hn : n ≤ sizeLine)
    (hz : IsZip s.heap z TI TO .none) (hst : ZSt s.heap z TI TO i1 i2 a b s.heap.objs.size xs ys 0)
    (hQ : ∀ h' tk acc c as, (∀ b o, b ≠ z → b ≠ TO → b ≠ i1 → b ≠ i2 → s.heap.get? b = some o → h'.get? b = some o) → h'.get? s.heap.objs.size = some { cls := .type "list", dict := none, data := .seq acc c, slots := #[] } → as.length = n → ZG xs ys s.heap.objs.size h' as →
      acc.toList = as.map Value.ref → Q (.ref s.heap.objs.size) { s with heap := h', toks := tk }) :
    wpAny (model prog w) A (call (.type "list") [.ref z]) Q E s := by
  refine callType_codes (Q₁ := fun obj s₁ => obj = .ref s.heap.objs.size ∧ s₁ = { s with heap := s.heap.push { cls := .type "list", data := .seq #[] } }) PySem.F.called_list (PySem.F.typeCall_list_1 _) PySem.F.entry_list_init
    (code_list_new _ ⟨rfl, rfl⟩) fun obj s₁ h₁ => ?_
  obtain ⟨rfl, rfl⟩ := h₁
  have hS : (s.heap.push { cls := .type "list", data := .seq #[] }).get? s.heap.objs.size = some { cls := .type "list", data := .seq #[] } := Heap.get?_push_size _ rfl
  refine ⟨⟨_, hS, rfl⟩, PySem.F.args_list_init_2 _ _, z_init (A := A.in1) hh D _ off hx hy he hn (Heap.get?_push_of_some _ hz) (hst.keep (fun c h => Nat.ne_of_lt (off c h)) fun c o _ e => Heap.get?_push_of_some _ e) hS (fun h' tk acc c as hk hS' hl hG hacc => ?_)⟩
  exact ⟨rfl, hQ h' tk acc c as (fun b o b2 b3 b4 b5 e => hk b o (Nat.ne_of_lt (Heap.lt_size e)) b2 b3 b4 b5 (Heap.get?_push_of_some _ e)) hS' hl hG hacc⟩
end
section
open L2 LiI
def putZ : Hp → List Addr → List (V × V) → Hp
  | H, a :: as, p :: ps => putZ (upd H a (.tup [p.1, p.2])) as ps
  | H, _, _ => H
theorem putZ_off {b : Addr} : ∀ (as : List Addr) (ps : List (V × V)) (H : Hp), b ∉ as → putZ H as ps b = H b
  | [], _, _, _ => rfl
  | _ :: _, [], _, _ => rfl
  | a :: as, p :: ps, H, h => by
    show putZ (upd H a (.tup [p.1, p.2])) as ps b = H b
    rw [putZ_off as ps _ (fun z => h (List.mem_cons_of_mem _ z)), upd_ne (fun z => h (by rw [z]; exact List.mem_cons_self))]
theorem putZ_at : ∀ (as : List Addr) (ps : List (V × V)) (H : Hp), as.length = ps.length → as.Nodup → Paired (fun (t : Addr) (p : V × V) => putZ H as ps t = some (.tup [p.1, p.2])) as ps
  | [], [], _, _, _ => .nil
  | [], _ :: _, _, h, _ => by cases h
  | _ :: _, [], _, h, _ => by cases h
  | a :: as, p :: ps, H, h, hn => by
    have hn' := List.nodup_cons.mp hn
    have ih := putZ_at as ps (upd H a (.tup [p.1, p.2])) (Nat.succ.inj h) hn'.2
    refine .cons ?_ ih
    show putZ (upd H a (.tup [p.1, p.2])) as ps a = some (.tup [p.1, p.2])
    rw [putZ_off as ps _ hn'.1, upd_same]
def rZip (K : PySem.W.Frag) : List V → Hp → VK → Prop := fun vs H Q => ∃ (a b : Addr) (xs ys : List V), vs = [.ref a, .ref b] ∧ SqL K H a xs ∧ SqL K H b ys ∧ xs.length = ys.length ∧ xs.length ≤ sizeLine ∧
  ∀ (H' : Hp) (p : Addr) (ts : List Addr), (∀ b o, H b = some o → H' b = some o) → H p = none → (∀ t ∈ ts, H t = none) → p ∉ ts → H' p = some (.lst (ts.map V.ref)) → ts.length = xs.length → (∀ (j : Nat) (t : Addr) (x y : V), ts[j]? = some t → xs[j]? = some x → ys[j]? = some y → H' t = some (.tup [x, y])) → Q (.ref p) H'
def tListZip (K : PySem.W.Frag) (ta : TA) : TE := fun σ H Q => ta σ H fun vs H1 => rZip K vs H1 Q
theorem z_laid {X : Cx} {pins : List (Addr × Obj)} {σ : L2.St} {H : Hp} {s : Shared} {S : Addr} {h' : Heap} {tk : Nat} {xs ys : List V} {us ws : List Value} {acc : Array Value} {c : Nat} {as : List Addr} (I : Inv X pins σ H s) (hz : xs.length ≤ sizeLine) (hxy : xs.length = ys.length) (rx : Vals xs us) (ry : Vals ys ws) (hS0 : s.heap.objs.size ≤ S)
    (hk : ∀ b o, s.heap.get? b = some o → h'.get? b = some o) (hS : h'.get? S = some { cls := .type "list", dict := none, data := .seq acc c, slots := #[] }) (hl : as.length = xs.length) (hG : ZG us.toArray ws.toArray S h' as) (hacc : acc.toList = as.map Value.ref) :
    ∃ H' : Hp, (∀ b o, H b = some o → H' b = some o) ∧ H S = none ∧ (∀ t ∈ as, H t = none) ∧ S ∉ as ∧ H' S = some (.lst (as.map V.ref)) ∧ (∀ (j : Nat) (t : Addr) (x y : V), as[j]? = some t → xs[j]? = some x → ys[j]? = some y → H' t = some (.tup [x, y])) ∧ Inv X pins σ H' { s with heap := h', toks := tk } := by
  have lz : (xs.zip ys).length = as.length := by rw [List.length_zip]; omega
  have hSn : S ∉ as := fun z => Nat.lt_irrefl _ (hG.above _ z)
  have nd : as.Nodup := List.Pairwise.imp (fun {a b} (h : a < b) => Nat.ne_of_lt h) hG.rise
  have new : ∀ t ∈ as, H t = none := fun t ht => I.hok.fresh (Nat.le_of_lt (Nat.lt_of_le_of_lt hS0 (hG.above t ht)))
  have newS : H S = none := I.hok.fresh hS0
  have atP := putZ_at as (xs.zip ys) (upd H S (.lst (as.map V.ref))) lz.symm nd
  have off : ∀ b, b ∉ as → b ≠ S → putZ (upd H S (.lst (as.map V.ref))) as (xs.zip ys) b = H b := fun b h1 h2 => by rw [putZ_off as _ _ h1, upd_ne h2]
  have low : ∀ b o, s.heap.get? b = some o → b ∉ as ∧ b ≠ S := fun b o e => ⟨fun z => absurd (Heap.lt_size e) (Nat.not_lt.mpr (Nat.le_of_lt (Nat.lt_of_le_of_lt hS0 (hG.above b z)))), Nat.ne_of_lt (Nat.lt_of_lt_of_le (Heap.lt_size e) hS0)⟩
  have kp : ∀ b u, H b = some u → (putZ (upd H S (.lst (as.map V.ref))) as (xs.zip ys)) b = some u := fun b u e => by
    rw [off b (fun z => by rw [new b z] at e; cases e) (fun z => by rw [z, newS] at e; cases e)]
    exact e
  have eS : putZ (upd H S (.lst (as.map V.ref))) as (xs.zip ys) S = some (.lst (as.map V.ref)) := by rw [putZ_off as _ _ hSn, upd_same]
  have atJ : ∀ (j : Nat) (t : Addr) (x y : V), as[j]? = some t → xs[j]? = some x → ys[j]? = some y → putZ (upd H S (.lst (as.map V.ref))) as (xs.zip ys) t = some (.tup [x, y]) := fun j t x y e1 e2 e3 => by
    obtain ⟨q, g1, g2⟩ := LiI.paired_get atP e1
    rw [show (xs.zip ys)[j]? = some (x, y) from List.getElem?_zip_eq_some.mpr ⟨e2, e3⟩] at g1
    rw [g2, ← Option.some.inj g1]
  refine ⟨putZ (upd H S (.lst (as.map V.ref))) as (xs.zip ys), kp, newS, new, hSn, eS, atJ, ?_⟩
  refine I.call' (ch := []) rfl ⟨fun b o q _ _ _ => hk b o q, fun b o q _ _ _ => ⟨o.slots, hk b o q⟩, fun b o q n _ => ?_, fun b o q _ => ⟨o, hk b o q⟩, fun b xs q => kp b _ q, fun b o u q => kp b _ q, fun b ps q => ⟨#[], by rw [kp b _ q]; simp⟩⟩ (fun b u q => ?_) I.bare fun b z => by simp at z
  · obtain ⟨z1, z2⟩ := low b o q
    rw [off b z1 z2]
    exact n
  · by_cases hb : b ∈ as
    · obtain ⟨j, pk, e1, e2, e3⟩ := paired_ix atP hb
      rw [e3] at q
      cases q
      obtain ⟨u, v, f1, f2, f3⟩ := hG.pairs j b e1
      obtain ⟨g1, g2⟩ := List.getElem?_zip_eq_some.mp e2
      obtain ⟨u', hu, ru⟩ := rx.get g1
      obtain ⟨v', hv, rv⟩ := ry.get g2
      obtain rfl : u = u' := by
        have : us[j]? = some u := by simpa using f1
        rw [this] at hu; exact Option.some.inj hu
      obtain rfl : v = v' := by
        have : ws[j]? = some v := by simpa using f2
        rw [this] at hv; exact Option.some.inj hv
      exact ⟨by show 2 ≤ sizeLine; decide, [u, v], .cons ru (.cons rv .nil), ⟨_, f3, rfl, _, rfl⟩⟩
    · by_cases hb2 : b = S
      · rw [hb2] at q ⊢
        rw [eS] at q
        cases q
        refine ⟨by rw [List.length_map]; omega, acc.toList, c, by rw [hacc]; exact LiI.vals_refs as, ?_⟩
        rw [Array.toArray_toList]
        exact hS
      · rw [off b hb hb2] at q
        exact (I.hok b u q).stay (fun d v _ y => hk d v y) (fun d y => kp d _ y) fun d xs y => kp d _ y
/-- list(zip(a, b)) -/
theorem pe_listZip {X : Cx} {e e2 : Expr} {ta : TA} {p p2 pos pos2 : Pos} (hc : X.calm = true) (hg : Gl X "list") (hm : X.mg "list" = none) (hg2 : Gl X "zip") (hm2 : X.mg "zip" = none) (ha : PA X [e, e2] ta)
    (hs2 : starEach [e, e2] X.env = (false, eval e X.env) :: starEach [e2] X.env := by rfl) (hpl : (backTo pos2 (starEach [e2] X.env)).any (·.1) = false := by rfl)
    (hs : starEach [.Call (.Name "zip" p2) [e, e2] [] pos2] X.env = (false, eval (.Call (.Name "zip" p2) [e, e2] [] pos2) X.env) :: starEach [] X.env := by rfl) :
    PE X (.Call (.Name "list" p) [.Call (.Name "zip" p2) [e, e2] [] pos2] [] pos) (tListZip X.K ta) := by
  refine ⟨fun pins s σ H Q I hq => ?_⟩
  refine wpAny_Call_Name_kw (ld_blt I hg hm PyProof.Rows.boot_list ?_)
  refine PyProof.Rows.callWith_type1 ?_ hs rfl
  rw [hs]
  show wpAny _ _ (spliced ((false, eval (.Call (.Name "zip" p2) [e, e2] [] pos2) X.env) :: backTo pos (starEach [] X.env))) _ _ s
  refine Calls.spliced_cons ?_
  refine Call_ (ld_blt I hg2 hm2 PyProof.Rows.boot_zip (PyProof.Rows.callWith_type1 (thn (ha.run pos2 pins s σ H _ I hq) ?_) hs2 hpl))
  rintro us s1 ⟨vs, H1, I1, r1, a, b, xs, ys, rfl, hqx, hqy, hxy, hz, q⟩
  obtain ⟨u1, u2, rfl, r1, r2⟩ := vals2 r1
  cases r1
  cases r2
  obtain ⟨its, rv, p1, _⟩ := I1.list hqx
  obtain ⟨its2, rv2, p2', _⟩ := I1.list hqy
  have la : a < s1.heap.objs.size := p1.lt
  have lb : b < s1.heap.objs.size := p2'.lt
  have l1 := rv.length
  have l2 := rv2.length
  refine call_zip_2 p1.isList p2'.isList fun h' hZ hTI hTO h1 h2 hsz hk => ?_
  refine Calls.spliced_nil ?_
  have off : ∀ c ∈ [s1.heap.objs.size + 4, s1.heap.objs.size + 2, s1.heap.objs.size + 3, s1.heap.objs.size, s1.heap.objs.size + 1, a, b], c < h'.objs.size := fun c hc => by
    rw [hsz]
    simp only [List.mem_cons, List.not_mem_nil, or_false] at hc
    rcases hc with z | z | z | z | z | z | z
    all_goals (rw [z]; generalize s1.heap.objs.size = N at *; first | exact Nat.lt_add_of_pos_right (by decide) | exact Nat.add_lt_add_left (by decide) _ | exact Nat.lt_of_lt_of_le (by assumption) (Nat.le_add_right _ _))
  refine z_call (s := { s1 with heap := h' }) (n := xs.length) (I1.ok.hd hc) (PySem.W.ktu_apart s1.heap.objs.size a b la lb) off (by simp only [List.size_toArray]; omega) (by simp only [List.size_toArray]; omega) (.inl (by simp; omega)) hz hZ
    ⟨hTI, h1, h2, p1.isList.at fun o q => hk _ o q, p2'.isList.at fun o q => hk _ o q, .inl ⟨hZ, _, _, hTO⟩⟩ fun h'' tk acc c as hk2 hS hl hG hacc => ?_
  have old : ∀ b o, s1.heap.get? b = some o → h''.get? b = some o := fun b o e => by
    have := Heap.lt_size e
    exact hk2 b o (Nat.ne_of_lt (Nat.lt_of_lt_of_le this (Nat.le_add_right _ _))) (Nat.ne_of_lt (Nat.lt_of_lt_of_le this (Nat.le_add_right _ _))) (Nat.ne_of_lt this) (Nat.ne_of_lt (Nat.lt_of_lt_of_le this (Nat.le_add_right _ _))) (hk b o e)
  obtain ⟨H', k1, k2, k3, k4, k5, k6, J⟩ := z_laid (tk := tk) I1 hz hxy rv rv2 (by rw [hsz]; omega) old hS hl hG hacc
  exact ⟨.ref _, H', J, rfl, q H' _ as k1 k2 k3 k4 k5 hl k6⟩
end
end Vu
namespace K14
open PySem PySem.Spec PyProof.Rows L2 Vx
def topS (i : Nat) : Stmt := PySem.Challenge.pw_paircounts_k14_rows_after_double_swaps.main.body.getD i (.Pass ⟨0, 0, 0, 0⟩)
abbrev st_is_integer : Stmt := topS 5
abbrev N_is_integer : List Str := ["value"]
theorem sc_is_integer : FnScope N_is_integer ["value"] (defScope st_is_integer) := ⟨rfl, rfl, rfl, by decide +kernel, rfl, by decide +kernel, by decide +kernel⟩
abbrev st_is_row : Stmt := topS 8
abbrev N_is_row : List Str := ["value"]
theorem sc_is_row : FnScope N_is_row ["value"] (defScope st_is_row) := ⟨rfl, rfl, rfl, by decide +kernel, rfl, by decide +kernel, by decide +kernel⟩
abbrev st_check_row : Stmt := topS 9
abbrev N_check_row : List Str := ["value"]
theorem sc_check_row : FnScope N_check_row ["value"] (defScope st_check_row) := ⟨rfl, rfl, rfl, by decide +kernel, rfl, by decide +kernel, by decide +kernel⟩
abbrev st_has_at : Stmt := topS 11
abbrev N_has_at : List Str := ["row", "letters", "place"]
theorem sc_has_at : FnScope N_has_at ["row", "letters", "place"] (defScope st_has_at) := ⟨rfl, rfl, rfl, by decide +kernel, rfl, by decide +kernel, by decide +kernel⟩
abbrev st_is_apart : Stmt := topS 12
abbrev N_is_apart : List Str := ["first", "second"]
theorem sc_is_apart : FnScope N_is_apart ["first", "second"] (defScope st_is_apart) := ⟨rfl, rfl, rfl, by decide +kernel, rfl, by decide +kernel, by decide +kernel⟩
abbrev st_is_swap : Stmt := topS 13
abbrev N_is_swap : List Str := ["row", "value", "first", "second"]
theorem sc_is_swap : FnScope N_is_swap ["row", "value"] (defScope st_is_swap) := ⟨rfl, rfl, rfl, by decide +kernel, rfl, by decide +kernel, by decide +kernel⟩
abbrev st_swapped : Stmt := topS 14
abbrev N_swapped : List Str := ["row", "swap", "letters", "place"]
theorem sc_swapped : FnScope N_swapped ["row", "swap"] (defScope st_swapped) := ⟨rfl, rfl, rfl, by decide +kernel, rfl, by decide +kernel, by decide +kernel⟩
abbrev st_law_bag : Stmt := topS 16
abbrev N_law_bag : List Str := ["script", "total", "cell"]
theorem sc_law_bag : FnScope N_law_bag ["script"] (defScope st_law_bag) := ⟨rfl, rfl, rfl, by decide +kernel, rfl, by decide +kernel, by decide +kernel⟩
abbrev st_law_stir : Stmt := topS 17
abbrev N_law_stir : List Str := ["number", "place", "one", "two"]
theorem sc_law_stir : FnScope N_law_stir ["number", "place"] (defScope st_law_stir) := ⟨rfl, rfl, rfl, by decide +kernel, rfl, by decide +kernel, by decide +kernel⟩
abbrev st_law_draw : Stmt := topS 18
abbrev N_law_draw : List Str := ["bag", "bound", "cell", "found"]
theorem sc_law_draw : FnScope N_law_draw ["bag", "bound"] (defScope st_law_draw) := ⟨rfl, rfl, rfl, by decide +kernel, rfl, by decide +kernel, by decide +kernel⟩
abbrev st_law_letters : Stmt := topS 19
abbrev N_law_letters : List Str := ["bag", "most", "count", "way", "share", "found", "step", "letter"]
theorem sc_law_letters : FnScope N_law_letters ["bag", "most"] (defScope st_law_letters) := ⟨rfl, rfl, rfl, by decide +kernel, rfl, by decide +kernel, by decide +kernel⟩
abbrev st_law_pairs : Stmt := topS 20
abbrev N_law_pairs : List Str := ["letters", "found", "many", "letter"]
theorem sc_law_pairs : FnScope N_law_pairs ["letters"] (defScope st_law_pairs) := ⟨rfl, rfl, rfl, by decide +kernel, rfl, by decide +kernel, by decide +kernel⟩
abbrev st_law_prefix : Stmt := topS 21
abbrev N_law_prefix : List Str := ["letters", "size"]
theorem sc_law_prefix : FnScope N_law_prefix ["letters"] (defScope st_law_prefix) := ⟨rfl, rfl, rfl, by decide +kernel, rfl, by decide +kernel, by decide +kernel⟩
abbrev st_law_counts : Stmt := topS 22
abbrev N_law_counts : List Str := ["letters"]
theorem sc_law_counts : FnScope N_law_counts ["letters"] (defScope st_law_counts) := ⟨rfl, rfl, rfl, by decide +kernel, rfl, by decide +kernel, by decide +kernel⟩
abbrev st_law_all : Stmt := topS 23
abbrev N_law_all : List Str := ["letters", "falls", "rises", "found", "one", "at", "two"]
theorem sc_law_all : FnScope N_law_all ["letters"] (defScope st_law_all) := ⟨rfl, rfl, rfl, by decide +kernel, rfl, by decide +kernel, by decide +kernel⟩
abbrev st_law_after : Stmt := topS 24
abbrev N_law_after : List Str := ["letters", "swap", "at", "pair"]
theorem sc_law_after : FnScope N_law_after ["letters", "swap"] (defScope st_law_after) := ⟨rfl, rfl, rfl, by decide +kernel, rfl, by decide +kernel, by decide +kernel⟩
abbrev st_law_right : Stmt := topS 25
abbrev N_law_right : List Str := ["letters", "swap", "found", "steps", "changed", "one", "two", "place", "step"]
theorem sc_law_right : FnScope N_law_right ["letters", "swap"] (defScope st_law_right) := ⟨rfl, rfl, rfl, by decide +kernel, rfl, by decide +kernel, by decide +kernel⟩
abbrev st_law : Stmt := topS 26
abbrev N_law : List Str := ["script", "bag", "turn", "letters", "swap", "step", "some"]
theorem sc_law : FnScope N_law ["script"] (defScope st_law) := ⟨rfl, rfl, rfl, by decide +kernel, rfl, by decide +kernel, by decide +kernel⟩
end K14
namespace K14
open PySem PySem.Spec PyProof.Rows L2 Vx
section
variable {P : Program} {w : World} {K : PySem.W.Frag} {mg : Str → Option Value} {base : Heap}
/-- the answer of is_row for a text; False for what is no text -/
def spIsRow (K : PySem.W.Frag) : Sp := fun vs H Q _ => ∃ x, vs = [x] ∧ ((∃ a : List Nat, x = .str (S a) ∧ a.length ≤ 100000 ∧ Q (.bl (rowB a)) H) ∨ (∃ t, TyX K H x t ∧ PySem.W.kitOne K t (.type "str") = some false ∧ Q (.bl false) H))
theorem ok_is_row {f : Addr} {fd : FuncData} {k : Nat} {t200 : Tok} (F : Fun K "is_row" "is_row" st_is_row f fd) (m_isinstance : mg "isinstance" = none) (m_str : mg "str" = none) (m_len : mg "len" = none)
    (g_MOST_LETTERS : mg "MOST_LETTERS" = some (.int 200 t200)) : FnOk P w K mg base CX0 (k + 1) f fd ["value"] (spIsRow K) := by
  refine F.ok sc_is_row (fun vs H Q E h => ?_) (fun cdv A outer s H vs Q E hr h => ?_)
  · obtain ⟨x, rfl, _⟩ := h; rfl
  obtain ⟨x, rfl, h⟩ := h
  refine ⟨_, (pss_cons (ps_if (PW.pt (pw_or (pt_not (pt_val (pe_callB call_isi (by rfl) m_isinstance (by decide +kernel) (pa_cons (pv 0) (pa_cons (pe_bltn (by rfl) m_str (by decide +kernel) (show RelV (.ty "str") (.type "str") from rfl)) pa_nil))))) (pw_or1 (pt_cmpR op_gt (pe_callB call_len_tx (by rfl) m_len PySem.boot_len (pa_cons (pv 0) pa_nil)) (pe_glob rfl g_MOST_LETTERS (show RelV (.int 200) _ from ⟨_, rfl⟩)) (nomark _))))) (pss_one (ps_ret pe_bl)) pss_nil)
    (pss_one (ps_ret (pe_cmpR op_eq (pe_op op_add (pe_m1 PySem.F.slot_str_count PySem.F.type_str_count mt_count_tx (pv 0) pe_str) (pe_m1 PySem.F.slot_str_count PySem.F.type_str_count mt_count_tx (pv 0) pe_str)) (pe_callB call_len_tx (by rfl) m_len PySem.boot_len (pa_cons (pv 0) pa_nil)) (nomark _))))), ?_⟩
  rcases h with ⟨a, rfl, hl, q⟩ | ⟨t, ty, ht, q⟩
  · refine ⟨_, rfl, _, _, _, _, _, rfl, .ty "str", .base (.str _), kit_ty (b := "str") (r := true) (by decide +kernel), true, rfl, ?_⟩
    refine ⟨_, rfl, a, rfl, by omega, _, _, rfl, rfl, _, rfl, ?_⟩
    by_cases hc : a.length ≤ 200
    · rw [show decide ((200 : Int) < (a.length : Int)) = false from decide_eq_false (by omega)]
      refine ⟨_, rfl, ⟨_, rfl⟩, a, 97, rfl, rfl, _, rfl, ⟨_, rfl⟩, a, 98, rfl, rfl, _, _, rfl, rfl, _, rfl, a, rfl, by omega, rfl, ?_⟩
      have e2 : decide (V.int ((a.count 97 : Int) + (a.count 98 : Int)) = V.int (a.length : Int)) = rowB a := by
        have e : (V.int ((a.count 97 : Int) + (a.count 98 : Int)) = V.int (a.length : Int)) ↔ ((a.count 97 : Int) + (a.count 98 : Int) = (a.length : Int)) := ⟨fun z => V.int.inj z, fun z => congrArg V.int z⟩
        rw [decide_eq_decide.mpr e, ab_sum]
        unfold rowB
        rw [decide_eq_true hc, Bool.true_and]
      rw [← e2] at q
      exact q
    · rw [show decide ((200 : Int) < (a.length : Int)) = true from decide_eq_true (by omega)]
      have e : rowB a = false := by unfold rowB; rw [decide_eq_false hc, Bool.false_and]
      rw [e] at q
      exact q
  · refine ⟨_, rfl, _, _, _, _, _, rfl, .ty "str", ty, ht, false, rfl, ?_⟩
    exact q

end
end K14
namespace K14
open PySem PySem.Spec PyProof.Rows L2 Vx
section
variable {P : Program} {w : World} {K : PySem.W.Frag} {mg : Str → Option Value} {base : Heap}
def spLaw (K : PySem.W.Frag) : Sp := fun vs H Q _ => ∃ (a : Addr) (ns : List Int), vs = [.ref a] ∧ SqL K H a (ns.map V.int) ∧ ns.length ≤ 63 ∧ ∀ H', Q (.bl true) H'

end
end K14
namespace K14
open PySem PySem.Spec PyProof.Rows L2 Vx
section
variable {P : Program} {w : World} {K : PySem.W.Frag} {mg : Str → Option Value} {base : Heap}
theorem one_inj {c d : Nat} (h : V.str (S [c]) = V.str (S [d])) : c = d := by
  have e : ([c] : List Nat) = [d] := congrArg (fun x : Str => x.cps.toList) (V.str.inj h)
  exact (List.cons.inj e).1
/-- what check_row is asked: a row -/
def spCheck : Sp := fun vs H Q _ => ∃ a : List Nat, vs = [.str (S a)] ∧ rowB a = true ∧ Q .non H
theorem row_len {a : List Nat} (h : rowB a = true) : a.length ≤ 200 := by
  unfold rowB at h
  have := (Bool.and_eq_true _ _ ▸ h).1
  exact of_decide_eq_true this
theorem row_abs {a : List Nat} (h : rowB a = true) : abs a = true := by
  unfold rowB at h
  exact (Bool.and_eq_true _ _ ▸ h).2
theorem ok_check_row {f fI : Addr} {fd fdI : FuncData} {k : Nat} (F : Fun K "check_row" "check_row" st_check_row f fd) (F_is_row : Fun K "is_row" "is_row" st_is_row fI fdI) (G_is_row : FnOk P w K mg base CX0 1 fI fdI ["value"] (spIsRow K)) (b_is_row : Binds K fdI ["value"] []) (g_is_row : mg "is_row" = some (.ref fI)) : FnOk P w K mg base CX0 (k + 2) f fd ["value"] spCheck := by
  refine F.ok sc_check_row (fun vs H Q E h => ?_) (fun cdv A outer s H vs Q E hr h => ?_)
  · obtain ⟨a, rfl, _⟩ := h; rfl
  obtain ⟨a, rfl, hw, q⟩ := h
  refine ⟨_, (pss_one (ps_if (pt_not (pt_val (pe_call G_is_row (hr.mono (by omega)) (by rfl) g_is_row F_is_row.kp b_is_row .nil pass0 (pa_cons (pv 0) pa_nil)))) (pss_one ps_never) pss_nil)), ?_⟩
  have := row_len hw
  refine ⟨.str (S a), rfl, .str (S a), rfl, .inl ⟨a, rfl, by omega, _, rfl, ?_⟩⟩
  rw [hw]
  exact q

end
end K14
namespace K14
open PySem PySem.Spec PyProof.Rows L2 Vx
section
variable {P : Program} {w : World} {K : PySem.W.Frag} {mg : Str → Option Value} {base : Heap}
theorem ok_is_integer {f : Addr} {fd : FuncData} {k : Nat} (F : Fun K "is_integer" "is_integer" st_is_integer f fd) (m_isinstance : mg "isinstance" = none) (m_int : mg "int" = none) (m_bool : mg "bool" = none) : FnOk P w K mg base CX0 (k + 1) f fd ["value"] (spIsInt K) := by
  refine F.ok sc_is_integer (fun vs H Q E h => ?_) (fun cdv A outer s H vs Q E hr h => ?_)
  · obtain ⟨x, rfl, _⟩ := h; rfl
  obtain ⟨x, rfl, h⟩ := h
  refine ⟨_, (pss_one (ps_ret (pe_and (pe_callB call_isi (by rfl) m_isinstance (by decide +kernel) (pa_cons (pv 0) (pa_cons (pe_bltn (by rfl) m_int (by decide +kernel) (show RelV (.ty "int") (.type "int") from rfl)) pa_nil))) (pe_one (pe_not (pe_callB call_isi (by rfl) m_isinstance (by decide +kernel) (pa_cons (pv 0) (pa_cons (pe_bltn (by rfl) m_bool (by decide +kernel) (show RelV (.ty "bool") (.type "bool") from rfl)) pa_nil)))))))), ?_⟩
  rcases h with ⟨i, rfl, q⟩ | ⟨b, rfl, q⟩ | ⟨t, ty, ht, q⟩
  · exact ⟨_, rfl, _, _, _, _, _, rfl, .ty "int", .base (.int _), kit_ty (b := "int") (r := true) (by decide +kernel), true, rfl, _, rfl, _, _, _, _, _, rfl, .ty "bool", .base (.int _), kit_ty (b := "bool") (r := false) (by decide +kernel), false, rfl, q⟩
  · exact ⟨_, rfl, _, _, _, _, _, rfl, .ty "int", .base (.bl _), kit_ty (b := "int") (r := true) (by decide +kernel), true, rfl, _, rfl, _, _, _, _, _, rfl, .ty "bool", .base (.bl _), kit_ty (b := "bool") (r := true) (by decide +kernel), true, rfl, q⟩
  · exact ⟨_, rfl, _, _, _, _, _, rfl, .ty "int", ty, ht, false, rfl, q⟩

end
end K14
namespace K14
open PySem PySem.Spec PyProof.Rows L2 Vx
section
variable {P : Program} {w : World} {K : PySem.W.Frag} {mg : Str → Option Value} {base : Heap}
/-- the drawing bag: its list of cells at g -/
structure BagAt (H : Hp) (r g : Addr) (gs : List Int) (n : Nat) : Prop where
  ex : ∃ (i : Nat) (rest cnt tot : Int), H r = some (.lst [.ref g, .int (i : Int), .int rest, .int cnt, .int tot]) ∧ i ≤ gs.length ∧ 0 ≤ rest ∧ 0 ≤ cnt ∧ cnt ≤ (n : Int) ∧ 0 ≤ tot ∧ tot < 2305843009213693951
  ne : g ≠ r
  at_g : H g = some (.lst (gs.map V.int))
  sh : gs.length ≤ 63
theorem BagAt.mono {H H' : Hp} {r g : Addr} {gs : List Int} {n : Nat} (B : BagAt H r g gs n) (s : Same H H') : BagAt H' r g gs n := by
  obtain ⟨i, rest, cnt, tot, e, q⟩ := B.ex
  exact ⟨⟨i, rest, cnt, tot, s _ _ e, q⟩, B.ne, s _ _ B.at_g, B.sh⟩
theorem BagAt.more {H : Hp} {r g : Addr} {gs : List Int} {n m : Nat} (B : BagAt H r g gs n) (h : n ≤ m) : BagAt H r g gs m := by
  obtain ⟨i, rest, cnt, tot, e, h1, h2, h3, h4, h5, h6⟩ := B.ex
  exact ⟨⟨i, rest, cnt, tot, e, h1, h2, h3, by omega, h5, h6⟩, B.ne, B.at_g, B.sh⟩
theorem BagAt.upd {H : Hp} {r g D : Addr} {o : HO} {gs : List Int} {n : Nat} (B : BagAt H r g gs n) (h1 : D ≠ r) (h2 : D ≠ g) : BagAt (L2.upd H D o) r g gs n := by
  obtain ⟨i, rest, cnt, tot, e, q⟩ := B.ex
  exact ⟨⟨i, rest, cnt, tot, by rw [upd_ne h1.symm]; exact e, q⟩, B.ne, by rw [upd_ne h2.symm]; exact B.at_g, B.sh⟩
theorem BagAt.new {H : Hp} {r g D : Addr} {gs : List Int} {n : Nat} (B : BagAt H r g gs n) (h : H D = none) : D ≠ r ∧ D ≠ g := by
  obtain ⟨i, rest, cnt, tot, e, q⟩ := B.ex
  exact ⟨(ne_of_none e h).symm, (ne_of_none B.at_g h).symm⟩
abbrev MB : Int := 2305843009213693951
def spBag (K : PySem.W.Frag) : Sp := fun vs H Q _ => ∃ (a : Addr) (ns : List Int), vs = [.ref a] ∧ SqL K H a (ns.map V.int) ∧ ns.length ≤ 63 ∧ ∀ (r g : Addr) (H' : Hp), Same H H' → H r = none → BagAt H' r g ns 0 → Q (.ref r) H'
theorem ok_law_bag {f : Addr} {fd : FuncData} {k : Nat} (F : Fun K "_law_bag" "_law_bag" st_law_bag f fd) (m_list : mg "list" = none) : FnOk P w K mg base CX0 (k + 1) f fd ["script"] (spBag K) := by
  refine F.ok sc_law_bag (fun vs H Q E h => ?_) (fun cdv A outer s H vs Q E hr h => ?_)
  · obtain ⟨a, ns, rfl, _⟩ := h; rfl
  obtain ⟨a, ns, rfl, hS, hl, q⟩ := h
  refine ⟨_, (pss_cons (ps_set (i := 1) sc_law_bag.nd rfl (Or.inl rfl) pe_int)
    (pss_cons (ps_for PassesOwn.never rfl (pi_list (pv 0)) (pg_name (i := 2) sc_law_bag.nd rfl (Or.inl rfl)) (pss_one (ps_set (i := 1) sc_law_bag.nd rfl (Or.inl rfl) (pe_op op_mod (pe_op op_add (pe_op op_add (pe_op op_mulW (pv 1) pe_int) (pe_op op_mod (pv 2) pe_int)) pe_int) pe_int))))
    (pss_one (ps_ret (peq_lst (pa_cons (pe_callTy call_list_of (by rfl) m_list (by decide +kernel) (pa_cons (pv 0) pa_nil)) (pa_cons pe_int (pa_cons pe_int (pa_cons pe_int (pa_cons (pv 1) pa_nil)))))))))), ?_⟩
  refine ⟨.ref a, rfl, a, rfl, ⟨_, hS⟩, for_list (xs := ns.map V.int) (fun i σ H' => H' = H ∧ ∃ tot y, σ = [some (.ref a), some (.int tot), y] ∧ 0 ≤ tot ∧ tot < MB)
    ⟨rfl, 1, none, rfl, by decide, by decide⟩ (fun i σ H' _ h => by rw [h.1]; exact hS) (fun i x σ H' hx h => ?_) (fun σ H' h => ?_)⟩
  · obtain ⟨rfl, tot, y, rfl, l0, l1⟩ := h
    obtain ⟨c, rfl⟩ : ∃ c, x = .int c := by
      rw [List.getElem?_map] at hx
      cases hc : ns[i]? with
      | none => rw [hc] at hx; cases hx
      | some c => rw [hc] at hx; cases hx; exact ⟨c, rfl⟩
    have b61 : tot.natAbs < 2 ^ 61 := by have : MB < 2 ^ 61 := by decide
                                         omega
    refine ⟨.int tot, rfl, tot, 1000003, rfl, rfl, wide_mul (b := 20) b61 (by decide) (by decide) (by decide) (by decide), .int c, rfl, c, 2305843009213693951, rfl, rfl, (by show (0 : Int) < 2305843009213693951; decide), _, _, rfl, rfl, _, _, rfl, rfl, _, _, rfl, rfl, (by show (0 : Int) < 2305843009213693951; decide), ?_⟩
    exact ⟨rfl, _, _, rfl, Int.emod_nonneg _ (by decide), Int.emod_lt_of_pos _ (by decide)⟩
  · obtain ⟨rfl, tot, y, rfl, l0, l1⟩ := h
    refine ⟨.ref a, rfl, a, _, rfl, .inl hS, fun g ng => ?_⟩
    have s1 : Same H' (upd H' g (.lst (ns.map V.int))) := same_new ng
    have e1 : (upd H' g (.lst (ns.map V.int))) g = some (.lst (ns.map V.int)) := upd_same
    generalize upd H' g (.lst (ns.map V.int)) = H1 at s1 e1 ⊢
    refine ⟨.int tot, rfl, (by show 5 ≤ sizeLine; decide), fun r H2 nr _ hH2 => ?_⟩
    have s2 : Same H1 H2 := by rw [hH2]; exact same_new nr
    have e2 : H2 r = some (.lst [.ref g, .int 0, .int 0, .int 0, .int tot]) := by rw [hH2]; exact upd_same
    have nr0 : H' r = none := by
      cases h : H' r with
      | none => rfl
      | some o => rw [s1 _ _ h] at nr; cases nr
    exact q r g H2 (s1.trans s2) nr0 ⟨⟨0, 0, 0, tot, e2, Nat.zero_le _, by decide, by decide, by decide, l0, l1⟩, ne_of_none e1 nr, s2 _ _ e1, hl⟩
def spStir : Sp := fun vs H Q _ => ∃ n p : Int, vs = [.int n, .int p] ∧ 0 ≤ n ∧ n < MB ∧ 0 ≤ p ∧ p < 2 ^ 62 ∧ ∀ d : Int, 0 ≤ d → Q (.int d) H
theorem ok_law_stir {f : Addr} {fd : FuncData} {k : Nat} (F : Fun K "_law_stir" "_law_stir" st_law_stir f fd) : FnOk P w K mg base CX0 (k + 1) f fd ["number", "place"] spStir := by
  refine F.ok sc_law_stir (fun vs H Q E h => ?_) (fun cdv A outer s H vs Q E hr h => ?_)
  · obtain ⟨n, p, rfl, _⟩ := h; rfl
  obtain ⟨n, p, rfl, n0, n1, p0, p1, q⟩ := h
  refine ⟨_, (pss_cons (ps_set (i := 2) sc_law_stir.nd rfl (Or.inl rfl) (pe_op op_mod (pe_op op_add (pe_op op_add (pe_op op_mulW (pv 0) pe_int) (pe_op op_mulW (pv 1) pe_int)) pe_int) pe_int))
    (pss_cons (ps_set (i := 3) sc_law_stir.nd rfl (Or.inl rfl) (pe_op op_mod (pe_op op_mulW (pv 2) (pv 2)) pe_int))
    (pss_one (ps_ret (pe_op op_fdivW (pe_op op_mod (pe_op op_add (pe_op op_add (pe_op op_mulW (pv 3) pe_int) (pe_op op_mulW (pe_op op_mulW (pv 1) (pv 1)) pe_int)) (pe_op op_fdivW (pv 2) pe_int)) pe_int) pe_int))))), ?_⟩
  have bn : n.natAbs < 2 ^ 61 := by have : MB < 2 ^ 61 := by decide
                                    omega
  have bp : p.natAbs < 2 ^ 62 := by omega
  refine ⟨.int n, rfl, n, 998244353, rfl, rfl, wide_mul (b := 30) bn (by decide) (by decide) (by decide) (by decide), .int p, rfl, p, 1000000007, rfl, rfl, wide_mul (b := 30) bp (by decide) (by decide) (by decide) (by decide), _, _, rfl, rfl, _, _, rfl, rfl, _, _, rfl, rfl, (by show (0 : Int) < 2305843009213693951; decide), ?_⟩
  obtain ⟨one, hone⟩ : ∃ one, one = (n * 998244353 + p * 1000000007 + 5) % 2305843009213693951 := ⟨_, rfl⟩
  have o0 : 0 ≤ one := by rw [hone]; exact Int.emod_nonneg _ (by decide)
  have o1 : one < MB := by rw [hone]; exact Int.emod_lt_of_pos _ (by decide)
  have bo : one.natAbs < 2 ^ 61 := by have : MB < 2 ^ 61 := by decide
                                      omega
  refine ⟨.int one, by rw [hone]; rfl, .int one, by rw [hone]; rfl, one, one, rfl, rfl, wide_mul bo bo (by decide) (by decide) (by decide), _, _, rfl, rfl, (by show (0 : Int) < 2305843009213693951; decide), ?_⟩
  obtain ⟨two, htwo⟩ : ∃ two, two = (one * one) % 2305843009213693951 := ⟨_, rfl⟩
  have t0 : 0 ≤ two := by rw [htwo]; exact Int.emod_nonneg _ (by decide)
  have t1 : two < MB := by rw [htwo]; exact Int.emod_lt_of_pos _ (by decide)
  have bt : two.natAbs < 2 ^ 61 := by have : MB < 2 ^ 61 := by decide
                                      omega
  have bpp : (p * p).natAbs < 2 ^ (62 + 62) := wide_lt bp bp
  refine ⟨.int two, by rw [htwo]; rfl, two, 2860486313, rfl, rfl, wide_mul (b := 32) bt (by decide) (by decide) (by decide) (by decide), .int p, rfl, .int p, rfl, p, p, rfl, rfl, wide_mul bp bp (by decide) (by decide) (by decide), _, 48271, rfl, rfl, wide_mul (b := 16) bpp (by decide) (by decide) (by decide) (by decide), _, _, rfl, rfl, .int one, by rw [hone]; rfl, one, 3, rfl, rfl, wide_div (b := 2) (by decide) (by decide) (by decide) (by decide), _, _, rfl, rfl, _, _, rfl, rfl, (by show (0 : Int) < 2305843009213693921; decide), _, 1024, rfl, rfl, wide_div (b := 11) (by decide) (by decide) (by decide) (by decide), ?_⟩
  exact q _ (Int.ediv_nonneg (Int.emod_nonneg _ (by decide)) (by decide))
def spDrawB : Sp := fun vs H Q _ => ∃ (r g : Addr) (gs : List Int) (n : Nat) (m : Int), vs = [.ref r, .int m] ∧ BagAt H r g gs n ∧ n ≤ 1000000000 ∧ 1 ≤ m ∧ m.natAbs < 2 ^ 8000 ∧ ∀ (d : Int) (H' : Hp), 0 ≤ d → d < m → Keep r H H' → BagAt H' r g gs (n + 1) → Q (.int d) H'
theorem ok_law_draw {f f1 : Addr} {fd fd1 : FuncData} {k : Nat} (F : Fun K "_law_draw" "_law_draw" st_law_draw f fd) (F_law_stir : Fun K "_law_stir" "_law_stir" st_law_stir f1 fd1) (G_law_stir : FnOk P w K mg base CX0 1 f1 fd1 ["number", "place"] spStir) (b_law_stir : Binds K fd1 ["number", "place"] []) (g_law_stir : mg "_law_stir" = some (.ref f1)) (m_len : mg "len" = none) : FnOk P w K mg base CX0 (k + 2) f fd ["bag", "bound"] spDrawB := by
  refine F.ok sc_law_draw (fun vs H Q E h => ?_) (fun cdv A outer s H vs Q E hr h => ?_)
  · obtain ⟨r, g, gs, n, m, rfl, _⟩ := h; rfl
  obtain ⟨r, g, gs, n, m, rfl, B, hn, hm, hmb, q⟩ := h
  refine ⟨_, (pss_cons (ps_if (pt_cmpR op_eq (pv 1) pe_int (nomark _)) (pss_one (ps_ret pe_int)) pss_nil)
    (pss_cons (ps_asg (pe_op op_add (pe_ix ix_list (pv 0) pe_int (fun _ _ => rfl)) pe_int) (pg_sub (pv 0) pe_int setq_list))
    (pss_cons (ps_if (PW.pt (pw_and (pt_cmpR op_lt (pe_ix ix_list (pv 0) pe_int (fun _ _ => rfl)) pe_int (nomark _)) (pw_and1 (pt_cmpR op_eq (pe_ix ix_list (pv 0) pe_int (fun _ _ => rfl)) (pe_callB call_len_seq (by rfl) m_len PySem.boot_len (pa_cons (pe_ix ix_list (pv 0) pe_int (fun _ _ => rfl)) pa_nil)) (nomark _))))) (pss_one (ps_ret (pe_op op_mod (pe_call G_law_stir (hr.mono (by omega)) (by rfl) g_law_stir F_law_stir.kp b_law_stir .nil pass0 (pa_cons (pe_ix ix_list (pv 0) pe_int (fun _ _ => rfl)) (pa_cons (pe_ix ix_list (pv 0) pe_int (fun _ _ => rfl)) pa_nil))) (pv 1)))) pss_nil)
    (pss_cons (ps_if (pt_cmpR op_lt (pe_ix ix_list (pv 0) pe_int (fun _ _ => rfl)) pe_int (nomark _)) (pss_cons (ps_set (i := 2) sc_law_draw.nd rfl (Or.inl rfl) (pe_ix ix_list (pe_ix ix_list (pv 0) pe_int (fun _ _ => rfl)) (pe_ix ix_list (pv 0) pe_int (fun _ _ => rfl)) (fun _ _ => rfl)))
    (pss_cons (ps_asg (pe_op op_add (pe_ix ix_list (pv 0) pe_int (fun _ _ => rfl)) pe_int) (pg_sub (pv 0) pe_int setq_list))
    (pss_cons (ps_if (pt_cmpR op_lt (pv 2) (pe_op op_pow pe_int pe_int) (nomark _)) (pss_one (ps_ret (pe_op op_mod (pe_call G_law_stir (hr.mono (by omega)) (by rfl) g_law_stir F_law_stir.kp b_law_stir .nil pass0 (pa_cons (pe_op op_mod (pv 2) pe_int) (pa_cons (pe_ix ix_list (pv 0) pe_int (fun _ _ => rfl)) pa_nil))) (pv 1)))) pss_nil)
    (pss_one (ps_asg (pe_op op_sub (pv 2) (pe_op op_pow pe_int pe_int)) (pg_sub (pv 0) pe_int setq_list)))))) pss_nil)
    (pss_cons (ps_set (i := 3) sc_law_draw.nd rfl (Or.inl rfl) (pe_op op_mod (pe_ix ix_list (pv 0) pe_int (fun _ _ => rfl)) (pv 1)))
    (pss_cons (ps_asg (pe_op op_fdivW (pe_ix ix_list (pv 0) pe_int (fun _ _ => rfl)) (pv 1)) (pg_sub (pv 0) pe_int setq_list))
    (pss_one (ps_ret (pv 3))))))))), ?_⟩
  have m0 : (0 : Int) < m := by omega
  refine ⟨.int m, rfl, rfl, _, rfl, ite2 (fun e => ?_) (fun e => ?_)⟩
  · have hm1 : m = 1 := by have := of_decide_eq_true e; injection this
    exact q 0 H (Int.le_refl _) m0 (Keep.refl H) (B.more (Nat.le_succ n))
  · obtain ⟨i, rest, cnt, tot, er, hi, r0, c0, cn, t0, t1⟩ := B.ex
    refine ⟨.ref r, rfl, r, _, 3, .int cnt, rfl, rfl, SqL.of er, rfl, cnt, 1, rfl, rfl, .ref r, rfl, r, _, 3, 3, rfl, rfl, er, rfl, fun H1 hH1 => ?_⟩
    have k1 : Keep r H H1 := by rw [hH1]; exact Keep.put (Keep.refl H)
    have e1 : H1 r = some (.lst [.ref g, .int (i : Int), .int rest, .int (cnt + 1), .int tot]) := by rw [hH1]; exact upd_same
    have g1 : H1 g = some (.lst (gs.map V.int)) := k1 _ _ B.ne B.at_g
    clear hH1
    have fin : ∀ (i' : Nat) (rest' : Int) (H' : Hp), Keep r H H' → H' r = some (.lst [.ref g, .int (i' : Int), .int rest', .int (cnt + 1), .int tot]) → i' ≤ gs.length → 0 ≤ rest' → ∀ d : Int, 0 ≤ d → d < m → Q (.int d) H' := fun i' rest' H' kk e' hi' hr' d d0 d1 =>
      q d H' d0 d1 kk ⟨⟨i', rest', cnt + 1, tot, e', hi', hr', by omega, by omega, t0, t1⟩, B.ne, kk _ _ B.ne B.at_g, B.sh⟩
    have stirred : ∀ (x : Int), 0 ≤ x → 0 ≤ x % m ∧ x % m < m := fun x _ => ⟨Int.emod_nonneg _ (by omega), Int.emod_lt_of_pos _ m0⟩
    have cb : cnt + 1 < 2 ^ 62 := by omega
    refine ⟨.ref r, rfl, r, _, 2, .int rest, rfl, rfl, SqL.of e1, rfl, _, _, rfl, rfl, _, rfl, ite2 (fun l2 => ?_) (fun l2 => ?_)⟩
    · have hl2 : rest < 2 := of_decide_eq_true l2
      refine ⟨.ref r, rfl, r, _, 1, .int (i : Int), rfl, rfl, SqL.of e1, rfl, .ref r, rfl, r, _, 0, .ref g, rfl, rfl, SqL.of e1, rfl, g, _, rfl, .inl (SqL.of g1), rfl, _, rfl, ite2 (fun le => ?_) (fun le => ?_)⟩
      · refine ⟨.ref r, rfl, r, _, 4, .int tot, rfl, rfl, SqL.of e1, rfl, .ref r, rfl, r, _, 3, .int (cnt + 1), rfl, rfl, SqL.of e1, rfl, tot, cnt + 1, rfl, t0, t1, by omega, cb, fun d d0 => ?_⟩
        exact ⟨.int m, rfl, d, m, rfl, rfl, m0, fin i rest H1 k1 e1 hi r0 _ (stirred d d0).1 (stirred d d0).2⟩
      · have hne : i < gs.length := by
          have : ¬ (i : Int) = (((gs.map V.int).length : Nat) : Int) := fun z => le (by rw [z]; exact decide_eq_true rfl)
          rw [List.length_map] at this
          omega
        have gi : (gs.map V.int)[i]? = some (.int gs[i]) := by rw [List.getElem?_map, List.getElem?_eq_getElem hne]; rfl
        generalize gs[i] = cell at gi
        refine ⟨.ref r, rfl, r, _, 2, .int rest, rfl, rfl, SqL.of e1, rfl, _, _, rfl, rfl, _, rfl, ite2 (fun _ => ?_) (fun z => absurd l2 z)⟩
        refine ⟨.ref r, rfl, r, _, 0, .ref g, rfl, rfl, SqL.of e1, rfl, .ref r, rfl, r, _, 1, .int (i : Int), rfl, rfl, SqL.of e1, rfl, g, _, _, .int cell, rfl, rfl, SqL.of g1, atI_nat gi, ?_⟩
        refine ⟨.ref r, rfl, r, _, 1, .int (i : Int), rfl, rfl, SqL.of e1, rfl, (i : Int), 1, rfl, rfl, .ref r, rfl, r, _, 1, 1, rfl, rfl, e1, rfl, fun H2 hH2 => ?_⟩
        have k2 : Keep r H H2 := by rw [hH2]; exact Keep.put k1
        have e2 : H2 r = some (.lst [.ref g, .int ((i + 1 : Nat) : Int), .int rest, .int (cnt + 1), .int tot]) := by rw [hH2]; exact upd_same
        clear hH2
        refine ⟨.int cell, rfl, 10, 18, rfl, rfl, ⟨by decide, by decide, by decide⟩, _, _, rfl, rfl, _, rfl, ite2 (fun lc => ?_) (fun lc => ?_)⟩
        · refine ⟨.int cell, rfl, cell, 2305843009213693951, rfl, rfl, (by show (0 : Int) < 2305843009213693951; decide), .ref r, rfl, r, _, 3, .int (cnt + 1), rfl, rfl, SqL.of e2, rfl, _, cnt + 1, rfl, Int.emod_nonneg _ (by decide), Int.emod_lt_of_pos _ (by decide), by omega, cb, fun d d0 => ?_⟩
          exact ⟨.int m, rfl, d, m, rfl, rfl, m0, fin (i + 1) rest H2 k2 e2 hne r0 _ (stirred d d0).1 (stirred d d0).2⟩
        · have hc : 0 ≤ cell - 10 ^ (18 : Int).toNat := by
            have : ¬ cell < 10 ^ (18 : Int).toNat := fun z => lc (decide_eq_true z)
            omega
          refine ⟨.int cell, rfl, 10, 18, rfl, rfl, ⟨by decide, by decide, by decide⟩, _, _, rfl, rfl, .ref r, rfl, r, _, 2, 2, rfl, rfl, e2, rfl, fun H3 hH3 => ?_⟩
          have k3 : Keep r H H3 := by rw [hH3]; exact Keep.put k2
          have e3 : H3 r = some (.lst [.ref g, .int ((i + 1 : Nat) : Int), .int (cell - 10 ^ (18 : Int).toNat), .int (cnt + 1), .int tot]) := by rw [hH3]; exact upd_same
          clear hH3
          refine ⟨.ref r, rfl, r, _, 2, .int (cell - 10 ^ (18 : Int).toNat), rfl, rfl, SqL.of e3, rfl, .int m, rfl, cell - 10 ^ (18 : Int).toNat, m, rfl, rfl, m0, ?_⟩
          refine ⟨.ref r, rfl, r, _, 2, .int (cell - 10 ^ (18 : Int).toNat), rfl, rfl, SqL.of e3, rfl, .int m, rfl, cell - 10 ^ (18 : Int).toNat, m, rfl, rfl, wide_div m0 hmb (by decide) (by decide), .ref r, rfl, r, _, 2, 2, rfl, rfl, e3, rfl, fun H9 hH9 => ?_⟩
          have e9 : H9 r = some (.lst [.ref g, .int ((i + 1 : Nat) : Int), .int ((cell - 10 ^ (18 : Int).toNat) / m), .int (cnt + 1), .int tot]) := by rw [hH9]; exact upd_same
          exact ⟨.int ((cell - 10 ^ (18 : Int).toNat) % m), rfl, fin (i + 1) _ H9 (by rw [hH9]; exact Keep.put k3) e9 hne (Int.ediv_nonneg hc (Int.le_of_lt m0)) _ (Int.emod_nonneg _ (by omega)) (Int.emod_lt_of_pos _ m0)⟩
    · have hl2 : ¬ rest < 2 := fun z => l2 (decide_eq_true z)
      refine ⟨.ref r, rfl, r, _, 2, .int rest, rfl, rfl, SqL.of e1, rfl, _, _, rfl, rfl, _, rfl, ite2 (fun z => absurd z l2) (fun _ => ?_)⟩
      refine ⟨.ref r, rfl, r, _, 2, .int (rest), rfl, rfl, SqL.of e1, rfl, .int m, rfl, rest, m, rfl, rfl, m0, ?_⟩
      refine ⟨.ref r, rfl, r, _, 2, .int (rest), rfl, rfl, SqL.of e1, rfl, .int m, rfl, rest, m, rfl, rfl, wide_div m0 hmb (by decide) (by decide), .ref r, rfl, r, _, 2, 2, rfl, rfl, e1, rfl, fun H9 hH9 => ?_⟩
      have e9 : H9 r = some (.lst [.ref g, .int ((i : Nat) : Int), .int ((rest) / m), .int (cnt + 1), .int tot]) := by rw [hH9]; exact upd_same
      exact ⟨.int ((rest) % m), rfl, fin (i) _ H9 (by rw [hH9]; exact Keep.put k1) e9 hi (Int.ediv_nonneg r0 (Int.le_of_lt m0)) _ (Int.emod_nonneg _ (by omega)) (Int.emod_lt_of_pos _ m0)⟩

end
end K14
namespace K14
open PySem PySem.Spec PyProof.Rows L2 Vx
section
variable {P : Program} {w : World} {K : PySem.W.Frag} {mg : Str → Option Value} {base : Heap}
theorem cut1 {A : Type} {P G : A → Hp → Prop} {T : Prop} (f : (∀ a H, P a H → G a H) → T) (r : ∀ a H, P a H → G a H) : T := f r
theorem Keep.fresh {r D : Addr} {H H' : Hp} (k : Keep r H H') (n : D ≠ r) (h : H' D = none) : H D = none := k.none n h
theorem abs_perm {a b : List Nat} (h : b.Perm a) (ha : abs a = true) : abs b = true := by
  unfold abs at *
  exact List.all_eq_true.mpr fun x hx => List.all_eq_true.mp ha x (h.mem_iff.mp hx)
theorem ab_of {c : Nat} (h : abs [c] = true) : c = 97 ∨ c = 98 := by
  unfold abs at h
  simpa using h
theorem join_sum1 {ps : List (List Nat)} (h : ∀ p ∈ ps, p.length = 1) : ((ps.map S).map (·.length)).sum = ps.length := by
  rw [SX.lens]
  induction ps with
  | nil => rfl
  | cons p t ih => rw [List.map_cons, List.sum_cons, ih fun q hq => h q (List.mem_cons_of_mem _ hq), h p List.mem_cons_self, List.length_cons]; omega
theorem join_sum9 {ps : List (List Nat)} (h : ∀ p ∈ ps, p.length ≤ 9) : ((ps.map S).map (·.length)).sum ≤ 9 * ps.length := by
  rw [SX.lens]
  induction ps with
  | nil => exact Nat.le_refl _
  | cons p t ih =>
    have h1 := ih fun q hq => h q (List.mem_cons_of_mem _ hq)
    have h2 := h p List.mem_cons_self
    rw [List.map_cons, List.sum_cons, List.length_cons]; omega
theorem len_flatten9 {ps : List (List Nat)} (h : ∀ p ∈ ps, p.length ≤ 9) : ps.flatten.length ≤ 9 * ps.length := by
  induction ps with
  | nil => exact Nat.le_refl _
  | cons p t ih =>
    have h1 := ih fun q hq => h q (List.mem_cons_of_mem _ hq)
    have h2 := h p List.mem_cons_self
    rw [List.flatten_cons, List.length_append, List.length_cons]; omega
theorem flat1 : ∀ a : List Nat, (a.map fun c => [c]).flatten = a
  | [] => rfl
  | c :: r => by rw [List.map_cons, List.flatten_cons, flat1 r]; rfl
def spLetters : Sp := fun vs H Q _ => ∃ (r g : Addr) (gs : List Int) (n : Nat) (most : Int), vs = [.ref r, .int most] ∧ BagAt H r g gs n ∧ n ≤ 100000000 ∧ 0 ≤ most ∧ most ≤ 400 ∧ ∀ (a : List Nat) (H' : Hp), (a.length : Int) ≤ most → abs a = true → Keep r H H' → BagAt H' r g gs (n + 5000) → Q (.str (S a)) H'
theorem ok_law_letters {f f1 : Addr} {fd fd1 : FuncData} {k : Nat} (F : Fun K "_law_letters" "_law_letters" st_law_letters f fd) (F_law_draw : Fun K "_law_draw" "_law_draw" st_law_draw f1 fd1) (G_law_draw : FnOk P w K mg base CX0 2 f1 fd1 ["bag", "bound"] spDrawB) (b_law_draw : Binds K fd1 ["bag", "bound"] []) (g_law_draw : mg "_law_draw" = some (.ref f1))
    (m_int : mg "int" = none) (m_range : mg "range" = none) (m_sorted : mg "sorted" = none) : FnOk P w K mg base CX0 (k + 3) f fd ["bag", "most"] spLetters := by
  refine F.ok sc_law_letters (fun vs H Q E h => ?_) (fun cdv A outer s H vs Q E hr h => ?_)
  · obtain ⟨r, g, gs, n, most, rfl, _⟩ := h; rfl
  obtain ⟨r, g, gs, n, most, rfl, B, hn, m0, m4, q⟩ := h
  refine ⟨_, (pss_cons (ps_par (i := 2) (j := 3) (by rfl) sc_law_letters.nd rfl rfl (by decide) rfl rfl (pa_cons (pe_ix ix_list (peq_lst (pa_cons (pe_call G_law_draw (hr.mono (by omega)) (by rfl) g_law_draw F_law_draw.kp b_law_draw .nil pass0 (pa_cons (pv 0) (pa_cons (pe_op op_add (pv 1) pe_int) pa_nil))) (pa_cons (pv 1) pa_nil))) (pe_callTy call_int1 (by rfl) m_int (by decide +kernel) (pa_cons (pe_cmpR op_eq (pe_call G_law_draw (hr.mono (by omega)) (by rfl) g_law_draw F_law_draw.kp b_law_draw .nil pass0 (pa_cons (pv 0) (pa_cons pe_int pa_nil))) pe_int (nomark _)) pa_nil)) (fun _ _ => rfl)) (pa_cons (pe_call G_law_draw (hr.mono (by omega)) (by rfl) g_law_draw F_law_draw.kp b_law_draw .nil pass0 (pa_cons (pv 0) (pa_cons pe_int pa_nil))) pa_nil)) (by rfl))
    (pss_cons (ps_set (i := 4) sc_law_letters.nd rfl (Or.inr rfl) (pe_ix ix_list (peq_lst (pa_cons pe_int (pa_cons pe_int (pa_cons pe_int (pa_cons pe_int (pa_cons pe_int (pa_cons pe_int (pa_cons pe_int pa_nil)))))))) (pv 3) (fun _ _ => rfl)))
    (pss_cons (ps_set (i := 5) sc_law_letters.nd rfl (Or.inl rfl) (pe_join pe_str (pe_lc (own := [("step", 6)]) rfl sc_law_letters.nd (pi_range1 rfl m_range (pa_cons (pv 2) pa_nil)) (blkOk_by (own := [("step", 6)]) (N := N_law_letters) (sc := defScope st_law_letters) (by decide +kernel)) (fun _ _ _ _ _ => (pg_name (i := 6) sc_law_letters.nd rfl (Or.inl rfl))) (fun _ _ _ _ _ => pts_nil) (fun _ _ _ _ _ => (pe_ix ix_tx pe_str (pe_callTy call_int1 (by rfl) m_int (by decide +kernel) (pa_cons (pe_cmpR op_gt (pe_call G_law_draw (hr.mono (by omega)) (by rfl) g_law_draw F_law_draw.kp b_law_draw .nil pass0 (pa_cons (pv 0) (pa_cons (pv 4) pa_nil))) pe_int (nomark _)) pa_nil)) (fun _ _ => rfl))))))
    (pss_cons (ps_if (PW.pt (pw_and (pt_cmpR op_eq (pv 3) pe_int (nomark _)) (pw_and1 (pt_cmpR op_eq (pe_call G_law_draw (hr.mono (by omega)) (by rfl) g_law_draw F_law_draw.kp b_law_draw .nil pass0 (pa_cons (pv 0) (pa_cons pe_int pa_nil))) pe_int (nomark _))))) (pss_one (ps_set (i := 5) sc_law_letters.nd rfl (Or.inl rfl) (pe_join pe_str (pe_lc (own := [("letter", 7)]) rfl sc_law_letters.nd (pi_str (pv 5)) (blkOk_by (own := [("letter", 7)]) (N := N_law_letters) (sc := defScope st_law_letters) (by decide +kernel)) (fun _ _ _ _ _ => (pg_name (i := 7) sc_law_letters.nd rfl (Or.inl rfl))) (fun _ _ _ _ _ => pts_nil) (fun _ _ _ _ _ => (pe_ix ix_tx pe_str (pe_callTy call_int1 (by rfl) m_int (by decide +kernel) (pa_cons (pe_cmpR op_eq (pv 7) pe_str (nomark _)) pa_nil)) (fun _ _ => rfl))))))) pss_nil)
    (pss_cons (ps_if (pt_cmpR op_eq (pv 3) pe_int (nomark _)) (pss_one (ps_set (i := 5) sc_law_letters.nd rfl (Or.inl rfl) (pe_join pe_str (pe_lc (own := [("letter", 7)]) rfl sc_law_letters.nd (pi_str (pv 5)) (blkOk_by (own := [("letter", 7)]) (N := N_law_letters) (sc := defScope st_law_letters) (by decide +kernel)) (fun _ _ _ _ _ => (pg_name (i := 7) sc_law_letters.nd rfl (Or.inl rfl))) (fun _ _ _ _ _ => pts_nil) (fun _ _ _ _ _ => (pe_op op_rep_str (pv 7) (pe_op op_add pe_int (pe_call G_law_draw (hr.mono (by omega)) (by rfl) g_law_draw F_law_draw.kp b_law_draw .nil pass0 (pa_cons (pv 0) (pa_cons pe_int pa_nil)))))))))) pss_nil)
    (pss_cons (ps_if (pt_cmpR op_eq (pv 3) pe_int (nomark _)) (pss_one (ps_set (i := 5) sc_law_letters.nd rfl (Or.inl rfl) (pe_stepS (pe_join pe_str (pe_callB (cr_sortedTx rfl) (by rfl) m_sorted (by decide +kernel) (pa_cons (pv 5) pa_nil))) (pe_op op_sub pe_int (pe_op op_mulW pe_int (pe_call G_law_draw (hr.mono (by omega)) (by rfl) g_law_draw F_law_draw.kp b_law_draw .nil pass0 (pa_cons (pv 0) (pa_cons pe_int pa_nil)))))))) pss_nil)
    (pss_cons (ps_if (pt_cmpR op_eq (pv 3) pe_int (nomark _)) (pss_one (ps_set (i := 5) sc_law_letters.nd rfl (Or.inl rfl) (pe_op op_rep_str (pe_slice sl_tx (pv 5) po_none (po_some (pe_op op_add pe_int (pe_call G_law_draw (hr.mono (by omega)) (by rfl) g_law_draw F_law_draw.kp b_law_draw .nil pass0 (pa_cons (pv 0) (pa_cons pe_int pa_nil)))))) (pe_op op_add (pv 2) pe_int)))) pss_nil)
    (pss_one (ps_ret (pe_slice sl_tx (pv 5) po_none (po_some (pv 2)))))))))))), ?_⟩
  refine ⟨.ref r, rfl, .int most, rfl, most, 1, rfl, rfl, r, g, gs, n, most + 1, rfl, B, by omega, by omega, b8k (by omega) (by omega), fun d1 H1 l1 u1 k1 B1 => ?_⟩
  refine ⟨.int most, rfl, (by show 2 ≤ sizeLine; decide), fun p H2 np _ hH2 => ?_⟩
  have s2 : Same H1 H2 := by rw [hH2]; exact same_new np
  have e2 : H2 p = some (.lst [.int d1, .int most]) := by rw [hH2]; exact upd_same
  clear hH2
  have B2 := B1.mono s2
  obtain ⟨npr, npg⟩ := B1.new np
  refine ⟨.ref r, rfl, r, g, gs, n + 1, 4, rfl, B2, by omega, by decide, b8k (by decide) (by decide), fun d2 H3 l2 u2 k3 B3 => ?_⟩
  have e3 := k3 _ _ npr e2
  obtain ⟨count, hcount, c0, c4⟩ : ∃ count : Nat, atI [V.int d1, .int most] (if decide (V.int d2 = V.int 0) = true then 1 else 0) = some (.int (count : Int)) ∧ (count : Int) ≤ most ∧ count ≤ 400 := by
    by_cases h : decide (V.int d2 = V.int 0) = true
    · rw [if_pos h]; exact ⟨most.toNat, at_of (j := 1) rfl (by show some (V.int most) = _; rw [Int.toNat_of_nonneg m0]), by omega, by omega⟩
    · rw [if_neg h]; exact ⟨d1.toNat, at_of (j := 0) rfl (by show some (V.int d1) = _; rw [Int.toNat_of_nonneg l1]), by omega, by omega⟩
  refine ⟨rfl, .inr ⟨_, rfl, p, _, _, .int (count : Int), rfl, rfl, SqL.of e3, hcount, .ref r, rfl, r, g, gs, n + 1 + 1, 7, rfl, B3, by omega, by decide, b8k (by decide) (by decide), fun way H4 w0 w7 k4 B4 => ⟨.int (count : Int), .int way, rfl, ?_⟩⟩⟩
  have k14 : Keep r H H4 := (k1.trans (Keep.of s2)).trans (k3.trans k4)
  -- share
  refine ⟨(by show 7 ≤ sizeLine; decide), fun p2 H5 np2 _ hH5 => ?_⟩
  have s5 : Same H4 H5 := by rw [hH5]; exact same_new np2
  have e5 : H5 p2 = some (.lst [.int 2, .int 2, .int 9, .int 30, .int 2, .int 2, .int 2]) := by rw [hH5]; exact upd_same
  clear hH5
  have B5 := B4.mono s5
  have k5 : Keep r H H5 := k14.trans (Keep.of s5)
  obtain ⟨share, hshare, sh1, sh2⟩ : ∃ share : Int, atI [V.int 2, .int 2, .int 9, .int 30, .int 2, .int 2, .int 2] way = some (.int share) ∧ 1 ≤ share ∧ share ≤ 30 := by
    have : way = 0 ∨ way = 1 ∨ way = 2 ∨ way = 3 ∨ way = 4 ∨ way = 5 ∨ way = 6 := by omega
    rcases this with rfl | rfl | rfl | rfl | rfl | rfl | rfl
    · exact ⟨2, at_of (j := 0) rfl rfl, by decide, by decide⟩
    · exact ⟨2, at_of (j := 1) rfl rfl, by decide, by decide⟩
    · exact ⟨9, at_of (j := 2) rfl rfl, by decide, by decide⟩
    · exact ⟨30, at_of (j := 3) rfl rfl, by decide, by decide⟩
    · exact ⟨2, at_of (j := 4) rfl rfl, by decide, by decide⟩
    · exact ⟨2, at_of (j := 5) rfl rfl, by decide, by decide⟩
    · exact ⟨2, at_of (j := 6) rfl rfl, by decide, by decide⟩
  refine ⟨.int way, rfl, p2, _, way, .int share, rfl, rfl, SqL.of e5, hshare, ?_⟩
  -- found
  refine ⟨⟨_, rfl⟩, .int (count : Int), rfl, (count : Int), rfl, by omega, by omega, fun D nD => ?_⟩
  obtain ⟨nDr, nDg⟩ := B5.new nD
  refine lc_range (lo := 0) (n := ((count : Int)).toNat) (fun i H' => ∃ ps : List (List Nat), H' D = some (.lst (ps.map fun p => V.str (S p))) ∧ ps.length = i ∧ (∀ p ∈ ps, p.length = 1 ∧ abs p = true) ∧ Keep r H5 H' ∧ BagAt H' r g gs (n + 3 + i))
    ⟨[], upd_same, rfl, (fun _ h => nomatch h), Keep.of (same_new nD), B5.upd nDr nDg⟩ (fun i H' hi h => ?_) (fun H' h => ?_)
  · obtain ⟨ps, eD, hl, hp, kk, BB⟩ := h
    rw [Int.toNat_natCast] at hi
    refine ⟨rfl, .ref r, rfl, .int share, rfl, r, g, gs, n + 3 + i, share, rfl, BB, by omega, sh1, b8k (by omega) (by omega), fun d H6 l6 u6 k6 B6 => ?_⟩
    have eD6 := k6 _ _ nDr eD
    refine ⟨_, _, rfl, rfl, .inr ⟨_, rfl, ?_⟩⟩
    obtain ⟨j, c, hj, hc, hab⟩ : ∃ (j : Nat) (c : Nat), (if decide ((0 : Int) < d) = true then (1 : Int) else 0) = (j : Int) ∧ ([97, 98] : List Nat)[j]? = some c ∧ abs [c] = true := by
      by_cases h : decide ((0 : Int) < d) = true
      · exact ⟨1, 98, if_pos h, rfl, rfl⟩
      · exact ⟨0, 97, if_neg h, rfl, rfl⟩
    refine ⟨[97, 98], j, c, rfl, congrArg V.int hj, by decide, hc, _, eD6, by rw [List.length_map, hl]; unfold sizeLine; omega, ps ++ [[c]], by rw [upd_same, List.map_append]; rfl, by rw [List.length_append, hl]; rfl,
      (fun p hm => ?_), fun b o nb e => ?_, (B6.upd nDr nDg).more (by omega)⟩
    · rcases List.mem_append.mp hm with hm | hm
      · exact hp p hm
      · have : p = [c] := by simpa using hm
        rw [this]; exact ⟨rfl, hab⟩
    · rw [upd_ne (ne_of_none e nD)]; exact k6 _ _ nb (kk _ _ nb e)
  obtain ⟨ps, eD, hl, hp, kk, BB⟩ := h
  rw [Int.toNat_natCast] at hl
  have eps : (ps.map fun p => V.str (S p)) = (ps.map S).map V.str := by rw [List.map_map]; rfl
  refine ⟨S [], D, ps.map S, rfl, rfl, .inl (SqL.of (by rw [eD, eps])), ?_, ?_⟩
  · rw [join_sum1 fun p hq => (hp p hq).1]; show ps.length + (ps.map S).length * 0 ≤ 16777216; omega
  rw [SX.join_S, joinL_nil]
  have fl : ps.flatten.length ≤ 400 := by rw [len_flatten1 fun p hq => (hp p hq).1]; omega
  have fa : abs ps.flatten = true := abs_flatten fun p hq => (hp p hq).2
  have k6 : Keep r H H' := k5.trans kk
  have B6 : BagAt H' r g gs (n + 500) := BB.more (by omega)
  generalize ps.flatten = a at fl fa ⊢
  clear eps eD hp hl kk BB
  -- way 3
  refine ⟨.int way, rfl, rfl, _, rfl, ?_⟩
  refine' cut1 (P := fun (a : List Nat) H' => a.length ≤ 400 ∧ abs a = true ∧ Keep r H H' ∧ BagAt H' r g gs (n + 600)) (fun rest => ite2 (fun _ => ?w3) (fun _ => ?n3)) ?rest3
  case w3 =>
    refine ⟨.ref r, rfl, r, g, gs, n + 500, 2, rfl, B6, by omega, by decide, b8k (by decide) (by decide), fun d7 H7 l7 u7 k7 B7 => ⟨rfl, _, rfl, ite2 (fun _ => ?_) (fun _ => ?_)⟩⟩
    · refine ⟨⟨_, rfl⟩, .str (S a), rfl, S a, rfl, fun D nD => ?_⟩
      obtain ⟨nDr, nDg⟩ := B7.new nD
      refine lc_it (walk_txt a) (fun i H' => ∃ ps : List (List Nat), H' D = some (.lst (ps.map fun p => V.str (S p))) ∧ ps.length = i ∧ (∀ p ∈ ps, p.length = 1 ∧ abs p = true) ∧ Same H7 H')
        ⟨[], upd_same, rfl, (fun _ h => nomatch h), same_new nD⟩ (fun _ _ _ _ => trivial) (fun i x H8 H9 hi h hx => ?_) (fun H8 h => ?_)
      · obtain ⟨rfl, c, rfl, hc⟩ := hx
        obtain ⟨ps, eD, hl, hp, kk⟩ := h
        obtain ⟨j, c', hj, hc', hab⟩ : ∃ (j : Nat) (c' : Nat), (if decide (V.str (S [c]) = V.str (S [98])) = true then (1 : Int) else 0) = (j : Int) ∧ ([98, 97] : List Nat)[j]? = some c' ∧ abs [c'] = true := by
          by_cases h : decide (V.str (S [c]) = V.str (S [98])) = true
          · exact ⟨1, 97, if_pos h, rfl, rfl⟩
          · exact ⟨0, 98, if_neg h, rfl, rfl⟩
        refine ⟨rfl, .str (S [c]), rfl, rfl, .inr ⟨_, rfl, [98, 97], j, c', rfl, congrArg V.int hj, by decide, hc', _, eD, by rw [List.length_map, hl]; unfold sizeLine; omega, ps ++ [[c']], by rw [upd_same, List.map_append]; rfl, by rw [List.length_append, hl]; rfl,
          (fun p hm => ?_), Same.mut kk nD⟩⟩
        rcases List.mem_append.mp hm with hm | hm
        · exact hp p hm
        · have : p = [c'] := by simpa using hm
          rw [this]; exact ⟨rfl, hab⟩
      · obtain ⟨ps, eD, hl, hp, kk⟩ := h
        have eps : (ps.map fun p => V.str (S p)) = (ps.map S).map V.str := by rw [List.map_map]; rfl
        refine ⟨S [], D, ps.map S, rfl, rfl, .inl (SqL.of (by rw [eD, eps])), ?_, ?_⟩
        · rw [join_sum1 fun p hq => (hp p hq).1]; show ps.length + (ps.map S).length * 0 ≤ 16777216; omega
        rw [SX.join_S, joinL_nil]
        have fl' : ps.flatten.length ≤ 400 := by rw [len_flatten1 fun p hq => (hp p hq).1]; omega
        have fa' : abs ps.flatten = true := abs_flatten fun p hq => (hp p hq).2
        generalize ps.flatten = a' at fl' fa' ⊢
        exact rest a' H8 ⟨fl', fa', (k6.trans k7).trans (Keep.of kk), (B7.mono kk).more (by omega)⟩
    · exact rest a H7 ⟨fl, fa, k6.trans k7, B7.more (by omega)⟩
  case n3 => exact rest a H' ⟨fl, fa, k6, B6.more (by omega)⟩
  case rest3 =>
    clear fl fa k6 B6
    rintro a H6 ⟨fl, fa, k6, B6⟩
    -- way 4
    refine ⟨.int way, rfl, rfl, _, rfl, ?_⟩
    refine' cut1 (P := fun (a : List Nat) H' => a.length ≤ 3600 ∧ abs a = true ∧ Keep r H H' ∧ BagAt H' r g gs (n + 1100)) (fun rest => ite2 (fun _ => ?w4) (fun _ => ?n4)) ?rest4
    case w4 =>
      refine ⟨⟨_, rfl⟩, .str (S a), rfl, S a, rfl, fun D nD => ?_⟩
      obtain ⟨nDr, nDg⟩ := B6.new nD
      refine lc_it (walk_txt a) (fun i H' => ∃ ps : List (List Nat), H' D = some (.lst (ps.map fun p => V.str (S p))) ∧ ps.length = i ∧ (∀ p ∈ ps, p.length ≤ 9 ∧ abs p = true) ∧ Keep r H6 H' ∧ BagAt H' r g gs (n + 600 + i))
        ⟨[], upd_same, rfl, (fun _ h => nomatch h), Keep.of (same_new nD), B6.upd nDr nDg⟩ (fun _ _ _ _ => trivial) (fun i x H8 H9 hi h hx => ?_) (fun H8 h => ?_)
      · obtain ⟨rfl, c, rfl, hc⟩ := hx
        obtain ⟨ps, eD, hl, hp, kk, BB⟩ := h
        refine ⟨rfl, .str (S [c]), rfl, .ref r, rfl, r, g, gs, n + 600 + i, 9, rfl, BB, by omega, by decide, b8k (by decide) (by decide), fun d H10 l10 u10 k10 B10 => ?_⟩
        have eD10 := k10 _ _ nDr eD
        have hab : abs [c] = true := abs_get fa hc
        refine ⟨1, d, rfl, rfl, [c], 1 + d, rfl, rfl, by omega, by omega, ?_, _, eD10, by rw [List.length_map, hl]; unfold sizeLine; omega, ps ++ [repN (1 + d).toNat [c]], by rw [upd_same, List.map_append]; rfl, by rw [List.length_append, hl]; rfl,
          (fun p hm => ?_), fun b o nb e => ?_, (B10.upd nDr nDg).more (by omega)⟩
        · show (1 + d).toNat * 1 ≤ 1000000; omega
        · rcases List.mem_append.mp hm with hm | hm
          · exact hp p hm
          · have : p = repN (1 + d).toNat [c] := by simpa using hm
            rw [this]
            refine ⟨?_, abs_rep hab _⟩
            rw [repN_length]; show (1 + d).toNat * 1 ≤ 9; omega
        · rw [upd_ne (ne_of_none e nD)]; exact k10 _ _ nb (kk _ _ nb e)
      · obtain ⟨ps, eD, hl, hp, kk, BB⟩ := h
        have eps : (ps.map fun p => V.str (S p)) = (ps.map S).map V.str := by rw [List.map_map]; rfl
        have js := join_sum9 fun p hq => (hp p hq).1
        refine ⟨S [], D, ps.map S, rfl, rfl, .inl (SqL.of (by rw [eD, eps])), ?_, ?_⟩
        · show ((ps.map S).map (·.length)).sum + (ps.map S).length * 0 ≤ 16777216; omega
        rw [SX.join_S, joinL_nil]
        have fl' : ps.flatten.length ≤ 3600 := by have := len_flatten9 fun p hq => (hp p hq).1; omega
        have fa' : abs ps.flatten = true := abs_flatten fun p hq => (hp p hq).2
        generalize ps.flatten = a' at fl' fa' ⊢
        exact rest a' H8 ⟨fl', fa', k6.trans kk, BB.more (by omega)⟩
    case n4 => exact rest a H6 ⟨by omega, fa, k6, B6.more (by omega)⟩
    case rest4 =>
      clear fl fa k6 B6
      rintro a H7 ⟨fl, fa, k7, B7⟩
      -- way 5
      refine ⟨.int way, rfl, rfl, _, rfl, ?_⟩
      refine' cut1 (P := fun (a : List Nat) H' => a.length ≤ 3600 ∧ abs a = true ∧ Keep r H H' ∧ BagAt H' r g gs (n + 1200)) (fun rest => ite2 (fun _ => ?w5) (fun _ => ?n5)) ?rest5
      case w5 =>
        refine ⟨⟨_, rfl⟩, .str (S a), rfl, a, rfl, by omega, fun b D H8 hperm _ nD _ hH8 => ?_⟩
        have s8 : Same H7 H8 := by rw [hH8]; exact same_new nD
        have e8 : H8 D = some (.lst (sg b)) := by rw [hH8]; exact upd_same
        clear hH8
        have hb : sg b = ((b.map fun c => [c]).map S).map V.str := by unfold sg; rw [List.map_map, List.map_map]; rfl
        have lb := hperm.length_eq
        have h1 : ∀ p ∈ (b.map fun c => [c]), p.length = 1 := fun p hp => by
          obtain ⟨c, _, rfl⟩ := List.mem_map.mp hp; rfl
        refine ⟨S [], D, (b.map fun c => [c]).map S, rfl, rfl, .inl (SqL.of (by rw [e8, hb])), ?_, ?_⟩
        · rw [join_sum1 h1]; show (b.map fun c => [c]).length + ((b.map fun c => [c]).map S).length * 0 ≤ 16777216; rw [List.length_map]; omega
        rw [SX.join_S, joinL_nil, flat1]
        refine ⟨b, rfl, by omega, .ref r, rfl, r, g, gs, n + 1100, 2, rfl, B7.mono s8, by omega, by decide, b8k (by decide) (by decide), fun d H9 l9 u9 k9 B9 => ?_⟩
        refine ⟨2, d, rfl, rfl, wide_mul (a := 2) (b := 2) (by decide) (by omega) (by decide) (by decide) (by decide), 1, _, rfl, rfl, _, rfl, _, rfl, by omega, ?_⟩
        have fb' : abs b = true := abs_perm hperm fa
        have fl' : (if (1 : Int) - 2 * d = 1 then b else b.reverse).length ≤ 3600 := by
          split
          · omega
          · rw [List.length_reverse]; omega
        have fa' : abs (if (1 : Int) - 2 * d = 1 then b else b.reverse) = true := by
          split
          · exact fb'
          · rw [abs_reverse]; exact fb'
        generalize (if (1 : Int) - 2 * d = 1 then b else b.reverse) = a' at fl' fa' ⊢
        exact rest a' H9 ⟨fl', fa', (k7.trans (Keep.of s8)).trans k9, B9.more (by omega)⟩
      case n5 => exact rest a H7 ⟨fl, fa, k7, B7.more (by omega)⟩
      case rest5 =>
        clear fl fa k7 B7
        rintro a H8 ⟨fl, fa, k8, B8⟩
        -- way 6
        refine ⟨.int way, rfl, rfl, _, rfl, ?_⟩
        refine' cut1 (P := fun (a : List Nat) H' => a.length ≤ 3600 ∧ abs a = true ∧ Keep r H H' ∧ BagAt H' r g gs (n + 1300)) (fun rest => ite2 (fun _ => ?w6) (fun _ => ?n6)) ?rest6
        case w6 =>
          refine ⟨.str (S a), rfl, .ref r, rfl, r, g, gs, n + 1200, 4, rfl, B8, by omega, by decide, b8k (by decide) (by decide), fun d H9 l9 u9 k9 B9 => ?_⟩
          refine ⟨1, d, rfl, rfl, _, rfl, a, rfl, by omega, .int (count : Int), rfl, (count : Int), 1, rfl, rfl, cutL a none (some (1 + d)), (count : Int) + 1, rfl, rfl, by omega, by omega, ?_, ?_⟩
          · obtain ⟨j, hj⟩ : ∃ j : Nat, 1 + d = (j : Int) := ⟨(1 + d).toNat, by omega⟩
            rw [hj, cutL_to, List.length_take]
            have h1 : ((count : Int) + 1).toNat ≤ 401 := by omega
            have h2 : min j a.length ≤ 4 := by omega
            exact Nat.le_trans (Nat.mul_le_mul h1 h2) (by decide)
          obtain ⟨j, hj⟩ : ∃ j : Nat, 1 + d = (j : Int) := ⟨(1 + d).toNat, by omega⟩
          rw [hj, cutL_to]
          have fl' : (repN ((count : Int) + 1).toNat (a.take j)).length ≤ 3600 := by
            rw [repN_length, List.length_take]
            have h1 : ((count : Int) + 1).toNat ≤ 401 := by omega
            have h2 : min j a.length ≤ 4 := by omega
            exact Nat.le_trans (Nat.mul_le_mul h1 h2) (by decide)
          have fa' : abs (repN ((count : Int) + 1).toNat (a.take j)) = true := abs_rep (abs_take fa j) _
          generalize repN ((count : Int) + 1).toNat (a.take j) = a' at fl' fa' ⊢
          exact rest a' H9 ⟨fl', fa', k8.trans k9, B9.more (by omega)⟩
        case n6 => exact rest a H8 ⟨fl, fa, k8, B8.more (by omega)⟩
        case rest6 =>
          clear fl fa k8 B8
          rintro a H9 ⟨fl, fa, k9, B9⟩
          refine ⟨.str (S a), rfl, .int (count : Int), rfl, (count : Int), rfl, a, rfl, by omega, ?_⟩
          rw [cutL_to]
          exact q _ _ (by rw [List.length_take]; omega) (abs_take fa count) k9 (B9.more (by omega))

end
end K14
namespace K14
open PySem PySem.Spec PyProof.Rows L2 Vx
section
variable {P : Program} {w : World} {K : PySem.W.Frag} {mg : Str → Option Value} {base : Heap}
/-- the letters x, y stand at the places i and i + 1 -/
def at2 (a : List Nat) (i : Int) (x y : Nat) : Bool := decide (0 ≤ i) && (a[i.toNat]? == some x && a[i.toNat + 1]? == some y)
theorem take2 {b : List Nat} {x y : Nat} (h0 : b[0]? = some x) (h1 : b[1]? = some y) : b.take 2 = [x, y] := by
  match b, h0, h1 with
  | u :: v :: r, h0, h1 =>
    obtain rfl : u = x := Option.some.inj h0
    obtain rfl : v = y := Option.some.inj h1
    rfl
  | [u], _, h1 => cases h1
  | [], h0, _ => cases h0
theorem cutL_two (a : List Nat) (i : Nat) (h : i + 1 < a.length) : cutL a (some (i : Int)) (some ((i : Int) + 2)) = (a.drop i).take 2 := by
  unfold cutL cutS
  rw [show (i : Int) + 2 = ((i + 2 : Nat) : Int) by omega]
  rw [show HT.sIx (S a).length 0 (some (i : Int)) = min i (S a).length from HT.sIx_nat .., show HT.sIx (S a).length (S a).length (some ((i + 2 : Nat) : Int)) = min (i + 2) (S a).length from HT.sIx_nat .., SX.S_len]
  show (a.drop (min i a.length)).take (min (i + 2) a.length - min i a.length) = _
  rw [Nat.min_eq_left (by omega), Nat.min_eq_left (by omega)]
  congr 1
  omega
def spHasAt : Sp := fun vs H Q _ => ∃ (a : List Nat) (x y : Nat) (i : Int), vs = [.str (S a), .str (S [x, y]), .int i] ∧ a.length ≤ 200 ∧ Q (.bl (at2 a i x y)) H
theorem ok_has_at {f : Addr} {fd : FuncData} {k : Nat} (F : Fun K "_has_at" "_has_at" st_has_at f fd) (m_len : mg "len" = none) : FnOk P w K mg base CX0 (k + 1) f fd ["row", "letters", "place"] spHasAt := by
  refine F.ok sc_has_at (fun vs H Q E h => ?_) (fun cdv A outer s H vs Q E hr h => ?_)
  · obtain ⟨a, x, y, i, rfl, _⟩ := h; rfl
  obtain ⟨a, x, y, i, rfl, hl, q⟩ := h
  refine ⟨_, (pss_one (ps_ret (pe_and (pe_chain op_le op_lt pe_int (pv 2) (pe_op op_sub (pe_callB call_len_tx (by rfl) m_len PySem.boot_len (pa_cons (pv 0) pa_nil)) pe_int)) (pe_one (pe_cmpR op_eq (pe_slice sl_tx (pv 0) (po_some (pv 2)) (po_some (pe_op op_add (pv 2) pe_int))) (pv 1) (nomark _)))))), ?_⟩
  refine ⟨.int i, rfl, _, _, rfl, rfl, _, rfl, ite2 (fun h0 => ?_) (fun h0 => ?_)⟩
  · have h0' : (0 : Int) ≤ i := of_decide_eq_true h0
    obtain ⟨n, rfl⟩ : ∃ n : Nat, i = (n : Int) := ⟨i.toNat, by omega⟩
    refine ⟨.str (S a), rfl, a, rfl, by omega, _, _, rfl, rfl, _, _, rfl, rfl, _, rfl, ite2 (fun h1 => ?_) (fun h1 => ?_)⟩
    · have h1' : (n : Int) < (a.length : Int) - 1 := of_decide_eq_true h1
      have hn : n + 1 < a.length := by omega
      refine ⟨.str (S a), rfl, .int (n : Int), rfl, (n : Int), rfl, .int (n : Int), rfl, (n : Int), 2, rfl, rfl, (n : Int) + 2, rfl, a, rfl, by omega, .str (S [x, y]), rfl, rfl, ?_⟩
      rw [cutL_two a n hn]
      have e : decide (V.str (S ((a.drop n).take 2)) = V.str (S [x, y])) = at2 a (n : Int) x y := by
        have d0 : (a.drop n)[0]? = a[n]? := by rw [List.getElem?_drop, Nat.add_zero]
        have d1 : (a.drop n)[1]? = a[n + 1]? := by rw [List.getElem?_drop]
        rw [List.getElem?_eq_getElem (show n < a.length by omega)] at d0
        rw [List.getElem?_eq_getElem hn] at d1
        rw [take2 d0 d1]
        unfold at2
        rw [decide_eq_true (show (0 : Int) ≤ (n : Int) by omega), Bool.true_and, Int.toNat_natCast, List.getElem?_eq_getElem (show n < a.length by omega), List.getElem?_eq_getElem hn]
        generalize a[n] = u
        generalize a[n + 1] = v
        rw [Bool.eq_iff_iff]
        simp only [decide_eq_true_eq, Bool.and_eq_true, beq_iff_eq, Option.some.injEq]
        constructor
        · intro h
          have h' : ([u, v] : List Nat) = [x, y] := congrArg (fun x : Str => x.cps.toList) (V.str.inj h)
          injection h' with h1 h2
          injection h2 with h2 h3
          exact ⟨h1, h2⟩
        · rintro ⟨rfl, rfl⟩; rfl
      show Q (V.bl (decide (V.str (S ((a.drop n).take 2)) = V.str (S [x, y])))) H
      rw [e]
      exact q
    · have h1' : ¬ (n : Int) < (a.length : Int) - 1 := fun z => h1 (decide_eq_true z)
      have e : at2 a (n : Int) x y = false := by
        unfold at2
        rw [Int.toNat_natCast, List.getElem?_eq_none (show a.length ≤ n + 1 by omega)]
        simp
      rw [e] at q
      exact q
  · have e : at2 a i x y = false := by
      unfold at2
      rw [decide_eq_false fun z => h0 (decide_eq_true z), Bool.false_and]
    rw [e] at q
    exact ⟨_, rfl, q⟩
def spApart : Sp := fun vs H Q _ => ∃ i j : Int, vs = [.int i, .int j] ∧ Q (.bl (decide (2 ≤ (if i - j < 0 then -(i - j) else i - j)))) H
theorem ok_is_apart {f : Addr} {fd : FuncData} {k : Nat} (F : Fun K "_is_apart" "_is_apart" st_is_apart f fd) (m_abs : mg "abs" = none) : FnOk P w K mg base CX0 (k + 1) f fd ["first", "second"] spApart := by
  refine F.ok sc_is_apart (fun vs H Q E h => ?_) (fun cdv A outer s H vs Q E hr h => ?_)
  · obtain ⟨i, j, rfl, _⟩ := h; rfl
  obtain ⟨i, j, rfl, q⟩ := h
  refine ⟨_, (pss_one (ps_ret (pe_cmpR op_ge (pe_callB call_abs (by rfl) m_abs (by decide +kernel) (pa_cons (pe_op op_sub (pv 0) (pv 1)) pa_nil)) pe_int (nomark _)))), ?_⟩
  exact ⟨.int i, rfl, .int j, rfl, _, _, rfl, rfl, _, rfl, _, _, rfl, rfl, q⟩
theorem two_ok : ¬ (!decide (V.int ((2 : Nat) : Int) = V.int 2)) = true := by
  show ¬ (!decide (V.int 2 = V.int 2)) = true
  rw [decide_eq_true rfl]; decide
/-- (i, j) is a double swap of the row -/
def swB (a : List Nat) (i j : Int) : Bool := at2 a i 97 98 && (at2 a j 98 97 && decide (2 ≤ (if i - j < 0 then -(i - j) else i - j)))
/-- no integer: a bool, or of another class -/
def NotInt (K : PySem.W.Frag) (H : Hp) (x : V) : Prop := (∃ b, x = .bl b) ∨ ∃ t, TyX K H x t ∧ PySem.W.kitOne K t (.type "int") = some false
def BadSwap (K : PySem.W.Frag) (H : Hp) (x : V) : Prop := (∃ T, TyB K H x T ∧ T ≠ "tuple") ∨ (∃ p xs, x = .ref p ∧ SqT K H p xs ∧ xs.length ≠ 2) ∨ ∃ p u v, x = .ref p ∧ SqT K H p [u, v] ∧ (NotInt K H u ∨ ((∃ i, u = .int i) ∧ NotInt K H v))
def spIsSwap (K : PySem.W.Frag) : Sp := fun vs H Q _ => ∃ (a : List Nat) (x : V), vs = [.str (S a), x] ∧ rowB a = true ∧ ((∃ p i j, x = .ref p ∧ SqT K H p [.int i, .int j] ∧ Q (.bl (swB a i j)) H) ∨ (BadSwap K H x ∧ Q (.bl false) H))
theorem ok_is_swap {f f1 f2 f3 f4 : Addr} {fd fd1 fd2 fd3 fd4 : FuncData} {k : Nat} (F : Fun K "is_swap" "is_swap" st_is_swap f fd)
    (F_check_row : Fun K "check_row" "check_row" st_check_row f1 fd1) (G_check_row : FnOk P w K mg base CX0 2 f1 fd1 ["value"] spCheck) (b_check_row : Binds K fd1 ["value"] []) (g_check_row : mg "check_row" = some (.ref f1))
    (F_is_integer : Fun K "is_integer" "is_integer" st_is_integer f2 fd2) (G_is_integer : FnOk P w K mg base CX0 1 f2 fd2 ["value"] (spIsInt K)) (b_is_integer : Binds K fd2 ["value"] []) (g_is_integer : mg "is_integer" = some (.ref f2))
    (F_has_at : Fun K "_has_at" "_has_at" st_has_at f3 fd3) (G_has_at : FnOk P w K mg base CX0 1 f3 fd3 ["row", "letters", "place"] spHasAt) (b_has_at : Binds K fd3 ["row", "letters", "place"] []) (g_has_at : mg "_has_at" = some (.ref f3))
    (F_is_apart : Fun K "_is_apart" "_is_apart" st_is_apart f4 fd4) (G_is_apart : FnOk P w K mg base CX0 1 f4 fd4 ["first", "second"] spApart) (b_is_apart : Binds K fd4 ["first", "second"] []) (g_is_apart : mg "_is_apart" = some (.ref f4))
    (m_type : mg "type" = none) (m_tuple : mg "tuple" = none) (m_len : mg "len" = none) : FnOk P w K mg base CX0 (k + 3) f fd ["row", "value"] (spIsSwap K) := by
  refine F.ok sc_is_swap (fun vs H Q E h => ?_) (fun cdv A outer s H vs Q E hr h => ?_)
  · obtain ⟨a, x, rfl, _⟩ := h; rfl
  obtain ⟨a, x, rfl, hw, h⟩ := h
  have hl := row_len hw
  refine ⟨_, (pss_cons (ps_expr (pe_call G_check_row (hr.mono (by omega)) (by rfl) g_check_row F_check_row.kp b_check_row .nil pass0 (pa_cons (pv 0) pa_nil)))
    (pss_cons (ps_if (PW.pt (pw_or (pt_cmpR op_notTyB (pe_callTy call_type1 (by rfl) m_type (by decide +kernel) (pa_cons (pv 1) pa_nil)) (pe_bltn (by rfl) m_tuple (by decide +kernel) (show RelV (.ty "tuple") (.type "tuple") from rfl)) (nomark _)) (pw_or1 (pt_cmpR op_ne (pe_callB call_len_seq (by rfl) m_len PySem.boot_len (pa_cons (pv 1) pa_nil)) pe_int (nomark _))))) (pss_one (ps_ret pe_bl)) pss_nil)
    (pss_cons (ps_asg (pv 1) (pg_tup rfl (pgs_cons (pg_name (i := 2) sc_is_swap.nd rfl (Or.inl rfl)) (pgs_cons (pg_name (i := 3) sc_is_swap.nd rfl (Or.inl rfl)) pgs_nil))))
    (pss_cons (ps_if (pt_not (PW.pt (pw_and (pt_val (pe_call G_is_integer (hr.mono (by omega)) (by rfl) g_is_integer F_is_integer.kp b_is_integer .nil pass0 (pa_cons (pv 2) pa_nil))) (pw_and1 (pt_val (pe_call G_is_integer (hr.mono (by omega)) (by rfl) g_is_integer F_is_integer.kp b_is_integer .nil pass0 (pa_cons (pv 3) pa_nil))))))) (pss_one (ps_ret pe_bl)) pss_nil)
    (pss_one (ps_ret (pe_and (pe_call G_has_at (hr.mono (by omega)) (by rfl) g_has_at F_has_at.kp b_has_at .nil pass0 (pa_cons (pv 0) (pa_cons pe_str (pa_cons (pv 2) pa_nil)))) (pe_and (pe_call G_has_at (hr.mono (by omega)) (by rfl) g_has_at F_has_at.kp b_has_at .nil pass0 (pa_cons (pv 0) (pa_cons pe_str (pa_cons (pv 3) pa_nil)))) (pe_one (pe_call G_is_apart (hr.mono (by omega)) (by rfl) g_is_apart F_is_apart.kp b_is_apart .nil pass0 (pa_cons (pv 2) (pa_cons (pv 3) pa_nil)))))))))))), ?_⟩
  refine ⟨.str (S a), rfl, a, rfl, hw, ?_⟩
  have asTup : ∀ (p : Addr) (xs : List V), SqT K H p xs → TyB K H (.ref p) "tuple" := fun p xs h => .tup h
  rcases h with ⟨p, i, j, rfl, hT, q⟩ | ⟨bad, q⟩
  · refine ⟨.ref p, rfl, .ref p, "tuple", rfl, asTup _ _ hT, "tuple", "tuple", rfl, rfl, _, rfl, ite2 (fun z => absurd z (by decide)) (fun _ => ?_)⟩
    refine ⟨.ref p, rfl, p, _, rfl, .inr hT, rfl, _, rfl, ite2 (fun z => absurd z two_ok) (fun _ => ?_)⟩
    refine ⟨.ref p, rfl, p, _, rfl, hT, rfl, _, _, rfl, _, _, rfl, rfl, ?_⟩
    refine ⟨.int i, rfl, .int i, rfl, .inl ⟨i, rfl, true, rfl, .int j, rfl, .int j, rfl, .inl ⟨j, rfl, true, rfl, ?_⟩⟩⟩
    refine ⟨.str (S a), rfl, .int i, rfl, a, 97, 98, i, rfl, hl, _, rfl, ite2 (fun h1 => ?_) (fun h1 => ?_)⟩
    · refine ⟨.str (S a), rfl, .int j, rfl, a, 98, 97, j, rfl, hl, _, rfl, ite2 (fun h2 => ?_) (fun h2 => ?_)⟩
      · refine ⟨.int i, rfl, .int j, rfl, i, j, rfl, ?_⟩
        unfold swB at q
        rw [h1, h2, Bool.true_and, Bool.true_and] at q
        exact q
      · unfold swB at q
        rw [h1, Bool.eq_false_iff.mpr h2, Bool.true_and, Bool.false_and] at q
        exact q
    · unfold swB at q
      rw [Bool.eq_false_iff.mpr h1, Bool.false_and] at q
      exact q
  · rcases bad with ⟨T, ty, hT⟩ | ⟨p, xs, rfl, hT, hn⟩ | ⟨p, u, v, rfl, hT, hb⟩
    · refine ⟨x, rfl, x, T, rfl, ty, T, "tuple", rfl, rfl, _, rfl, ite2 (fun _ => ?_) (fun z => absurd ?_ z)⟩
      · exact q
      · rw [decide_eq_false hT]; rfl
    · refine ⟨.ref p, rfl, .ref p, "tuple", rfl, asTup _ _ hT, "tuple", "tuple", rfl, rfl, _, rfl, ite2 (fun z => absurd z (by decide)) (fun _ => ?_)⟩
      refine ⟨.ref p, rfl, p, _, rfl, .inr hT, rfl, _, rfl, ite2 (fun _ => ?_) (fun z => absurd ?_ z)⟩
      · exact q
      · rw [decide_eq_false fun z => hn (by injection z with z; omega)]; rfl
    · refine ⟨.ref p, rfl, .ref p, "tuple", rfl, asTup _ _ hT, "tuple", "tuple", rfl, rfl, _, rfl, ite2 (fun z => absurd z (by decide)) (fun _ => ?_)⟩
      refine ⟨.ref p, rfl, p, _, rfl, .inr hT, rfl, _, rfl, ite2 (fun z => absurd z two_ok) (fun _ => ?_)⟩
      refine ⟨.ref p, rfl, p, _, rfl, hT, rfl, _, _, rfl, _, _, rfl, rfl, ?_⟩
      rcases hb with hu | ⟨⟨i, rfl⟩, hv⟩
      · rcases hu with ⟨b, rfl⟩ | ⟨t, h1, h2⟩
        · exact ⟨.bl b, rfl, .bl b, rfl, .inr (.inl ⟨b, rfl, false, rfl, q⟩)⟩
        · exact ⟨u, rfl, u, rfl, .inr (.inr ⟨t, h1, h2, false, rfl, q⟩)⟩
      · rcases hv with ⟨b, rfl⟩ | ⟨t, h1, h2⟩
        · exact ⟨.int i, rfl, .int i, rfl, .inl ⟨i, rfl, true, rfl, .bl b, rfl, .bl b, rfl, .inr (.inl ⟨b, rfl, false, rfl, q⟩)⟩⟩
        · exact ⟨.int i, rfl, .int i, rfl, .inl ⟨i, rfl, true, rfl, v, rfl, v, rfl, .inr (.inr ⟨t, h1, h2, false, rfl, q⟩)⟩⟩
theorem sqT_same {H H' : Hp} {a : Addr} {xs : List V} (s : Same H H') (h : SqT K H a xs) : SqT K H' a xs := by
  rcases h with (h | ⟨o, h⟩) | h
  · exact .inl (.inl (s _ _ h))
  · exact .inl (.inr ⟨o, s _ _ h⟩)
  · exact .inr h
theorem ixN_nat {n j : Nat} (h : j < n) : ixN n (j : Int) = some j := by
  unfold ixN
  rw [if_pos (by omega), if_pos (by omega)]; simp
/-- the row with the letters exchanged at both places -/
def exch (a : List Nat) (i : Nat) : List Nat := (a.set i (a.getD (i + 1) 0)).set (i + 1) (a.getD i 0)
theorem exch_len (a : List Nat) (i : Nat) : (exch a i).length = a.length := by unfold exch; rw [List.length_set, List.length_set]
def swpd (a : List Nat) (i j : Int) : List Nat := exch (exch a i.toNat) j.toNat
def spSwapped (K : PySem.W.Frag) : Sp := fun vs H Q _ => ∃ (a : List Nat) (p : Addr) (i j : Int), vs = [.str (S a), .ref p] ∧ rowB a = true ∧ SqT K H p [.int i, .int j] ∧ swB a i j = true ∧ ∀ H' : Hp, Same H H' → Q (.str (S (swpd a i j))) H'
theorem at2_lt {a : List Nat} {i : Int} {x y : Nat} (h : at2 a i x y = true) : ∃ n : Nat, i = (n : Int) ∧ n + 1 < a.length ∧ a[n]? = some x ∧ a[n + 1]? = some y := by
  unfold at2 at h
  rw [Bool.and_eq_true, Bool.and_eq_true] at h
  obtain ⟨h0, h1, h2⟩ := h
  have h0 := of_decide_eq_true h0
  refine ⟨i.toNat, by omega, ?_, by simpa using h1, by simpa using h2⟩
  have : a[i.toNat + 1]? = some y := by simpa using h2
  exact (List.getElem?_eq_some_iff.mp this).1
theorem sg_set (a : List Nat) (i c : Nat) : (sg a).set i (V.str (S [c])) = sg (a.set i c) := by unfold sg; rw [List.map_set]
theorem sg_at {a : List Nat} {i : Nat} (h : i < a.length) : (sg a)[i]? = some (V.str (S [a.getD i 0])) := by
  unfold sg
  rw [List.getElem?_map, List.getElem?_eq_getElem h, List.getD_eq_getElem?_getD, List.getElem?_eq_getElem h]; rfl
theorem ok_swapped {f f1 : Addr} {fd fd1 : FuncData} {k : Nat} (F : Fun K "swapped" "swapped" st_swapped f fd) (F_is_swap : Fun K "is_swap" "is_swap" st_is_swap f1 fd1) (G_is_swap : FnOk P w K mg base CX0 3 f1 fd1 ["row", "value"] (spIsSwap K)) (b_is_swap : Binds K fd1 ["row", "value"] []) (g_is_swap : mg "is_swap" = some (.ref f1)) (m_list : mg "list" = none) : FnOk P w K mg base CX0 (k + 4) f fd ["row", "swap"] (spSwapped K) := by
  refine F.ok sc_swapped (fun vs H Q E h => ?_) (fun cdv A outer s H vs Q E hr h => ?_)
  · obtain ⟨a, p, i, j, rfl, _⟩ := h; rfl
  obtain ⟨a, p, i, j, rfl, hw, hT, hs, q⟩ := h
  have hl := row_len hw
  refine ⟨_, (pss_cons (ps_if (pt_not (pt_val (pe_call G_is_swap (hr.mono (by omega)) (by rfl) g_is_swap F_is_swap.kp b_is_swap .nil pass0 (pa_cons (pv 0) (pa_cons (pv 1) pa_nil))))) (pss_one ps_never) pss_nil)
    (pss_cons (ps_set (i := 2) sc_swapped.nd rfl (Or.inl rfl) (pe_callTy (call_list_tx rfl) (by rfl) m_list (by decide +kernel) (pa_cons (pv 0) pa_nil)))
    (pss_cons (ps_for PassesOwn.never rfl (pi_tup (pv 1)) (pg_name (i := 3) sc_swapped.nd rfl (Or.inl rfl)) (pss_one (ps_asg (peq_tup (pa_cons (pe_ix ix_list (pv 2) (pe_op op_add (pv 3) pe_int) (fun _ _ => rfl)) (pa_cons (pe_ix ix_list (pv 2) (pv 3) (fun _ _ => rfl)) pa_nil))) (pg_tup rfl (pgs_cons (pg_sub (pv 2) (pv 3) setq_list) (pgs_cons (pg_sub (pv 2) (pe_op op_add (pv 3) pe_int) setq_list) pgs_nil))))))
    (pss_one (ps_ret (pe_join pe_str (pv 2))))))), ?_⟩
  refine ⟨.str (S a), rfl, .ref p, rfl, a, .ref p, rfl, hw, .inl ⟨p, i, j, rfl, hT, true, by rw [hs], ?_⟩⟩
  have hs' := hs
  unfold swB at hs'
  rw [Bool.and_eq_true, Bool.and_eq_true] at hs'
  obtain ⟨n, hn, n1, _⟩ := at2_lt hs'.1
  obtain ⟨m, hm, m1, _⟩ := at2_lt hs'.2.1
  subst hn hm
  refine ⟨.str (S a), rfl, a, rfl, by omega, fun D nD => ?_⟩
  have s1 : Same H (upd H D (.lst (sg a))) := same_new nD
  have e1 : (upd H D (.lst (sg a))) D = some (.lst (sg a)) := upd_same
  generalize upd H D (.lst (sg a)) = H1 at s1 e1 ⊢
  have one : ∀ (b : List Nat) (i : Nat) (H2 : Hp), b.length = a.length → i + 1 < a.length → H2 D = some (.lst (sg b)) → (sg b)[i]? = some (V.str (S [b.getD i 0])) ∧ (sg b)[i + 1]? = some (V.str (S [b.getD (i + 1) 0])) := fun b i H2 hb hi e => ⟨sg_at (by omega), sg_at (by omega)⟩
  refine ⟨.ref p, rfl, p, rfl, ⟨_, sqT_same s1 hT⟩, for_tup (xs := [.int (n : Int), .int (m : Int)]) (fun t σ H' => Same H H' ∧ ∃ y, σ = [some (.str (S a)), some (.ref p), some (.ref D), y] ∧ H' D = some (.lst (sg (if t = 0 then a else if t = 1 then exch a n else exch (exch a n) m))))
    ⟨s1, none, rfl, e1⟩ (fun t σ H' _ h => sqT_same h.1 hT) (fun t x σ H' hx h => ?_) (fun σ H' h => ?_)⟩
  · obtain ⟨s2, y, rfl, e2⟩ := h
    obtain ⟨b, c, hb, hlen, hc, hbc⟩ : ∃ (b : List Nat) (c : Nat), (if t = 0 then a else if t = 1 then exch a n else exch (exch a n) m) = b ∧ b.length = a.length ∧ (x = .int (c : Int) ∧ c + 1 < a.length) ∧ (if t + 1 = 0 then a else if t + 1 = 1 then exch a n else exch (exch a n) m) = exch b c := by
      have ht : t < 2 := (List.getElem?_eq_some_iff.mp hx).1
      have : t = 0 ∨ t = 1 := by omega
      rcases this with rfl | rfl
      · exact ⟨a, n, rfl, rfl, ⟨(Option.some.inj hx).symm, n1⟩, rfl⟩
      · exact ⟨exch a n, m, rfl, exch_len a n, ⟨(Option.some.inj hx).symm, m1⟩, rfl⟩
    rw [hb] at e2
    rw [hbc]
    obtain ⟨rfl, hc⟩ := hc
    obtain ⟨g0, g1⟩ := one b c H' hlen hc e2
    have ec : ((c : Int) + 1) = ((c + 1 : Nat) : Int) := by omega
    refine ⟨.ref D, rfl, .int (c : Int), rfl, (c : Int), 1, rfl, rfl, D, _, (c : Int) + 1, .str (S [b.getD (c + 1) 0]), rfl, rfl, SqL.of e2, by rw [ec]; exact atI_nat g1, .ref D, rfl, .int (c : Int), rfl, D, _, (c : Int), .str (S [b.getD c 0]), rfl, rfl, SqL.of e2, atI_nat g0, (by show 2 ≤ sizeLine; decide), fun T H3 nT _ hH3 => ?_⟩
    have s3 : Same H' H3 := by rw [hH3]; exact same_new nT
    have eT : H3 T = some (.tup [.str (S [b.getD (c + 1) 0]), .str (S [b.getD c 0])]) := by rw [hH3]; exact upd_same
    have e3 := s3 _ _ e2
    clear hH3
    refine ⟨T, _, rfl, SqT.of eT, rfl, _, _, rfl, .ref D, rfl, .int (c : Int), rfl, D, _, (c : Int), c, rfl, rfl, e3, ixN_nat (by rw [sg_length]; omega), fun H4 hH4 => ?_⟩
    have s4 : Same H H4 := by rw [hH4]; exact Same.mut (s2.trans s3) nD
    have e4 : H4 D = some (.lst (sg (b.set c (b.getD (c + 1) 0)))) := by rw [hH4, upd_same, sg_set]
    clear hH4
    refine ⟨_, _, rfl, .ref D, rfl, .int (c : Int), rfl, (c : Int), 1, rfl, rfl, D, _, (c : Int) + 1, c + 1, rfl, rfl, e4, by rw [ec]; exact ixN_nat (by rw [sg_length, List.length_set]; omega), fun H5 hH5 => ?_⟩
    have s5 : Same H H5 := by rw [hH5]; exact Same.mut s4 nD
    have e5 : H5 D = some (.lst (sg (exch b c))) := by rw [hH5, upd_same, sg_set]; rfl
    exact ⟨rfl, s5, _, rfl, e5⟩
  · obtain ⟨s2, y, rfl, e2⟩ := h
    have hb : sg (exch (exch a n) m) = (((exch (exch a n) m).map fun c => [c]).map S).map V.str := by unfold sg; rw [List.map_map, List.map_map]; rfl
    have h1 : ∀ p ∈ ((exch (exch a n) m).map fun c => [c]), p.length = 1 := fun p hp => by
      obtain ⟨c, _, rfl⟩ := List.mem_map.mp hp; rfl
    refine ⟨⟨_, rfl⟩, .ref D, rfl, S [], D, ((exch (exch a n) m).map fun c => [c]).map S, rfl, rfl, .inl (SqL.of (by rw [e2]; exact congrArg (fun z => some (HO.lst z)) hb)), ?_, ?_⟩
    · rw [join_sum1 h1]; show ((exch (exch a n) m).map fun c => [c]).length + (((exch (exch a n) m).map fun c => [c]).map S).length * 0 ≤ 16777216; rw [List.length_map, exch_len, exch_len]; omega
    rw [SX.join_S, joinL_nil, flat1]
    exact q _ s2

end
end K14
namespace K14
open PySem PySem.Spec PyProof.Rows L2 Vx
section
variable {P : Program} {w : World} {K : PySem.W.Frag} {mg : Str → Option Value} {base : Heap}
/-- how many a are among the first i letters -/
def pc (a : List Nat) (i : Nat) : Int := ((a.take i).count 97 : Nat)
def preL (a : List Nat) (n : Nat) : List Int := (List.range n).map (pc a)
theorem preL_succ (a : List Nat) (n : Nat) : preL a (n + 1) = preL a n ++ [pc a n] := by unfold preL; rw [List.range_succ, List.map_append]; rfl
theorem preL_len (a : List Nat) (n : Nat) : (preL a n).length = n := by unfold preL; rw [List.length_map, List.length_range]
theorem preL_get {a : List Nat} {n i : Nat} (h : i < n) : (preL a n)[i]? = some (pc a i) := by
  unfold preL; rw [List.getElem?_map, List.getElem?_range h]; rfl
theorem pc_zero (a : List Nat) : pc a 0 = 0 := rfl
theorem pc_succ {a : List Nat} {i c : Nat} (h : a[i]? = some c) : pc a (i + 1) = pc a i + (if c = 97 then 1 else 0) := by
  unfold pc
  rw [List.take_add_one, h, List.count_append]
  by_cases hc : c = 97
  · subst hc; rw [if_pos rfl]; rfl
  · rw [if_neg hc]
    show (((a.take i).count 97 + [c].count 97 : Nat) : Int) = _
    rw [List.count_eq_zero.mpr (fun z => hc (List.mem_singleton.mp z).symm)]; omega
theorem pc_lo (a : List Nat) (i : Nat) : 0 ≤ pc a i := Int.natCast_nonneg _
theorem pc_hi (a : List Nat) (i : Nat) : pc a i ≤ a.length := by
  unfold pc
  have h1 : (a.take i).count 97 ≤ (a.take i).length := List.count_le_length
  have h2 : (a.take i).length ≤ a.length := by rw [List.length_take]; omega
  omega
/-- the pairs whose b is among the first i letters -/
def prs (a : List Nat) : Nat → Int
  | 0 => 0
  | i + 1 => prs a i + (if a[i]? = some 98 then pc a i else 0)

end
end K14
namespace K14
open PySem PySem.Spec PyProof.Rows L2 Vx
section
variable {P : Program} {w : World} {K : PySem.W.Frag} {mg : Str → Option Value} {base : Heap}
def spPairsB : Sp := fun vs H Q _ => ∃ a : List Nat, vs = [.str (S a)] ∧ a.length ≤ 1000 ∧ ∀ H' : Hp, Same H H' → Q (.int (prs a a.length)) H'
theorem ok_law_pairs {f : Addr} {fd : FuncData} {k : Nat} (F : Fun K "_law_pairs" "_law_pairs" st_law_pairs f fd) (m_int : mg "int" = none) : FnOk P w K mg base CX0 (k + 1) f fd ["letters"] spPairsB := by
  refine F.ok sc_law_pairs (fun vs H Q E h => ?_) (fun cdv A outer s H vs Q E hr h => ?_)
  · obtain ⟨a, rfl, _⟩ := h; rfl
  obtain ⟨a, rfl, hl, q⟩ := h
  refine ⟨_, (pss_cons (ps_asg (peq_tup (pa_cons pe_int (pa_cons pe_int pa_nil))) (pg_tup rfl (pgs_cons (pg_name (i := 1) sc_law_pairs.nd rfl (Or.inl rfl)) (pgs_cons (pg_name (i := 2) sc_law_pairs.nd rfl (Or.inl rfl)) pgs_nil))))
    (pss_cons (ps_for PassesOwn.never rfl (pi_str (pv 0)) (pg_name (i := 3) sc_law_pairs.nd rfl (Or.inl rfl)) (pss_cons (ps_set (i := 2) sc_law_pairs.nd rfl (Or.inl rfl) (pe_op op_add (pv 2) (pe_callTy call_int1 (by rfl) m_int (by decide +kernel) (pa_cons (pe_cmpR op_eq (pv 3) pe_str (nomark _)) pa_nil))))
    (pss_one (ps_set (i := 1) sc_law_pairs.nd rfl (Or.inl rfl) (pe_op op_add (pv 1) (pe_op op_mulW (pv 2) (pe_callTy call_int1 (by rfl) m_int (by decide +kernel) (pa_cons (pe_cmpR op_eq (pv 3) pe_str (nomark _)) pa_nil))))))))
    (pss_one (ps_ret (pv 1))))), ?_⟩
  refine ⟨(by show 2 ≤ sizeLine; decide), fun T H0 nT _ hH0 => ?_⟩
  have eT : H0 T = some (.tup [.int 0, .int 0]) := by rw [hH0]; exact upd_same
  refine ⟨T, _, rfl, SqT.of eT, rfl, _, _, rfl, _, _, rfl, rfl, ?_⟩
  have s0 : Same H H0 := by rw [hH0]; exact same_new nT
  clear hH0
  refine ⟨.str (S a), rfl, S a, rfl, for_it (walk_txt a) (fun i σ H' => H' = H0 ∧ ∃ y, σ = [some (.str (S a)), some (.int (prs a i)), some (.int (pc a i)), y])
    ⟨rfl, none, rfl⟩ (fun _ _ _ _ _ => trivial) (fun i x σ H1 H2 hi h hx => ?_) (fun σ H' h => ?_)⟩
  · obtain ⟨rfl, c, rfl, hc⟩ := hx
    obtain ⟨rfl, y, rfl⟩ := h
    have hm : pc a i + (if decide (V.str (S [c]) = V.str (S [97])) = true then 1 else 0) = pc a (i + 1) := by
      rw [pc_succ hc]
      by_cases h : c = 97
      · rw [h, decide_eq_true rfl]; rfl
      · rw [if_neg h, decide_eq_false fun z => h (one_inj z)]; rfl
    have b1 : (pc a (i + 1)).natAbs < 2 ^ 20 := by
      have := pc_lo a (i + 1)
      have := pc_hi a (i + 1)
      omega
    refine ⟨.int (pc a i), rfl, .str (S [c]), rfl, rfl, .inr ⟨_, rfl, _, _, rfl, rfl, ?_⟩⟩
    refine ⟨.int (prs a i), rfl, .int (pc a (i + 1)), by rw [← hm]; rfl, .str (S [c]), rfl, rfl, .inr ⟨_, rfl, pc a (i + 1), _, rfl, rfl, ?_, _, _, rfl, rfl, ?_⟩⟩
    · refine wide_mul (b := 2) b1 ?_ (by decide) (by decide) (by decide)
      split <;> decide
    · refine ⟨rfl, some (.str (S [c])), ?_⟩
      have hf : prs a i + pc a (i + 1) * (if decide (V.str (S [c]) = V.str (S [98])) = true then 1 else 0) = prs a (i + 1) := by
        rw [prs, hc]
        by_cases h : c = 98
        · subst h
          rw [if_pos rfl, pc_succ hc, decide_eq_true rfl]; simp
        · rw [if_neg fun z => h (Option.some.inj z), decide_eq_false fun z => h (one_inj z)]; simp
      rw [← hf, ← hm]; rfl
  · obtain ⟨rfl, y, rfl⟩ := h
    exact ⟨_, rfl, q _ s0⟩
def spPrefixB : Sp := fun vs H Q _ => ∃ a : List Nat, vs = [.str (S a)] ∧ a.length ≤ 1000 ∧ ∀ (p : Addr) (H' : Hp), Same H H' → H p = none → H' p = some (.lst ((preL a (a.length + 1)).map V.int)) → Q (.ref p) H'
theorem ok_law_prefix {f : Addr} {fd : FuncData} {k : Nat} (F : Fun K "_law_prefix" "_law_prefix" st_law_prefix f fd) (m_len : mg "len" = none) (m_range : mg "range" = none) : FnOk P w K mg base CX0 (k + 1) f fd ["letters"] spPrefixB := by
  refine F.ok sc_law_prefix (fun vs H Q E h => ?_) (fun cdv A outer s H vs Q E hr h => ?_)
  · obtain ⟨a, rfl, _⟩ := h; rfl
  obtain ⟨a, rfl, hl, q⟩ := h
  refine ⟨_, (pss_one (ps_ret (pe_lc (own := [("size", 1)]) rfl sc_law_prefix.nd (pi_range1 rfl m_range (pa_cons (pe_op op_add (pe_callB call_len_tx (by rfl) m_len PySem.boot_len (pa_cons (pv 0) pa_nil)) pe_int) pa_nil)) (blkOk_by (own := [("size", 1)]) (N := N_law_prefix) (sc := defScope st_law_prefix) (by decide +kernel)) (fun _ _ _ _ _ => (pg_name (i := 1) sc_law_prefix.nd rfl (Or.inl rfl))) (fun _ _ _ _ _ => pts_nil) (fun _ _ _ _ _ => (pe_m1 PySem.F.slot_str_count PySem.F.type_str_count mt_count_tx (pe_slice sl_tx (pv 0) po_none (po_some (pv 1))) pe_str))))), ?_⟩
  refine ⟨.str (S a), rfl, a, rfl, by omega, _, _, rfl, rfl, _, rfl, by omega, by omega, fun D nD => ?_⟩
  refine lc_range (lo := 0) (n := ((a.length : Int) + 1).toNat) (fun i H' => Same H H' ∧ H' D = some (.lst ((preL a i).map V.int))) ⟨same_new nD, upd_same⟩ (fun i H1 hi h => ?_) (fun H1 h => ?_)
  · obtain ⟨s1, e1⟩ := h
    refine ⟨rfl, .str (S a), rfl, .int (0 + (i : Int)), rfl, 0 + (i : Int), rfl, a, rfl, by omega, ⟨_, rfl⟩, cutL a none (some (0 + (i : Int))), 97, rfl, rfl, _, e1, by rw [List.length_map, preL_len]; unfold sizeLine; omega, Same.mut s1 nD, ?_⟩
    rw [upd_same, preL_succ, List.map_append, show (0 : Int) + (i : Int) = ((i : Nat) : Int) by omega, cutL_to]; rfl
  · obtain ⟨s1, e1⟩ := h
    rw [show ((a.length : Int) + 1).toNat = a.length + 1 by omega] at e1
    exact q D H1 s1 nD e1
def spCountsB : Sp := fun vs H Q _ => ∃ a : List Nat, vs = [.str (S a)] ∧ a.length ≤ 1000 ∧ ∀ (T : Addr) (H' : Hp), Same H H' → H T = none → H' T = some (.tup [.int (a.count 97 : Nat), .int (a.count 98 : Nat), .int (prs a a.length)]) → Q (.ref T) H'
theorem ok_law_counts {f f1 : Addr} {fd fd1 : FuncData} {k : Nat} (F : Fun K "_law_counts" "_law_counts" st_law_counts f fd) (F_law_pairs : Fun K "_law_pairs" "_law_pairs" st_law_pairs f1 fd1) (G_law_pairs : FnOk P w K mg base CX0 1 f1 fd1 ["letters"] spPairsB) (b_law_pairs : Binds K fd1 ["letters"] []) (g_law_pairs : mg "_law_pairs" = some (.ref f1)) : FnOk P w K mg base CX0 (k + 2) f fd ["letters"] spCountsB := by
  refine F.ok sc_law_counts (fun vs H Q E h => ?_) (fun cdv A outer s H vs Q E hr h => ?_)
  · obtain ⟨a, rfl, _⟩ := h; rfl
  obtain ⟨a, rfl, hl, q⟩ := h
  refine ⟨_, (pss_one (ps_ret (peq_tup (pa_cons (pe_m1 PySem.F.slot_str_count PySem.F.type_str_count mt_count_tx (pv 0) pe_str) (pa_cons (pe_m1 PySem.F.slot_str_count PySem.F.type_str_count mt_count_tx (pv 0) pe_str) (pa_cons (pe_call G_law_pairs (hr.mono (by omega)) (by rfl) g_law_pairs F_law_pairs.kp b_law_pairs .nil pass0 (pa_cons (pv 0) pa_nil)) pa_nil)))))), ?_⟩
  refine ⟨.str (S a), rfl, ⟨_, rfl⟩, a, 97, rfl, rfl, .str (S a), rfl, ⟨_, rfl⟩, a, 98, rfl, rfl, .str (S a), rfl, a, rfl, hl, fun H0 s0 => ⟨(by show 3 ≤ sizeLine; decide), fun T H1 nT _ hH1 => ?_⟩⟩
  have nT0 : H T = none := by
    cases h : H T with
    | none => rfl
    | some o => rw [s0 _ _ h] at nT; cases nT
  exact q T H1 (s0.trans (by rw [hH1]; exact same_new nT)) nT0 (by rw [hH1]; exact upd_same)
def spAfter (K : PySem.W.Frag) : Sp := fun vs H Q _ => ∃ (a : List Nat) (p : Addr) (n m : Nat), vs = [.str (S a), .ref p] ∧ SqT K H p [.int (n : Int), .int (m : Int)] ∧ a.length ≤ 1000 ∧ n + 1 < a.length ∧ m + 1 < a.length ∧ Q (.str (S (exch (exch a n) m))) H
theorem exch_cut {a : List Nat} {i : Nat} (h : i + 1 < a.length) : a.take i ++ ((a.drop i).take 2).reverse ++ a.drop (i + 2) = exch a i := by
  have d0 : (a.drop i)[0]? = some (a.getD i 0) := by rw [List.getElem?_drop, Nat.add_zero, List.getElem?_eq_getElem (by omega), List.getD_eq_getElem?_getD, List.getElem?_eq_getElem (by omega)]; rfl
  have d1 : (a.drop i)[1]? = some (a.getD (i + 1) 0) := by rw [List.getElem?_drop, List.getElem?_eq_getElem h, List.getD_eq_getElem?_getD, List.getElem?_eq_getElem h]; rfl
  rw [take2 d0 d1]
  unfold exch
  generalize a.getD i 0 = x
  generalize a.getD (i + 1) 0 = y
  clear d0 d1
  refine List.ext_getElem? fun j => ?_
  have lt : (a.take i).length = i := by rw [List.length_take]; omega
  show (a.take i ++ [y, x] ++ a.drop (i + 2))[j]? = _
  rw [List.getElem?_set, List.getElem?_set, List.length_set]
  by_cases h1 : j < i
  · rw [if_neg (by omega), if_neg (by omega), List.getElem?_append_left (by rw [List.length_append, lt]; show j < i + 2; omega), List.getElem?_append_left (by omega), List.getElem?_take_of_lt h1]
  · by_cases h2 : j = i
    · subst h2
      rw [if_neg (by omega), if_pos rfl, if_pos (by omega), List.getElem?_append_left (by rw [List.length_append, lt]; show j < j + 2; omega), List.getElem?_append_right (by omega), lt, Nat.sub_self]; rfl
    · by_cases h3 : j = i + 1
      · subst h3
        rw [if_pos rfl, if_pos (by omega), List.getElem?_append_left (by rw [List.length_append, lt]; show i + 1 < i + 2; omega), List.getElem?_append_right (by omega), lt, show i + 1 - i = 1 by omega]; rfl
      · rw [if_neg (by omega), if_neg (by omega), List.getElem?_append_right (by rw [List.length_append, lt]; show i + 2 ≤ j; omega), List.length_append, lt, List.getElem?_drop]
        congr 1
        show i + 2 + (j - (i + 2)) = j
        omega
theorem ok_law_after {f : Addr} {fd : FuncData} {k : Nat} (F : Fun K "_law_after" "_law_after" st_law_after f fd) : FnOk P w K mg base CX0 (k + 1) f fd ["letters", "swap"] (spAfter K) := by
  refine F.ok sc_law_after (fun vs H Q E h => ?_) (fun cdv A outer s H vs Q E hr h => ?_)
  · obtain ⟨a, p, n, m, rfl, _⟩ := h; rfl
  obtain ⟨a, p, n, m, rfl, hT, hl, n1, m1, q⟩ := h
  refine ⟨_, (pss_cons (ps_for PassesOwn.never rfl (pi_tup (pv 1)) (pg_name (i := 2) sc_law_after.nd rfl (Or.inl rfl)) (pss_cons (ps_set (i := 3) sc_law_after.nd rfl (Or.inl rfl) (pe_slice sl_tx (pv 0) (po_some (pv 2)) (po_some (pe_op op_add (pv 2) pe_int))))
    (pss_one (ps_set (i := 0) sc_law_after.nd rfl (Or.inl rfl) (pe_op op_add_tx (pe_op op_add_tx (pe_slice sl_tx (pv 0) po_none (po_some (pv 2))) (pe_revS (pv 3))) (pe_slice sl_tx (pv 0) (po_some (pe_op op_add (pv 2) pe_int)) po_none))))))
    (pss_one (ps_ret (pv 0)))), ?_⟩
  refine ⟨.ref p, rfl, p, rfl, ⟨_, hT⟩, for_tup (xs := [.int (n : Int), .int (m : Int)]) (fun t σ H' => H' = H ∧ ∃ y z, σ = [some (.str (S (if t = 0 then a else if t = 1 then exch a n else exch (exch a n) m))), some (.ref p), y, z])
    ⟨rfl, none, none, rfl⟩ (fun t σ H' _ h => by rw [h.1]; exact hT) (fun t x σ H' hx h => ?_) (fun σ H' h => ?_)⟩
  · obtain ⟨rfl, y, z, rfl⟩ := h
    obtain ⟨b, c, hb, hlen, ⟨rfl, hc⟩, hbc⟩ : ∃ (b : List Nat) (c : Nat), (if t = 0 then a else if t = 1 then exch a n else exch (exch a n) m) = b ∧ b.length = a.length ∧ (x = .int (c : Int) ∧ c + 1 < a.length) ∧ (if t + 1 = 0 then a else if t + 1 = 1 then exch a n else exch (exch a n) m) = exch b c := by
      have ht : t < 2 := (List.getElem?_eq_some_iff.mp hx).1
      have : t = 0 ∨ t = 1 := by omega
      rcases this with rfl | rfl
      · exact ⟨a, n, rfl, rfl, ⟨(Option.some.inj hx).symm, n1⟩, rfl⟩
      · exact ⟨exch a n, m, rfl, exch_len a n, ⟨(Option.some.inj hx).symm, m1⟩, rfl⟩
    rw [hb, hbc]
    have hbl : c + 1 < b.length := by omega
    refine ⟨.str (S b), rfl, .int (c : Int), rfl, (c : Int), rfl, .int (c : Int), rfl, (c : Int), 2, rfl, rfl, (c : Int) + 2, rfl, b, rfl, by omega, ?_⟩
    rw [cutL_two b c hbl]
    refine ⟨.str (S b), rfl, .int (c : Int), rfl, (c : Int), rfl, b, rfl, by omega, .str (S ((b.drop c).take 2)), rfl, (b.drop c).take 2, rfl, by rw [List.length_take]; unfold sizeLine; omega, b.take c, ((b.drop c).take 2).reverse, ?_, rfl, ?_, .str (S b), rfl, .int (c : Int), rfl, (c : Int), 2, rfl, rfl, (c : Int) + 2, rfl, b, rfl, by omega, b.take c ++ ((b.drop c).take 2).reverse, b.drop (c + 2), rfl, ?_, ?_, ?_⟩
    · rw [cutL_to]
    · rw [List.length_take, List.length_reverse, List.length_take, List.length_drop]; omega
    · rw [show (c : Int) + 2 = ((c + 2 : Nat) : Int) by omega, cutL_from]
    · rw [List.length_append, List.length_take, List.length_reverse, List.length_take, List.length_drop, List.length_drop]; omega
    rw [exch_cut hbl]
    exact ⟨rfl, _, _, rfl⟩
  · obtain ⟨rfl, y, z, rfl⟩ := h
    exact ⟨_, rfl, q⟩

end
end K14
namespace K14
open PySem PySem.Spec PyProof.Rows L2 Vx
section
variable {P : Program} {w : World} {K : PySem.W.Frag} {mg : Str → Option Value} {base : Heap}
theorem cutL_two' (a : List Nat) (i : Nat) (h : i ≤ a.length) : cutL a (some (i : Int)) (some ((i : Int) + 2)) = (a.drop i).take 2 := by
  unfold cutL cutS
  rw [show (i : Int) + 2 = ((i + 2 : Nat) : Int) by omega]
  rw [show HT.sIx (S a).length 0 (some (i : Int)) = min i (S a).length from HT.sIx_nat .., show HT.sIx (S a).length (S a).length (some ((i + 2 : Nat) : Int)) = min (i + 2) (S a).length from HT.sIx_nat .., SX.S_len]
  show (a.drop (min i a.length)).take (min (i + 2) a.length - min i a.length) = _
  rw [Nat.min_eq_left h]
  by_cases h2 : i + 2 ≤ a.length
  · rw [Nat.min_eq_left h2]; congr 1; omega
  · rw [Nat.min_eq_right (by omega), List.take_of_length_le (by rw [List.length_drop]; exact Nat.le_refl _), List.take_of_length_le (by rw [List.length_drop]; omega)]
theorem two_eq (a : List Nat) (i x y : Nat) : decide (V.str (S ((a.drop i).take 2)) = V.str (S [x, y])) = at2 a (i : Int) x y := by
  have d0 : (a.drop i)[0]? = a[i]? := by rw [List.getElem?_drop, Nat.add_zero]
  have d1 : (a.drop i)[1]? = a[i + 1]? := by rw [List.getElem?_drop]
  unfold at2
  rw [decide_eq_true (show (0 : Int) ≤ (i : Int) by omega), Bool.true_and, Int.toNat_natCast, Bool.eq_iff_iff]
  simp only [decide_eq_true_eq, Bool.and_eq_true, beq_iff_eq]
  constructor
  · intro h
    have h' : (a.drop i).take 2 = [x, y] := congrArg (fun x : Str => x.cps.toList) (V.str.inj h)
    rw [← d0, ← d1]
    have t0 : ((a.drop i).take 2)[0]? = (a.drop i)[0]? := List.getElem?_take_of_lt (by decide)
    have t1 : ((a.drop i).take 2)[1]? = (a.drop i)[1]? := List.getElem?_take_of_lt (by decide)
    rw [← t0, ← t1, h']
    exact ⟨rfl, rfl⟩
  · rintro ⟨h0, h1⟩
    rw [take2 (d0.trans h0) (d1.trans h1)]
theorem ne_of_none' {H : Hp} {a b : Addr} {o : HO} (h : H a = none) (e : H b = some o) : a ≠ b := fun z => by rw [z, e] at h; cases h
/-- the places of two neighbours -/
def spots (a : List Nat) (x y n : Nat) : List Nat := (List.range n).filter fun i => at2 a (i : Int) x y
theorem spots_succ (a : List Nat) (x y n : Nat) : spots a x y (n + 1) = spots a x y n ++ (if at2 a (n : Int) x y = true then [n] else []) := by
  unfold spots
  rw [List.range_succ, List.filter_append]
  by_cases h : at2 a (n : Int) x y = true
  · rw [if_pos h]; simp [h]
  · rw [if_neg h]; simp [h]
theorem spots_le (a : List Nat) (x y n : Nat) : (spots a x y n).length ≤ n := by
  unfold spots
  have := List.length_filter_le (fun i : Nat => at2 a (i : Int) x y) (List.range n)
  rw [List.length_range] at this; exact this
/-- second places that go with the first place i -/
def mates (rs : List Nat) (i : Nat) : List (Nat × Nat) := (rs.filter fun (j : Nat) => !(decide ((j : Int) = (i : Int) - 1) || decide ((j : Int) = (i : Int) + 1))).map fun j => (i, j)
def allB (a : List Nat) : List (Nat × Nat) := (spots a 97 98 a.length).flatMap (mates (spots a 98 97 a.length))
/-- tuples of two ints, one a pair -/
def Tups (H : Hp) (ts : List Addr) (ps : List (Nat × Nat)) : Prop := ts.length = ps.length ∧ ∀ (k : Nat) (t : Addr) (p : Nat × Nat), ts[k]? = some t → ps[k]? = some p → H t = some (.tup [.int (p.1 : Int), .int (p.2 : Int)])
theorem Tups.nil {H : Hp} : Tups H [] [] := ⟨rfl, fun k t p h => by simp at h⟩
theorem Tups.same {H H' : Hp} {ts : List Addr} {ps : List (Nat × Nat)} (s : Same H H') (h : Tups H ts ps) : Tups H' ts ps := ⟨h.1, fun k t p a b => s _ _ (h.2 k t p a b)⟩
theorem Tups.snoc {H : Hp} {ts : List Addr} {ps : List (Nat × Nat)} {t : Addr} {p : Nat × Nat} (h : Tups H ts ps) (e : H t = some (.tup [.int (p.1 : Int), .int (p.2 : Int)])) : Tups H (ts ++ [t]) (ps ++ [p]) := by
  refine ⟨by rw [List.length_append, List.length_append, h.1]; rfl, fun k u q h1 h2 => ?_⟩
  by_cases hk : k < ts.length
  · rw [List.getElem?_append_left hk] at h1
    rw [List.getElem?_append_left (by rw [← h.1]; exact hk)] at h2
    exact h.2 k u q h1 h2
  · rw [List.getElem?_append_right (by omega)] at h1
    rw [List.getElem?_append_right (by rw [← h.1]; omega)] at h2
    have hl := h.1
    have k0 : k - ts.length = 0 := by
      have := (List.getElem?_eq_some_iff.mp h1).1
      simp at this; omega
    rw [k0] at h1
    rw [← hl, k0] at h2
    cases h1; cases h2
    exact e
theorem Tups.app {H : Hp} {ts us : List Addr} {ps qs : List (Nat × Nat)} (h : Tups H ts ps) (g : Tups H us qs) : Tups H (ts ++ us) (ps ++ qs) := by
  refine ⟨by rw [List.length_append, List.length_append, h.1, g.1], fun k u q h1 h2 => ?_⟩
  by_cases hk : k < ts.length
  · rw [List.getElem?_append_left hk] at h1
    rw [List.getElem?_append_left (by rw [← h.1]; exact hk)] at h2
    exact h.2 k u q h1 h2
  · rw [List.getElem?_append_right (by omega)] at h1
    rw [List.getElem?_append_right (by rw [← h.1]; omega)] at h2
    rw [← h.1] at h2
    exact g.2 _ u q h1 h2
def spAll : Sp := fun vs H Q _ => ∃ a : List Nat, vs = [.str (S a)] ∧ a.length ≤ 300 ∧ ∀ (D : Addr) (ts : List Addr) (H' : Hp), Same H H' → H D = none → H' D = some (.lst (ts.map V.ref)) → Tups H' ts (allB a) → (∀ t ∈ ts, H t = none) → Q (.ref D) H'
theorem mates_le (rs : List Nat) (i : Nat) : (mates rs i).length ≤ rs.length := by
  unfold mates
  rw [List.length_map]
  exact List.length_filter_le _ _
theorem ok_law_all {f : Addr} {fd : FuncData} {k : Nat} (F : Fun K "_law_all" "_law_all" st_law_all f fd) (m_len : mg "len" = none) (m_range : mg "range" = none) : FnOk P w K mg base CX0 (k + 1) f fd ["letters"] spAll := by
  refine F.ok sc_law_all (fun vs H Q E h => ?_) (fun cdv A outer s H vs Q E hr h => ?_)
  · obtain ⟨a, rfl, _⟩ := h; rfl
  obtain ⟨a, rfl, hl, q⟩ := h
  refine ⟨_, (pss_cons (ps_setLc (i := 1) (own := [("at", 5)]) rfl sc_law_all.nd rfl rfl (sw_true rfl rfl rfl (by decide +kernel)) (pi_range1 rfl m_range (pa_cons (pe_callB call_len_tx (by rfl) m_len PySem.boot_len (pa_cons (pv 0) pa_nil)) pa_nil)) (blkOk_by (own := [("at", 5)]) (N := N_law_all) (sc := defScope st_law_all) (by decide +kernel)) (fun _ _ _ _ _ => (pg_name (i := 5) sc_law_all.nd rfl (Or.inl rfl))) (fun _ _ _ _ _ => (pts_one (pt_cmpR op_eq (pe_slice sl_tx (pv 0) (po_some (pv 5)) (po_some (pe_op op_add (pv 5) pe_int))) pe_str (nomark _)))) (fun _ _ _ _ _ => (pv 5)))
    (pss_cons (ps_setLc (i := 2) (own := [("at", 5)]) rfl sc_law_all.nd rfl rfl (sw_true rfl rfl rfl (by decide +kernel)) (pi_range1 rfl m_range (pa_cons (pe_callB call_len_tx (by rfl) m_len PySem.boot_len (pa_cons (pv 0) pa_nil)) pa_nil)) (blkOk_by (own := [("at", 5)]) (N := N_law_all) (sc := defScope st_law_all) (by decide +kernel)) (fun _ _ _ _ _ => (pg_name (i := 5) sc_law_all.nd rfl (Or.inl rfl))) (fun _ _ _ _ _ => (pts_one (pt_cmpR op_eq (pe_slice sl_tx (pv 0) (po_some (pv 5)) (po_some (pe_op op_add (pv 5) pe_int))) pe_str (nomark _)))) (fun _ _ _ _ _ => (pv 5)))
    (pss_cons (ps_set (i := 3) sc_law_all.nd rfl (Or.inl rfl) (peq_lst pa_nil))
    (pss_cons (ps_for PassesOwn.never rfl (pi_list (pv 1)) (pg_name (i := 4) sc_law_all.nd rfl (Or.inr rfl)) (pss_one (ps_expr (pe_bm PySem.F.plainAttrs_list PySem.F.slot_list_extend PySem.F.type_list_extend mtq_extend (pv 3) (pa_cons (pe_lc (own := [("two", 6)]) rfl sc_law_all.nd (pi_list (pv 2)) (blkOk_by (own := [("two", 6)]) (N := N_law_all) (sc := defScope st_law_all) (by decide +kernel)) (fun _ _ _ _ _ => (pg_name (i := 6) sc_law_all.nd rfl (Or.inl rfl))) (fun _ _ _ _ _ => (pts_one (pt_cmpR (op_notInK K rfl) (pv 6) (peq_lst (pa_cons (pe_op op_sub (pv 4) pe_int) (pa_cons (pe_op op_add (pv 4) pe_int) pa_nil))) rfl))) (fun _ _ _ _ _ => (peq_tup (pa_cons (pv 4) (pa_cons (pv 6) pa_nil))))) pa_nil)))))
    (pss_one (ps_ret (pv 3))))))), ?_⟩
  refine ⟨.str (S a), rfl, a, rfl, by omega, (a.length : Int), rfl, by omega, by omega, fun D1 nD1 => ?_⟩
  refine lc_range (lo := 0) (n := ((a.length : Int)).toNat) (fun i H' => Same H H' ∧ H' D1 = some (.lst ((spots a 97 98 i).map fun (o : Nat) => V.int (o : Int)))) ⟨same_new nD1, upd_same⟩ (fun i H1 hi h => ?_) (fun H1 h => ?_)
  · obtain ⟨s1, e1⟩ := h
    rw [Int.toNat_natCast] at hi
    refine ⟨rfl, .str (S a), rfl, .int (0 + (i : Int)), rfl, 0 + (i : Int), rfl, .int (0 + (i : Int)), rfl, 0 + (i : Int), 2, rfl, rfl, 0 + (i : Int) + 2, rfl, a, rfl, by omega, ?_⟩
    rw [show (0 : Int) + (i : Int) = (i : Int) by omega, cutL_two' a i (by omega)]
    have hsp := spots_le a 97 98 i
    refine ⟨rfl, _, rfl, ite2 (fun e => ?_) (fun e => ?_)⟩
    · have e' : at2 a (i : Int) 97 98 = true := by rw [← two_eq]; exact e
      refine ⟨.int (i : Int), rfl, _, e1, by rw [List.length_map]; unfold sizeLine; omega, Same.mut s1 nD1, ?_⟩
      rw [upd_same, spots_succ, if_pos e', List.map_append]; rfl
    · have e' : ¬ at2 a (i : Int) 97 98 = true := by rw [← two_eq]; exact e
      exact ⟨s1, by rw [spots_succ, if_neg e', List.append_nil]; exact e1⟩
  obtain ⟨s1, e1⟩ := h
  rw [Int.toNat_natCast] at e1
  refine ⟨.str (S a), rfl, a, rfl, by omega, (a.length : Int), rfl, by omega, by omega, fun D2 nD2 => ?_⟩
  refine lc_range (lo := 0) (n := ((a.length : Int)).toNat) (fun i H' => Same H1 H' ∧ H' D2 = some (.lst ((spots a 98 97 i).map fun (o : Nat) => V.int (o : Int)))) ⟨same_new nD2, upd_same⟩ (fun i H2 hi h => ?_) (fun H2 h => ?_)
  · obtain ⟨s2, e2⟩ := h
    rw [Int.toNat_natCast] at hi
    refine ⟨rfl, .str (S a), rfl, .int (0 + (i : Int)), rfl, 0 + (i : Int), rfl, .int (0 + (i : Int)), rfl, 0 + (i : Int), 2, rfl, rfl, 0 + (i : Int) + 2, rfl, a, rfl, by omega, ?_⟩
    rw [show (0 : Int) + (i : Int) = (i : Int) by omega, cutL_two' a i (by omega)]
    have hsp := spots_le a 98 97 i
    refine ⟨rfl, _, rfl, ite2 (fun e => ?_) (fun e => ?_)⟩
    · have e' : at2 a (i : Int) 98 97 = true := by rw [← two_eq]; exact e
      refine ⟨.int (i : Int), rfl, _, e2, by rw [List.length_map]; unfold sizeLine; omega, Same.mut s2 nD2, ?_⟩
      rw [upd_same, spots_succ, if_pos e', List.map_append]; rfl
    · have e' : ¬ at2 a (i : Int) 98 97 = true := by rw [← two_eq]; exact e
      exact ⟨s2, by rw [spots_succ, if_neg e', List.append_nil]; exact e2⟩
  obtain ⟨s2, e2⟩ := h
  rw [Int.toNat_natCast] at e2
  refine ⟨(by show 0 ≤ sizeLine; decide), fun D H3 nD _ hH3 => ?_⟩
  have s3 : Same H2 H3 := by rw [hH3]; exact same_new nD
  have e3 : H3 D = some (.lst (([] : List Addr).map V.ref)) := by rw [hH3]; exact upd_same
  clear hH3
  have s03 : Same H H3 := s1.trans (s2.trans s3)
  have f3 : H3 D1 = some (.lst ((spots a 97 98 a.length).map fun (o : Nat) => V.int (o : Int))) := s3 _ _ (s2 _ _ e1)
  have g3 : H3 D2 = some (.lst ((spots a 98 97 a.length).map fun (o : Nat) => V.int (o : Int))) := s3 _ _ e2
  have nDH : H D = none := by
    cases h : H D with
    | none => rfl
    | some o => rw [s2 _ _ (s1 _ _ h)] at nD; cases nD
  have l1 := spots_le a 97 98 a.length
  have l2 := spots_le a 98 97 a.length
  obtain ⟨rs, hrs⟩ : ∃ rs, rs = spots a 98 97 a.length := ⟨_, rfl⟩
  obtain ⟨fs, hfs⟩ : ∃ fs, fs = spots a 97 98 a.length := ⟨_, rfl⟩
  have hall : allB a = fs.flatMap (mates rs) := by rw [hrs, hfs]; rfl
  rw [← hrs] at g3 l2
  rw [← hfs] at f3 l1
  have nD1D : D1 ≠ D := ne_of_none (s2 _ _ e1) nD
  have nD2D : D2 ≠ D := ne_of_none e2 nD
  refine ⟨.ref D1, rfl, D1, rfl, ⟨_, SqL.of f3⟩, for_list (xs := fs.map fun (o : Nat) => V.int (o : Int)) (fun t σ H' => Same H H' ∧ H' D1 = some (.lst (fs.map fun (o : Nat) => V.int (o : Int))) ∧ H' D2 = some (.lst (rs.map fun (o : Nat) => V.int (o : Int))) ∧
      (∃ ts : List Addr, H' D = some (.lst (ts.map V.ref)) ∧ Tups H' ts ((fs.take t).flatMap (mates rs)) ∧ (∀ u ∈ ts, H u = none ∧ u ≠ D) ∧ ts.length ≤ t * 300) ∧ ∃ y, σ = [some (.str (S a)), some (.ref D1), some (.ref D2), some (.ref D), y, none, none])
    ⟨s03, f3, g3, ⟨[], e3, by rw [List.take_zero]; exact Tups.nil, (fun _ h => nomatch h), by decide⟩, none, rfl⟩ (fun t σ H' _ h => SqL.of h.2.1) (fun t x σ H4 hx h => ?_) (fun σ H4 h => ?_)⟩
  · obtain ⟨s4, f4, g4, ⟨ts, eD, hT, hn, hlen⟩, y, rfl⟩ := h
    obtain ⟨i, hi, rfl⟩ : ∃ i, fs[t]? = some i ∧ x = V.int (i : Int) := by
      rw [List.getElem?_map] at hx
      cases h : fs[t]? with
      | none => rw [h] at hx; cases hx
      | some o => rw [h] at hx; exact ⟨o, rfl, (Option.some.inj hx).symm⟩
    have ht : t < fs.length := (List.getElem?_eq_some_iff.mp hi).1
    refine ⟨.ref D, rfl, .inl ⟨rfl, _, SqL.of eD⟩, .ref D2, rfl, D2, rfl, ⟨_, SqL.of g4⟩, fun E5 nE => ?_⟩
    refine lc_list (xs := rs.map fun (o : Nat) => V.int (o : Int)) (fun j H' => Same H4 H' ∧ ∃ us : List Addr, H' E5 = some (.lst (us.map V.ref)) ∧ Tups H' us (mates (rs.take j) i) ∧ (∀ u ∈ us, H4 u = none) ∧ us.length ≤ j)
      ⟨same_new nE, [], upd_same, by rw [List.take_zero]; exact Tups.nil, (fun _ h => nomatch h), Nat.le_refl _⟩ (fun j H' _ h => SqL.of (h.1 _ _ g4)) (fun j x H5 hx h => ?_) (fun H5 h => ?_)
    · obtain ⟨s5, us, eE, hU, hu, hul⟩ := h
      obtain ⟨r, hr5, rfl⟩ : ∃ r, rs[j]? = some r ∧ x = V.int (r : Int) := by
        rw [List.getElem?_map] at hx
        cases h : rs[j]? with
        | none => rw [h] at hx; cases hx
        | some o => rw [h] at hx; exact ⟨o, rfl, (Option.some.inj hx).symm⟩
      have hj : j < rs.length := (List.getElem?_eq_some_iff.mp hr5).1
      refine ⟨rfl, .int (r : Int), rfl, .int (i : Int), rfl, (i : Int), 1, rfl, rfl, .int (i : Int), rfl, (i : Int), 1, rfl, rfl, (by show 2 ≤ sizeLine; decide), fun p H6 np _ hH6 => ?_⟩
      have s6 : Same H5 H6 := by rw [hH6]; exact same_new np
      have e6 : H6 p = some (.lst [.int ((i : Int) - 1), .int ((i : Int) + 1)]) := by rw [hH6]; exact upd_same
      clear hH6
      have hm : mates (rs.take (j + 1)) i = mates (rs.take j) i ++ (if (decide ((r : Int) = (i : Int) - 1) || decide ((r : Int) = (i : Int) + 1)) = true then [] else [(i, r)]) := by
        unfold mates
        rw [List.take_add_one, hr5]
        show List.map _ (List.filter _ (rs.take j ++ [r])) = _
        rw [List.filter_append, List.map_append]
        congr 1
        cases h : (decide ((r : Int) = (i : Int) - 1) || decide ((r : Int) = (i : Int) + 1)) with
        | true => rw [if_pos rfl]; simp only [List.filter_cons, h, Bool.not_true]; rfl
        | false => rw [if_neg (by decide)]; simp only [List.filter_cons, h, Bool.not_false]; rfl
      have hv : (!inV (V.int (r : Int)) [.int ((i : Int) - 1), .int ((i : Int) + 1)]) = !(decide ((r : Int) = (i : Int) - 1) || decide ((r : Int) = (i : Int) + 1)) := by
        show (!(((i : Int) - 1 == (r : Int)) || (((i : Int) + 1 == (r : Int)) || false))) = _
        rw [Bool.or_false]
        congr 1
        rw [Bool.eq_iff_iff]
        simp only [Bool.or_eq_true, beq_iff_eq, decide_eq_true_eq]
        omega
      have eE6 := s6 _ _ eE
      refine ⟨p, _, rfl, .inl (SqL.of e6), rfl, rfl, _, rfl, ite2 (fun e => ?_) (fun e => ?_)⟩
      · have e' : (!inV (V.int (r : Int)) [.int ((i : Int) - 1), .int ((i : Int) + 1)]) = true := e
        rw [hv] at e'
        have e2 : ¬ (decide ((r : Int) = (i : Int) - 1) || decide ((r : Int) = (i : Int) + 1)) = true := fun z => by rw [z] at e'; cases e'
        refine ⟨.int (i : Int), rfl, .int (r : Int), rfl, (by show 2 ≤ sizeLine; decide), fun T H7 nT _ hH7 => ?_⟩
        have s7 : Same H6 H7 := by rw [hH7]; exact same_new nT
        have eT : H7 T = some (.tup [.int (i : Int), .int (r : Int)]) := by rw [hH7]; exact upd_same
        clear hH7
        have nET : E5 ≠ T := ne_of_none eE6 nT
        have s57 : Same H5 H7 := s6.trans s7
        have T4 : H4 T = none := by
          cases q : H4 T with
          | none => rfl
          | some o => rw [s6 _ _ (s5 _ _ q)] at nT; cases nT
        refine ⟨_, s7 _ _ eE6, by rw [List.length_map]; unfold sizeLine; omega, Same.mut (s5.trans s57) nE, us ++ [T], by rw [upd_same, List.map_append]; rfl, ?_, ?_, by rw [List.length_append]; exact Nat.add_le_add_right hul 1⟩
        · rw [hm, if_neg e2]
          have T7 : Tups H7 (us ++ [T]) (mates (rs.take j) i ++ [(i, r)]) := (hU.same s57).snoc eT
          refine ⟨T7.1, fun k u p' h1 h2 => ?_⟩
          have hne : u ≠ E5 := by
            rcases List.mem_append.mp (List.mem_of_getElem? h1) with h | h
            · exact ne_of_none' (hu u h) g4 |> fun _ => fun z => by
                have := T7.2 k u p' h1 h2
                rw [z, s7 _ _ eE6] at this
                cases this
            · have : u = T := by simpa using h
              rw [this]; exact nET.symm
          rw [upd_ne hne]
          exact T7.2 k u p' h1 h2
        · intro u hmem
          rcases List.mem_append.mp hmem with h | h
          · exact hu u h
          · have : u = T := by simpa using h
            rw [this]; exact T4
      · have e' : ¬ (!inV (V.int (r : Int)) [.int ((i : Int) - 1), .int ((i : Int) + 1)]) = true := e
        rw [hv] at e'
        have e2 : (decide ((r : Int) = (i : Int) - 1) || decide ((r : Int) = (i : Int) + 1)) = true := by
          cases h : (decide ((r : Int) = (i : Int) - 1) || decide ((r : Int) = (i : Int) + 1)) with
          | true => rfl
          | false => rw [h] at e'; exact absurd rfl e'
        refine ⟨s5.trans s6, us, eE6, ?_, hu, Nat.le_succ_of_le hul⟩
        rw [hm, if_pos e2, List.append_nil]
        exact hU.same s6
    · obtain ⟨s5, us, eE, hU, hu, hul⟩ := h
      rw [List.length_map, List.take_length] at hU
      rw [List.length_map] at hul
      have eD5 := s5 _ _ eD
      refine ⟨D, E5, _, _, rfl, rfl, eD5, eE, ?_, fun H6 hH6 => ?_⟩
      · rw [List.length_map, List.length_map]
        have : t * 300 ≤ 300 * 300 := Nat.mul_le_mul (by omega) (Nat.le_refl _)
        unfold sizeLine; omega
      have nE5 : ∀ u ∈ us, u ≠ D := fun u h => ne_of_none' (hu u h) eD
      have keep6 : ∀ b o, b ≠ D → H5 b = some o → H6 b = some o := fun b o n e => by rw [hH6, upd_ne n]; exact e
      have T5 : Tups H5 (ts ++ us) ((fs.take t).flatMap (mates rs) ++ mates rs i) := (hT.same s5).app hU
      refine ⟨fun b o e => keep6 b o (ne_of_none e nDH) (s5 _ _ (s4 _ _ e)), keep6 _ _ nD1D (s5 _ _ f4), keep6 _ _ nD2D (s5 _ _ g4), ⟨ts ++ us, ?_, ?_, ?_, ?_⟩, _, rfl⟩
      · rw [hH6, upd_same, List.map_append]
      · rw [List.take_add_one, hi]
        show Tups H6 (ts ++ us) ((fs.take t ++ [i]).flatMap (mates rs))
        rw [List.flatMap_append]
        refine ⟨by rw [T5.1, List.length_append, List.length_append]; simp, fun k u p h1 h2 => ?_⟩
        have hu' : u ≠ D := by
          rcases List.mem_append.mp (List.mem_of_getElem? h1) with h | h
          · exact (hn u h).2
          · exact nE5 u h
        exact keep6 _ _ hu' (T5.2 k u p h1 (by rw [← h2]; simp))
      · intro u hmem
        rcases List.mem_append.mp hmem with h | h
        · exact hn u h
        · have hu0 : H u = none := by
            cases q : H u with
            | none => rfl
            | some o =>
              have z := hu u h
              rw [s4 _ _ q] at z
              cases z
          exact ⟨hu0, nE5 u h⟩
      · rw [List.length_append, Nat.succ_mul]; omega
  · obtain ⟨s4, f4, g4, ⟨ts, eD, hT, hn, hlen⟩, y, rfl⟩ := h
    rw [List.length_map, List.take_length] at hT
    exact ⟨.ref D, rfl, q D ts H4 s4 nDH eD (by rw [hall]; exact hT) fun t h => (hn t h).1⟩

end
end K14
namespace K14
open PySem PySem.Spec PyProof.Rows L2 Vx
section
variable {P : Program} {w : World} {K : PySem.W.Frag} {mg : Str → Option Value} {base : Heap}
theorem exch_get {a : List Nat} {i x y : Nat} (h0 : a[i]? = some x) (h1 : a[i + 1]? = some y) (k : Nat) : (exch a i)[k]? = if k = i then some y else if k = i + 1 then some x else a[k]? := by
  have l1 : i + 1 < a.length := (List.getElem?_eq_some_iff.mp h1).1
  have e0 : a.getD i 0 = x := by rw [List.getD_eq_getElem?_getD, h0]; rfl
  have e1 : a.getD (i + 1) 0 = y := by rw [List.getD_eq_getElem?_getD, h1]; rfl
  unfold exch
  rw [e0, e1, List.getElem?_set, List.getElem?_set, List.length_set]
  by_cases k0 : k = i
  · subst k0
    rw [if_neg (by omega), if_pos rfl, if_pos (by omega), if_pos rfl]
  · by_cases k1 : k = i + 1
    · subst k1
      rw [if_pos rfl, if_pos l1, if_neg (by omega), if_pos rfl]
    · rw [if_neg (by omega), if_neg (by omega), if_neg k0, if_neg k1]
theorem cnt_exch {a : List Nat} {i x y : Nat} (h0 : a[i]? = some x) (h1 : a[i + 1]? = some y) (c : Nat) : ∀ k, ((exch a i).take k).count c + (if k = i + 1 then (if x = c then 1 else 0) else 0) = (a.take k).count c + (if k = i + 1 then (if y = c then 1 else 0) else 0)
  | 0 => by rw [if_neg (by omega), if_neg (by omega)]; rfl
  | k + 1 => by
    have ih := cnt_exch h0 h1 c k
    have one : ∀ d : Nat, (some d).toList.count c = if d = c then 1 else 0 := fun d => by
      show [d].count c = _
      rw [List.count_cons]
      by_cases h : d = c
      · subst h; simp
      · simp [h]
    rw [List.take_add_one, List.take_add_one, List.count_append, List.count_append, exch_get h0 h1]
    by_cases k0 : k = i
    · subst k0
      rw [if_neg (by omega), if_neg (by omega)] at ih
      rw [if_pos rfl, if_pos rfl, if_pos rfl, h0, one, one]
      omega
    · by_cases k1 : k = i + 1
      · subst k1
        rw [if_pos rfl, if_pos rfl] at ih
        rw [if_neg k0, if_pos rfl, if_neg (by omega), if_neg (by omega), h1, one, one]
        omega
      · rw [if_neg k1, if_neg k1] at ih
        rw [if_neg k0, if_neg k1, if_neg (by omega), if_neg (by omega)]
        omega
theorem count_exch {a : List Nat} {i x y : Nat} (h0 : a[i]? = some x) (h1 : a[i + 1]? = some y) (c : Nat) : (exch a i).count c = a.count c := by
  have h := cnt_exch h0 h1 c a.length
  have l1 : i + 1 < a.length := (List.getElem?_eq_some_iff.mp h1).1
  rw [if_neg (by omega), if_neg (by omega), List.take_length, ← exch_len a i, List.take_length] at h
  exact h
/-- the prefix counts behind an exchange -/
theorem pc_exch {a : List Nat} {i x y : Nat} (h0 : a[i]? = some x) (h1 : a[i + 1]? = some y) (k : Nat) : pc (exch a i) k = pc a k + (if k = i + 1 then (if y = 97 then 1 else 0) - (if x = 97 then 1 else 0) else 0) := by
  have h := cnt_exch h0 h1 97 k
  unfold pc
  by_cases k1 : k = i + 1
  · rw [if_pos k1, if_pos k1] at h
    rw [if_pos k1]
    generalize List.count 97 (List.take k (exch a i)) = A at h ⊢
    generalize List.count 97 (List.take k a) = B at h ⊢
    by_cases hx : x = 97
    · by_cases hy : y = 97
      · rw [if_pos hx, if_pos hy] at h
        rw [if_pos hx, if_pos hy]; omega
      · rw [if_pos hx, if_neg hy] at h
        rw [if_pos hx, if_neg hy]; omega
    · by_cases hy : y = 97
      · rw [if_neg hx, if_pos hy] at h
        rw [if_neg hx, if_pos hy]; omega
      · rw [if_neg hx, if_neg hy] at h
        rw [if_neg hx, if_neg hy]; omega
  · rw [if_neg k1, if_neg k1] at h
    rw [if_neg k1]
    generalize List.count 97 (List.take k (exch a i)) = A at h ⊢
    generalize List.count 97 (List.take k a) = B at h ⊢
    omega
theorem prs_exch {a : List Nat} {i x y : Nat} (h0 : a[i]? = some x) (h1 : a[i + 1]? = some y) : ∀ k, k ≤ i ∨ i + 2 ≤ k → prs (exch a i) k = prs a k + (if k ≤ i then 0 else (if x = 98 ∧ y = 97 then 1 else 0) - (if x = 97 ∧ y = 98 then 1 else 0))
  | 0, _ => by rw [if_pos (Nat.zero_le _)]; rfl
  | k + 1, h => by
    by_cases le : k + 1 ≤ i
    · have ih := prs_exch h0 h1 k (.inl (by omega))
      rw [if_pos (show k ≤ i by omega)] at ih
      have gk : (exch a i)[k]? = a[k]? := by rw [exch_get h0 h1, if_neg (by omega), if_neg (by omega)]
      have pk : pc (exch a i) k = pc a k := by rw [pc_exch h0 h1, if_neg (by omega)]; omega
      rw [if_pos le, prs, prs, ih, gk, pk]
      omega
    · rw [if_neg le]
      by_cases k1 : k = i + 1
      · subst k1
        have ih := prs_exch h0 h1 i (.inl (Nat.le_refl _))
        rw [if_pos (Nat.le_refl _)] at ih
        have p1 := pc_exch h0 h1 (i + 1)
        rw [if_pos rfl] at p1
        have p0 := pc_exch h0 h1 i
        rw [if_neg (by omega)] at p0
        have pa := pc_succ h0
        have ga : (exch a i)[i]? = some y := by rw [exch_get h0 h1, if_pos rfl]
        have gb : (exch a i)[i + 1]? = some x := by rw [exch_get h0 h1, if_neg (by omega), if_pos rfl]
        rw [prs, prs, prs, prs, ih, ga, gb, h0, h1, p1, p0, pa]
        simp only [Option.some.injEq]
        by_cases x9 : x = 98
        · by_cases y9 : y = 98
          · simp [x9, y9]
          · by_cases y7 : y = 97
            · simp [x9, y7]; omega
            · simp [x9, y9, y7]
        · by_cases y9 : y = 98
          · by_cases x7 : x = 97
            · simp [x7, y9]; omega
            · simp [x9, y9, x7]
          · simp [x9, y9]
      · have ih := prs_exch h0 h1 k (.inr (by omega))
        rw [if_neg (show ¬ k ≤ i by omega)] at ih
        have gk : (exch a i)[k]? = a[k]? := by rw [exch_get h0 h1, if_neg (by omega), if_neg k1]
        have pk : pc (exch a i) k = pc a k := by rw [pc_exch h0 h1, if_neg k1]; omega
        rw [prs, prs, ih, gk, pk]
        omega
/-- a double swap, by its letters -/
structure Dbl (a : List Nat) (n m : Nat) : Prop where
  n0 : a[n]? = some 97
  n1 : a[n + 1]? = some 98
  m0 : a[m]? = some 98
  m1 : a[m + 1]? = some 97
  far : n + 2 ≤ m ∨ m + 2 ≤ n
theorem dbl_iff {a : List Nat} {n m : Nat} : swB a n m = true ↔ Dbl a n m := by
  unfold swB at2
  simp only [Bool.and_eq_true, decide_eq_true_eq, beq_iff_eq, Int.toNat_natCast]
  constructor
  · rintro ⟨⟨_, h0, h1⟩, ⟨_, g0, g1⟩, h⟩
    refine ⟨h0, h1, g0, g1, ?_⟩
    split at h <;> omega
  · rintro ⟨h0, h1, g0, g1, h⟩
    refine ⟨⟨by omega, h0, h1⟩, ⟨by omega, g0, g1⟩, ?_⟩
    split <;> omega
theorem Dbl.mid0 {a : List Nat} {n m : Nat} (d : Dbl a n m) : (exch a n)[m]? = some 98 := by
  have := d.far
  rw [exch_get d.n0 d.n1, if_neg (by omega), if_neg (by omega), d.m0]
theorem Dbl.mid1 {a : List Nat} {n m : Nat} (d : Dbl a n m) : (exch a n)[m + 1]? = some 97 := by
  have := d.far
  rw [exch_get d.n0 d.n1, if_neg (by omega), if_neg (by omega), d.m1]
theorem Dbl.get {a : List Nat} {n m : Nat} (d : Dbl a n m) (k : Nat) : (exch (exch a n) m)[k]? = if k = m then some 97 else if k = m + 1 then some 98 else if k = n then some 98 else if k = n + 1 then some 97 else a[k]? := by
  rw [exch_get d.mid0 d.mid1, exch_get d.n0 d.n1]
theorem Dbl.len {a : List Nat} {n m : Nat} (d : Dbl a n m) : (exch (exch a n) m).length = a.length := by rw [exch_len, exch_len]
/-- the other way round -/
theorem Dbl.back {a : List Nat} {n m : Nat} (d : Dbl a n m) : Dbl (exch (exch a n) m) m n := by
  have := d.far
  refine ⟨?_, ?_, ?_, ?_, by omega⟩
  · rw [d.get, if_pos rfl]
  · rw [d.get, if_neg (by omega), if_pos rfl]
  · rw [d.get, if_neg (by omega), if_neg (by omega), if_pos rfl]
  · rw [d.get, if_neg (by omega), if_neg (by omega), if_neg (by omega), if_pos rfl]
theorem Dbl.twice {a : List Nat} {n m : Nat} (d : Dbl a n m) : exch (exch (exch (exch a n) m) m) n = a := by
  have := d.far
  refine List.ext_getElem? fun k => ?_
  rw [d.back.get, d.get]
  by_cases k1 : k = n
  · rw [if_pos k1, k1, d.n0]
  by_cases k2 : k = n + 1
  · rw [if_neg k1, if_pos k2, k2, d.n1]
  by_cases k3 : k = m
  · rw [if_neg k1, if_neg k2, if_pos k3, k3, d.m0]
  by_cases k4 : k = m + 1
  · rw [if_neg k1, if_neg k2, if_neg k3, if_pos k4, k4, d.m1]
  · rw [if_neg k1, if_neg k2, if_neg k3, if_neg k4, if_neg k3, if_neg k4, if_neg k1, if_neg k2]
theorem Dbl.count {a : List Nat} {n m : Nat} (d : Dbl a n m) (c : Nat) : (exch (exch a n) m).count c = a.count c := by rw [count_exch d.mid0 d.mid1, count_exch d.n0 d.n1]
theorem Dbl.pc {a : List Nat} {n m : Nat} (d : Dbl a n m) (k : Nat) : pc (exch (exch a n) m) k = pc a k + (if k = n + 1 then -1 else if k = m + 1 then 1 else 0) := by
  have := d.far
  rw [pc_exch d.mid0 d.mid1, pc_exch d.n0 d.n1]
  by_cases k1 : k = n + 1
  · have k2 : ¬ k = m + 1 := by omega
    rw [if_pos k1, if_pos k1, if_neg k2]; simp
  · by_cases k2 : k = m + 1
    · rw [if_neg k1, if_neg k1, if_pos k2, if_pos k2]; simp
    · rw [if_neg k1, if_neg k1, if_neg k2, if_neg k2]; simp
theorem Dbl.prs {a : List Nat} {n m : Nat} (d : Dbl a n m) : prs (exch (exch a n) m) (exch (exch a n) m).length = prs a a.length := by
  have l1 := (List.getElem?_eq_some_iff.mp d.n1).1
  have l2 := (List.getElem?_eq_some_iff.mp d.m1).1
  rw [d.len, prs_exch d.mid0 d.mid1 a.length (.inr (by omega)), prs_exch d.n0 d.n1 a.length (.inr (by omega)), if_neg (by omega), if_neg (by omega)]
  simp
  omega
theorem Dbl.row {a : List Nat} {n m : Nat} (d : Dbl a n m) (h : rowB a = true) : rowB (exch (exch a n) m) = true := by
  unfold rowB at h ⊢
  rw [Bool.and_eq_true] at h ⊢
  refine ⟨by rw [d.len]; exact h.1, ?_⟩
  have all := h.2
  unfold abs at all ⊢
  rw [List.all_eq_true] at all ⊢
  intro c hc
  have : c ∈ a := List.count_pos_iff.mp (by rw [← d.count c]; exact List.count_pos_iff.mpr hc)
  exact all c this

end
end K14
namespace K14
open PySem PySem.Spec PyProof.Rows L2 Vx
section
variable {P : Program} {w : World} {K : PySem.W.Frag} {mg : Str → Option Value} {base : Heap}
theorem dp_t3 {H : Hp} {T : Addr} {a b p : Int} (e : H T = some (.tup [.int a, .int b, .int p])) : Dp K H (.ref T) (.tuple [.int a, .int b, .int p]) := .tup (SqT.of e) (.cons (.int a) (.cons (.int b) (.cons (.int p) .nil)))
theorem shaped_t3 (a b p : Int) : SeqAt.shaped (.tuple [.int a, .int b, .int p]) = true := by simp [SeqAt.shaped, PyData.canLay0, PyData.canLayAll0, PyData.depth, PyData.depthAll]
theorem eqv_t3 (a b p : Int) : PyData.eqv (.tuple [.int a, .int b, .int p]) (.tuple [.int a, .int b, .int p]) = true := by simp [PyData.eqv, PyData.eqvAll]
/-- a list of two pairs -/
abbrev two (a b c d : Int) : PyData := .list [.tuple [.int a, .int b], .tuple [.int c, .int d]]
theorem dp_two {H : Hp} {D T U : Addr} {a b c d : Int} (e : H D = some (.lst [.ref T, .ref U])) (eT : H T = some (.tup [.int a, .int b])) (eU : H U = some (.tup [.int c, .int d])) : Dp K H (.ref D) (two a b c d) :=
  .lst (SqL.of e) (.cons (.tup (SqT.of eT) (.cons (.int a) (.cons (.int b) .nil))) (.cons (.tup (SqT.of eU) (.cons (.int c) (.cons (.int d) .nil))) .nil))
theorem shaped_two (a b c d : Int) : SeqAt.shaped (two a b c d) = true := by simp [two, SeqAt.shaped, PyData.canLay0, PyData.canLayAll0, PyData.depth, PyData.depthAll]
theorem eqv_two (a b c d : Int) : PyData.eqv (two a b c d) (two a b c d) = true := by simp [two, PyData.eqv, PyData.eqvAll]
/-- two with distinct keys, sorted -/
theorem two_sorted {key : V → Int × Int} {ys : List V} {u v : V} (hp : ys.Perm [u, v]) (hs : SrtO.Srtd (ltP key) ys) (h : (key u).1 < (key v).1) : ys = [u, v] := by
  have hl : ys.length = 2 := hp.length_eq
  match ys, hl with
  | [x, y], _ =>
    have hx : x ∈ [u, v] := hp.mem_iff.mp (by simp)
    have hy : y ∈ [u, v] := hp.mem_iff.mp (by simp)
    have hu : u ∈ [x, y] := hp.mem_iff.mpr (by simp)
    have hv : v ∈ [x, y] := hp.mem_iff.mpr (by simp)
    simp only [List.mem_cons, List.not_mem_nil, or_false] at hx hy hu hv
    have no : ¬ (x = v ∧ y = u) := by
      rintro ⟨rfl, rfl⟩
      have h2 := (List.pairwise_cons.mp hs).1 y (by simp)
      have h3 := SrtO.lexB_no.mp h2
      omega
    have ne : u ≠ v := fun z => by rw [z] at h; omega
    rcases hx with rfl | rfl
    · rcases hv with rfl | rfl
      · exact absurd rfl ne
      · rfl
    · rcases hu with rfl | rfl
      · exact absurd rfl ne
      · exact absurd ⟨rfl, rfl⟩ no
/-- the pair at T, or the other one -/
def key2 (T : Addr) (p q : Int × Int) : V → Int × Int := fun x => if x = .ref T then p else q
theorem key2_one (T : Addr) (p q : Int × Int) : key2 T p q (.ref T) = p := by unfold key2; rw [if_pos rfl]
theorem key2_two {T U : Addr} {p q : Int × Int} (h : U ≠ T) : key2 T p q (.ref U) = q := by
  unfold key2
  rw [if_neg fun z => h (by injection z)]
theorem far_refs {H : Hp} {T U : Addr} {a b c d : Int} (eT : H T = some (.tup [.int a, .int b])) (eU : H U = some (.tup [.int c, .int d])) (ne : a ≠ c) : U ≠ T := by
  rintro rfl
  rw [eT] at eU
  injection eU with h
  injection h with h
  injection h with h1 h2
  injection h1 with h1
  exact ne h1
theorem key2_ok {H : Hp} {T U : Addr} {a b c d : Int} (eT : H T = some (.tup [.int a, .int b])) (eU : H U = some (.tup [.int c, .int d])) (ne : a ≠ c) : ∀ x ∈ [V.ref T, V.ref U], ∃ t, x = V.ref t ∧ H t = some (.tup [.int (key2 T (a, b) (c, d) x).1, .int (key2 T (a, b) (c, d) x).2]) := by
  intro x hx
  simp only [List.mem_cons, List.not_mem_nil, or_false] at hx
  rcases hx with rfl | rfl
  · exact ⟨T, rfl, by rw [key2_one]; exact eT⟩
  · exact ⟨U, rfl, by rw [key2_two (far_refs eT eU ne)]; exact eU⟩
theorem sort2 {H : Hp} {T U Y : Addr} {a b c d : Int} {ys : List V} (eT : H T = some (.tup [.int a, .int b])) (eU : H U = some (.tup [.int c, .int d])) (ne : a ≠ c) (hs : SrtO.Srtd (ltP (key2 T (a, b) (c, d))) ys) (hst : SrtO.Stb (ltP (key2 T (a, b) (c, d))) ys [V.ref T, V.ref U]) (nY : H Y = none) :
    Same H (upd H Y (.lst ys)) ∧ (a < c → (upd H Y (.lst ys)) Y = some (.lst [.ref T, .ref U])) ∧ (c < a → (upd H Y (.lst ys)) Y = some (.lst [.ref U, .ref T])) := by
  have nUT := far_refs eT eU ne
  refine ⟨same_new nY, fun h => ?_, fun h => ?_⟩
  · rw [upd_same, two_sorted hst.perm hs (by rw [key2_one, key2_two nUT]; exact h)]
  · rw [upd_same, two_sorted (hst.perm.trans (List.Perm.swap ..)) hs (by rw [key2_one, key2_two nUT]; exact h)]
def spRight14 (K : PySem.W.Frag) : Sp := fun vs H Q _ => ∃ (a : List Nat) (p : Addr) (n m : Nat), vs = [.str (S a), .ref p] ∧ rowB a = true ∧ SqT K H p [.int (n : Int), .int (m : Int)] ∧ Dbl a n m ∧ ∀ H' : Hp, Same H H' → Q (.bl true) H'
theorem ok_law_right {f f1 f2 f3 f4 : Addr} {fd fd1 fd2 fd3 fd4 : FuncData} {k : Nat} (F : Fun K "_law_right" "_law_right" st_law_right f fd)
    (F_swapped : Fun K "swapped" "swapped" st_swapped f1 fd1) (G_swapped : FnOk P w K mg base CX0 4 f1 fd1 ["row", "swap"] (spSwapped K)) (b_swapped : Binds K fd1 ["row", "swap"] []) (g_swapped : mg "swapped" = some (.ref f1))
    (F_law_after : Fun K "_law_after" "_law_after" st_law_after f2 fd2) (G_law_after : FnOk P w K mg base CX0 1 f2 fd2 ["letters", "swap"] (spAfter K)) (b_law_after : Binds K fd2 ["letters", "swap"] []) (g_law_after : mg "_law_after" = some (.ref f2))
    (F_law_counts : Fun K "_law_counts" "_law_counts" st_law_counts f3 fd3) (G_law_counts : FnOk P w K mg base CX0 2 f3 fd3 ["letters"] spCountsB) (b_law_counts : Binds K fd3 ["letters"] []) (g_law_counts : mg "_law_counts" = some (.ref f3))
    (F_law_prefix : Fun K "_law_prefix" "_law_prefix" st_law_prefix f4 fd4) (G_law_prefix : FnOk P w K mg base CX0 1 f4 fd4 ["letters"] spPrefixB) (b_law_prefix : Binds K fd4 ["letters"] []) (g_law_prefix : mg "_law_prefix" = some (.ref f4))
    (m_list : mg "list" = none) (m_zip : mg "zip" = none) (m_enumerate : mg "enumerate" = none) (m_sorted : mg "sorted" = none) : FnOk P w K mg base CX0 (k + 5) f fd ["letters", "swap"] (spRight14 K) := by
  refine F.ok sc_law_right (fun vs H Q E h => ?_) (fun cdv A outer s H vs Q E hr h => ?_)
  · obtain ⟨a, p, n, m, rfl, _⟩ := h; rfl
  obtain ⟨a, p, n, m, rfl, hw, hT, d, q⟩ := h
  have hl := row_len hw
  refine ⟨_, (pss_cons (ps_set (i := 2) sc_law_right.nd rfl (Or.inl rfl) (pe_call G_swapped (hr.mono (by omega)) (by rfl) g_swapped F_swapped.kp b_swapped .nil pass0 (pa_cons (pv 0) (pa_cons (pv 1) pa_nil))))
    (pss_cons (ps_if (PW.pt (pw_or (pt_cmpR op_ne (pv 2) (pe_call G_law_after (hr.mono (by omega)) (by rfl) g_law_after F_law_after.kp b_law_after .nil pass0 (pa_cons (pv 0) (pa_cons (pv 1) pa_nil))) (nomark _)) (pw_or1 (pt_cmpR (op_neD hr.units) (pe_call G_law_counts (hr.mono (by omega)) (by rfl) g_law_counts F_law_counts.kp b_law_counts .nil pass0 (pa_cons (pv 2) pa_nil)) (pe_call G_law_counts (hr.mono (by omega)) (by rfl) g_law_counts F_law_counts.kp b_law_counts .nil pass0 (pa_cons (pv 0) pa_nil)) (nomark _))))) (pss_one (ps_ret pe_bl)) pss_nil)
    (pss_cons (ps_setLc (i := 3) (g := (gTup K 2 (gCons (gName 5) (gCons (gName 6) gNil)))) (own := [("one", 5), ("two", 6)]) rfl sc_law_right.nd rfl rfl (sw_true rfl rfl rfl (by decide +kernel)) (pi_listK K rfl (Vu.pe_listZip rfl (by rfl) m_list (by rfl) m_zip (pa_cons (pe_call G_law_prefix (hr.mono (by omega)) (by rfl) g_law_prefix F_law_prefix.kp b_law_prefix .nil pass0 (pa_cons (pv 0) pa_nil)) (pa_cons (pe_call G_law_prefix (hr.mono (by omega)) (by rfl) g_law_prefix F_law_prefix.kp b_law_prefix .nil pass0 (pa_cons (pv 2) pa_nil)) pa_nil)))) (blkOk_by (own := [("one", 5), ("two", 6)]) (N := N_law_right) (sc := defScope st_law_right) (by decide +kernel)) (fun _ _ _ _ _ => (by exact (pg_tup rfl (pgs_cons (pg_name (i := 5) sc_law_right.nd rfl (Or.inl rfl)) (pgs_cons (pg_name (i := 6) sc_law_right.nd rfl (Or.inl rfl)) pgs_nil))))) (fun _ _ _ _ _ => pts_nil) (fun _ _ _ _ _ => (pe_op op_sub (pv 6) (pv 5))))
    (pss_cons (ps_setLc (i := 4) (g := (gTup K 2 (gCons (gName 7) (gCons (gName 8) gNil)))) (own := [("place", 7), ("step", 8)]) rfl sc_law_right.nd rfl rfl (sw_true rfl rfl rfl (by decide +kernel)) (pi_enum (by rfl) m_enumerate (pa_cons (pv 3) pa_nil)) (blkOk_by (own := [("place", 7), ("step", 8)]) (N := N_law_right) (sc := defScope st_law_right) (by decide +kernel)) (fun _ _ _ _ _ => (by exact (pg_tup rfl (pgs_cons (pg_name (i := 7) sc_law_right.nd rfl (Or.inl rfl)) (pgs_cons (pg_name (i := 8) sc_law_right.nd rfl (Or.inl rfl)) pgs_nil))))) (fun _ _ _ _ _ => (pts_one (pt_cmpR op_ne (pv 8) pe_int (nomark _)))) (fun _ _ _ _ _ => (peq_tup (pa_cons (pe_op op_sub (pv 7) pe_int) (pa_cons (pv 8) pa_nil)))))
    (pss_cons (ps_if (pt_cmpR (op_neD hr.units) (pe_callB cr_sortedPO (by rfl) m_sorted (by decide +kernel) (pa_cons (pv 4) pa_nil)) (pe_callB cr_sortedPO (by rfl) m_sorted (by decide +kernel) (pa_cons (peq_lst (pa_cons (peq_tup (pa_cons (pe_ix ix_tup (pv 1) pe_int (fun _ _ => rfl)) (pa_cons (pe_un un_neg pe_int) pa_nil))) (pa_cons (peq_tup (pa_cons (pe_ix ix_tup (pv 1) pe_int (fun _ _ => rfl)) (pa_cons pe_int pa_nil))) pa_nil))) pa_nil)) (nomark _)) (pss_one (ps_ret pe_bl)) pss_nil)
    (pss_one (ps_ret (pe_cmpR op_eq (pe_call G_swapped (hr.mono (by omega)) (by rfl) g_swapped F_swapped.kp b_swapped .nil pass0 (pa_cons (pv 2) (pa_cons (peq_tup (pa_cons (pe_ix ix_tup (pv 1) pe_int (fun _ _ => rfl)) (pa_cons (pe_ix ix_tup (pv 1) pe_int (fun _ _ => rfl)) pa_nil))) pa_nil))) (pv 0) (nomark _))))))))), ?_⟩
  refine ⟨.str (S a), rfl, .ref p, rfl, a, p, (n : Int), (m : Int), rfl, hw, hT, dbl_iff.mpr d, fun H1 s1 => ?_⟩
  obtain ⟨b, hb⟩ : ∃ b, b = exch (exch a n) m := ⟨_, rfl⟩
  rw [show swpd a (n : Int) (m : Int) = b from hb.symm]
  have l1 := (List.getElem?_eq_some_iff.mp d.n1).1
  have l2 := (List.getElem?_eq_some_iff.mp d.m1).1
  have bl : b.length = a.length := by rw [hb]; exact d.len
  refine ⟨.str (S b), rfl, .str (S a), rfl, .ref p, rfl, a, p, n, m, rfl, sqT_same s1 hT, by omega, l1, l2, ?_⟩
  rw [← hb]
  refine ⟨rfl, _, rfl, ite2 (fun e => ?_) (fun _ => ?_)⟩
  · exact absurd e (by simp)
  refine ⟨.str (S b), rfl, b, rfl, by omega, fun T1 H2 s2 nT1 e1 => ?_⟩
  refine ⟨.str (S a), rfl, a, rfl, by omega, fun T2 H3 s3 nT2 e2 => ?_⟩
  have eb : ∀ c, b.count c = a.count c := fun c => by rw [hb]; exact d.count c
  rw [eb, eb, show prs b b.length = prs a a.length by rw [hb]; exact d.prs] at e1
  refine ⟨_, _, dp_t3 (s3 _ _ e1), dp_t3 e2, shaped_t3 .., shaped_t3 .., _, rfl, ite2 (fun e => ?_) (fun _ => ?_)⟩
  · rw [eqv_t3] at e; exact absurd e (by decide)
  have s13 : Same H H3 := s1.trans (s2.trans s3)
  have npos : ∀ (x : List Nat), x.length ≤ 200 → ((preL x (x.length + 1)).map V.int).length ≤ sizeLine := fun x hx => by rw [List.length_map, preL_len]; unfold sizeLine; omega
  refine ⟨.str (S a), rfl, a, rfl, by omega, fun P1 H4 s4 nP1 f1 => ?_⟩
  refine ⟨.str (S b), rfl, b, rfl, by omega, fun P2 H5 s5 nP2 f2 => ?_⟩
  refine ⟨P1, P2, _, _, rfl, SqL.of (s5 _ _ f1), SqL.of f2, by rw [List.length_map, List.length_map, preL_len, preL_len, bl], npos a hl, fun H6 L ts s6 nL nts nLts eL lts tsAt => ?_⟩
  have s16 : Same H H6 := s13.trans (s4.trans (s5.trans s6))
  rw [List.length_map, preL_len] at lts
  have tsv : ∀ (j : Nat) (t : Addr), ts[j]? = some t → H6 t = some (.tup [.int (pc a j), .int (pc b j)]) := fun j t e => by
    have hj : j < a.length + 1 := by rw [← lts]; exact (List.getElem?_eq_some_iff.mp e).1
    exact tsAt j t _ _ e (by rw [List.getElem?_map, preL_get hj]; rfl) (by rw [List.getElem?_map, preL_get (by omega)]; rfl)
  refine ⟨L, rfl, ⟨_, SqL.of eL⟩, fun D nD => ?_⟩
  refine lc_list (xs := ts.map V.ref) (fun i H' => Same H6 H' ∧ H' D = some (.lst ((List.range i).map fun k => V.int (pc b k - pc a k)))) ⟨same_new nD, upd_same⟩ (fun i H' _ h => SqL.of (h.1 _ _ eL)) (fun i x H7 hx h => ?_) (fun H7 h => ?_)
  · obtain ⟨s7, e7⟩ := h
    rw [List.getElem?_map] at hx
    obtain ⟨t, ht, rfl⟩ := Option.map_eq_some_iff.mp hx
    refine ⟨t, _, rfl, SqT.of (s7 _ _ (tsv i t ht)), rfl, _, _, rfl, _, _, rfl, rfl, rfl, .int (pc b i), rfl, .int (pc a i), rfl, _, _, rfl, rfl, _, e7, ?_, Same.mut s7 nD, ?_⟩
    · have := (List.getElem?_eq_some_iff.mp ht).1
      rw [List.length_map, List.length_range]; unfold sizeLine; omega
    · rw [upd_same, List.range_succ, List.map_append]; rfl
  · obtain ⟨s7, e7⟩ := h
    rw [List.length_map, lts] at e7
    have s17 : Same H H7 := s16.trans s7
    obtain ⟨lo, hi, vl, vh, far, hiL, hst, vl0, vh0, who⟩ : ∃ (lo hi : Nat) (vl vh : Int), lo + 2 ≤ hi ∧ hi + 1 < a.length ∧ (∀ k, pc b k - pc a k = if k = lo + 1 then vl else if k = hi + 1 then vh else 0) ∧ vl ≠ 0 ∧ vh ≠ 0 ∧ ((lo = n ∧ vl = -1 ∧ hi = m ∧ vh = 1) ∨ (lo = m ∧ vl = 1 ∧ hi = n ∧ vh = -1)) := by
      rcases d.far with h | h
      · refine ⟨n, m, -1, 1, h, l2, fun k => ?_, by decide, by decide, .inl ⟨rfl, rfl, rfl, rfl⟩⟩
        rw [hb, d.pc k]; omega
      · refine ⟨m, n, 1, -1, h, l1, fun k => ?_, by decide, by decide, .inr ⟨rfl, rfl, rfl, rfl⟩⟩
        rw [hb, d.pc k]
        by_cases k1 : k = n + 1
        · rw [if_pos k1, if_neg (show ¬ k = m + 1 by omega), if_pos k1]; omega
        · rw [if_neg k1, if_neg k1]; omega
    refine ⟨.ref D, rfl, D, _, rfl, SqL.of e7, fun D2 nD2 => ?_⟩
    refine lc_it (walk_enum (xs := (List.range (a.length + 1)).map fun k => V.int (pc b k - pc a k))) (fun i H' => Same H7 H' ∧ ((i ≤ lo + 1 ∧ H' D2 = some (.lst [])) ∨ (lo + 1 < i ∧ i ≤ hi + 1 ∧ ∃ t, H' D2 = some (.lst [.ref t]) ∧ H' t = some (.tup [.int (lo : Int), .int vl])) ∨ (hi + 1 < i ∧ ∃ t u, H' D2 = some (.lst [.ref t, .ref u]) ∧ H' t = some (.tup [.int (lo : Int), .int vl]) ∧ H' u = some (.tup [.int (hi : Int), .int vh])))) ⟨same_new nD2, .inl ⟨by omega, upd_same⟩⟩ (fun i H' _ h => SqL.of (h.1 _ _ e7)) (fun i x H8 H9 hi9 h hx => ?_) (fun H8 h => ?_)
    · obtain ⟨T, x0, y0, rfl, nT, hH9, g1, g2⟩ := hx
      obtain ⟨s8, st⟩ := h
      rw [List.length_map, List.length_range] at hi9
      obtain rfl : x0 = V.int (i : Nat) := (Option.some.inj g1).symm
      obtain rfl : y0 = V.int (pc b i - pc a i) := by
        have g3 : ((List.range (a.length + 1)).map fun k => V.int (pc b k - pc a k))[i]? = some y0 := g2
        rw [List.getElem?_map, List.getElem?_range hi9] at g3
        exact (Option.some.inj g3).symm
      have sT : Same H8 H9 := by rw [hH9]; exact same_new nT
      have eT : H9 T = some (.tup [.int (i : Nat), .int (pc b i - pc a i)]) := by rw [hH9]; exact upd_same
      have s9 : Same H7 H9 := s8.trans sT
      clear hH9
      have hv := hst i
      generalize pc b i - pc a i = v at eT hv ⊢
      refine ⟨T, _, rfl, SqT.of eT, rfl, _, _, rfl, _, _, rfl, rfl, rfl, .int v, rfl, rfl, _, rfl, ite2 (fun e => ?_) (fun e => ?_)⟩
      · have v0 : v ≠ 0 := by
          rintro rfl
          exact absurd e (by decide)
        refine ⟨.int (i : Nat), rfl, (i : Int), 1, rfl, rfl, .int v, rfl, (by show 2 ≤ sizeLine; decide), fun U H10 nU _ hH10 => ?_⟩
        have sU : Same H9 H10 := by rw [hH10]; exact same_new nU
        have eU : H10 U = some (.tup [.int ((i : Int) - 1), .int v]) := by rw [hH10]; exact upd_same
        clear hH10
        have sTU : Same H8 H10 := sT.trans sU
        rcases st with ⟨h1, e0⟩ | ⟨h1, h2, t, e0, et⟩ | ⟨h1, t, u, e0, et, eu⟩
        · have hi0 : i = lo + 1 := by
            refine Decidable.byContradiction fun z => v0 ?_
            rw [hv, if_neg z, if_neg (by omega)]
          rw [if_pos hi0] at hv
          have nUD : U ≠ D2 := fun z => by rw [z, sTU _ _ e0] at eU; cases eU
          refine ⟨_, sTU _ _ e0, (by show 0 < sizeLine; decide), Same.mut (s9.trans sU) nD2, .inr (.inl ⟨by omega, by omega, U, upd_same, ?_⟩)⟩
          rw [upd_ne nUD, eU, hv, show (i : Int) - 1 = (lo : Int) by omega]
        · have hi0 : i = hi + 1 := by
            refine Decidable.byContradiction fun z => v0 ?_
            rw [hv, if_neg (by omega), if_neg z]
          rw [if_neg (by omega), if_pos hi0] at hv
          have nUD : U ≠ D2 := fun z => by rw [z, sTU _ _ e0] at eU; cases eU
          have ntD : t ≠ D2 := fun z => by rw [z, e0] at et; cases et
          refine ⟨_, sTU _ _ e0, (by show 1 < sizeLine; decide), Same.mut (s9.trans sU) nD2, .inr (.inr ⟨by omega, t, U, upd_same, ?_, ?_⟩)⟩
          · rw [upd_ne ntD]; exact sTU _ _ et
          · rw [upd_ne nUD, eU, hv, show (i : Int) - 1 = (hi : Int) by omega]
        · refine absurd ?_ v0
          rw [hv, if_neg (by omega), if_neg (by omega)]
      · have v0 : v = 0 := by
          refine Decidable.byContradiction fun z => e ?_
          show (!decide (V.int v = V.int 0)) = true
          rw [decide_eq_false fun y => z (V.int.inj y)]; rfl
        have n1 : i ≠ lo + 1 := fun z => vl0 (by rw [if_pos z] at hv; rw [← hv]; exact v0)
        have n2 : i ≠ hi + 1 := fun z => vh0 (by rw [if_neg n1, if_pos z] at hv; rw [← hv]; exact v0)
        refine ⟨s9, ?_⟩
        rcases st with ⟨h1, e0⟩ | ⟨h1, h2, t, e0, et⟩ | ⟨h1, t, u, e0, et, eu⟩
        · exact .inl ⟨by omega, sT _ _ e0⟩
        · exact .inr (.inl ⟨by omega, by omega, t, sT _ _ e0, sT _ _ et⟩)
        · exact .inr (.inr ⟨by omega, t, u, sT _ _ e0, sT _ _ et, sT _ _ eu⟩)
    · obtain ⟨s8, st⟩ := h
      rw [List.length_map, List.length_range] at st
      rcases st with ⟨h1, _⟩ | ⟨_, h2, _⟩ | ⟨_, t, u, eD, et, eu⟩
      · omega
      · omega
      have s18 : Same H H8 := s17.trans s8
      have hlh : (lo : Int) ≠ (hi : Int) := by omega
      refine ⟨.ref D2, rfl, D2, _, key2 t ((lo : Int), vl) ((hi : Int), vh), rfl, SqL.of eD, key2_ok et eu hlh, fun ys Y1 hs hst nY1 => ?_⟩
      obtain ⟨s9, y1, _⟩ := sort2 et eu hlh hs hst nY1
      have y1 := y1 (by omega)
      clear hs hst nY1
      generalize upd H8 Y1 (.lst ys) = H9 at s9 y1 ⊢
      have s19 := s18.trans s9
      refine ⟨.ref p, rfl, p, _, 0, .int (n : Int), rfl, rfl, sqT_same s19 hT, rfl, ?_⟩
      refine ⟨1, rfl, (by show 2 ≤ sizeLine; decide), fun A1 H10 nA1 _ hH10 => ?_⟩
      have s10 : Same H9 H10 := by rw [hH10]; exact same_new nA1
      have eA1 : H10 A1 = some (.tup [.int (n : Int), .int (-1)]) := by rw [hH10]; exact upd_same
      clear hH10
      refine ⟨.ref p, rfl, p, _, 1, .int (m : Int), rfl, rfl, sqT_same (s19.trans s10) hT, rfl, (by show 2 ≤ sizeLine; decide), fun A2 H11 nA2 _ hH11 => ?_⟩
      have s11 : Same H10 H11 := by rw [hH11]; exact same_new nA2
      have eA2 : H11 A2 = some (.tup [.int (m : Int), .int 1]) := by rw [hH11]; exact upd_same
      clear hH11
      refine ⟨(by show 2 ≤ sizeLine; decide), fun D3 H12 nD3 _ hH12 => ?_⟩
      have s12 : Same H11 H12 := by rw [hH12]; exact same_new nD3
      have eD3 : H12 D3 = some (.lst [.ref A1, .ref A2]) := by rw [hH12]; exact upd_same
      clear hH12
      have hnm : (n : Int) ≠ (m : Int) := by have := d.far; omega
      have eA1 := s12 _ _ (s11 _ _ eA1)
      have eA2 := s12 _ _ eA2
      refine ⟨D3, _, key2 A1 ((n : Int), -1) ((m : Int), 1), rfl, SqL.of eD3, key2_ok eA1 eA2 hnm, fun ys Y2 hs hst nY2 => ?_⟩
      obtain ⟨s13', y2, y3⟩ := sort2 eA1 eA2 hnm hs hst nY2
      clear hs hst nY2
      generalize upd H12 Y2 (.lst ys) = H13 at s13' y2 y3 ⊢
      have s913 : Same H9 H13 := s10.trans (s11.trans (s12.trans s13'))
      have dl : Dp K H13 (.ref Y1) (two lo vl hi vh) := dp_two (s913 _ _ y1) (s913 _ _ (s9 _ _ et)) (s913 _ _ (s9 _ _ eu))
      have dr : Dp K H13 (.ref Y2) (two lo vl hi vh) := by
        have eA1' := s13' _ _ eA1
        have eA2' := s13' _ _ eA2
        rcases who with ⟨rfl, rfl, rfl, rfl⟩ | ⟨rfl, rfl, rfl, rfl⟩
        · exact dp_two (y2 (by omega)) eA1' eA2'
        · exact dp_two (y3 (by omega)) eA2' eA1'
      refine ⟨_, _, dl, dr, shaped_two .., shaped_two .., _, rfl, ite2 (fun e => ?_) (fun _ => ?_)⟩
      · rw [eqv_two] at e; exact absurd e (by decide)
      have s20 : Same H H13 := s19.trans s913
      refine ⟨.str (S b), rfl, .ref p, rfl, p, _, 1, .int (m : Int), rfl, rfl, sqT_same s20 hT, rfl, .ref p, rfl, p, _, 0, .int (n : Int), rfl, rfl, sqT_same s20 hT, rfl, (by show 2 ≤ sizeLine; decide), fun A3 H14 nA3 _ hH14 => ?_⟩
      have s14 : Same H13 H14 := by rw [hH14]; exact same_new nA3
      have eA3 : H14 A3 = some (.tup [.int (m : Int), .int (n : Int)]) := by rw [hH14]; exact upd_same
      clear hH14
      have db : Dbl b m n := by rw [hb]; exact d.back
      have rb : rowB b = true := by rw [hb]; exact d.row hw
      refine ⟨b, A3, (m : Int), (n : Int), rfl, rb, SqT.of eA3, dbl_iff.mpr db, fun H15 s15 => ?_⟩
      rw [show swpd b (m : Int) (n : Int) = a by show exch (exch b m) n = a; rw [hb]; exact d.twice]
      refine ⟨.str (S a), rfl, rfl, ?_⟩
      show Q (V.bl (decide (V.str (S a) = V.str (S a)))) H15
      rw [decide_eq_true rfl]
      exact q _ (s20.trans (s14.trans s15))

end
end K14
namespace K14
open PySem PySem.Spec PyProof.Rows L2 Vx
section
variable {P : Program} {w : World} {K : PySem.W.Frag} {mg : Str → Option Value} {base : Heap}
theorem spots_mem {a : List Nat} {x y n i : Nat} (h : i ∈ spots a x y n) : a[i]? = some x ∧ a[i + 1]? = some y := by
  unfold spots at h
  have h2 := (List.mem_filter.mp h).2
  unfold at2 at h2
  simpa using h2
theorem all_dbl {a : List Nat} {p : Nat × Nat} (h : p ∈ allB a) : Dbl a p.1 p.2 := by
  unfold allB at h
  obtain ⟨i, hi, hp⟩ := List.mem_flatMap.mp h
  unfold mates at hp
  obtain ⟨j, hj, rfl⟩ := List.mem_map.mp hp
  obtain ⟨hj1, hj2⟩ := List.mem_filter.mp hj
  obtain ⟨h0, h1⟩ := spots_mem hi
  obtain ⟨g0, g1⟩ := spots_mem hj1
  refine ⟨h0, h1, g0, g1, ?_⟩
  have ne : i ≠ j := fun z => by rw [z, g0] at h0; cases h0
  simp only [Bool.not_eq_true', Bool.or_eq_false_iff, decide_eq_false_iff_not] at hj2
  show i + 2 ≤ j ∨ j + 2 ≤ i
  omega
abbrev tpD (p : Nat × Nat) : PyData := .tuple [.int (p.1 : Int), .int (p.2 : Int)]
theorem Tups.tail {H : Hp} {t : Addr} {ts : List Addr} {p : Nat × Nat} {ps : List (Nat × Nat)} (h : Tups H (t :: ts) (p :: ps)) : Tups H ts ps := ⟨by have := h.1; simpa using this, fun k u q h1 h2 => h.2 (k + 1) u q h1 h2⟩
theorem dp_tups {H : Hp} : ∀ {ts : List Addr} {ps : List (Nat × Nat)}, Tups H ts ps → DpAll K H (ts.map V.ref) (ps.map tpD)
  | [], [], _ => .nil
  | [], _ :: _, h => by cases h.1
  | _ :: _, [], h => by cases h.1
  | t :: ts, p :: ps, h => .cons (.tup (SqT.of (h.2 0 t p rfl rfl)) (.cons (.int _) (.cons (.int _) .nil))) (dp_tups h.tail)
theorem lay_tups : ∀ ps : List (Nat × Nat), PyData.canLayAll0 (ps.map tpD) = true ∧ PyData.depthAll (ps.map tpD) ≤ 3
  | [] => by simp [PyData.canLayAll0, PyData.depthAll]
  | p :: ps => by
    obtain ⟨h1, h2⟩ := lay_tups ps
    simp only [List.map_cons]
    refine ⟨by simp [PyData.canLayAll0, PyData.canLay0, h1], ?_⟩
    have e : (tpD p).depth ≤ 3 := by simp [PyData.depth, PyData.depthAll]
    rw [PyData.depthAll]
    exact Nat.max_le.mpr ⟨e, h2⟩
theorem shaped_tups (ps : List (Nat × Nat)) : SeqAt.shaped (.list (ps.map tpD)) = true := by
  obtain ⟨h1, h2⟩ := lay_tups ps
  have h3 : (PyData.list (ps.map tpD)).depth ≤ 64 := by
    rw [PyData.depth]
    exact Nat.le_trans (Nat.succ_le_succ h2) (by decide)
  have h4 : (PyData.list (ps.map tpD)).canLay0 = true := by
    rw [PyData.canLay0]
    exact h1
  unfold SeqAt.shaped
  rw [h4, decide_eq_true h3]; rfl
theorem eqv_tups_nil (ps : List (Nat × Nat)) : PyData.eqv (.list (ps.map tpD)) (.list []) = decide (ps = []) := by
  cases ps with
  | nil => simp [PyData.eqv, PyData.eqvAll]
  | cons p ps => simp [PyData.eqv, PyData.eqvAll]
theorem flat_le {α β : Type} {f : α → List β} {c : Nat} (h : ∀ x, (f x).length ≤ c) : ∀ l : List α, (l.flatMap f).length ≤ l.length * c
  | [] => by simp
  | x :: l => by
    have := flat_le h l
    have := h x
    rw [List.flatMap_cons, List.length_append, List.length_cons, Nat.succ_mul]
    omega
theorem all_le {x : List Nat} (h : x.length ≤ 200) : (allB x).length ≤ 40000 := by
  unfold allB
  have h1 := flat_le (f := mates (spots x 98 97 x.length)) (c := 200) (fun i => Nat.le_trans (mates_le _ i) (Nat.le_trans (spots_le x 98 97 x.length) h)) (spots x 97 98 x.length)
  have h2 := spots_le x 97 98 x.length
  omega
theorem ok_law {f f1 f2 f3 f4 f5 f6 : Addr} {fd fd1 fd2 fd3 fd4 fd5 fd6 : FuncData} (F : Fun K "law" "law" st_law f fd)
    (F_law_bag : Fun K "_law_bag" "_law_bag" st_law_bag f1 fd1) (G_law_bag : FnOk P w K mg base CX0 1 f1 fd1 ["script"] (spBag K)) (b_law_bag : Binds K fd1 ["script"] []) (g_law_bag : mg "_law_bag" = some (.ref f1))
    (F_law_draw : Fun K "_law_draw" "_law_draw" st_law_draw f2 fd2) (G_law_draw : FnOk P w K mg base CX0 2 f2 fd2 ["bag", "bound"] spDrawB) (b_law_draw : Binds K fd2 ["bag", "bound"] []) (g_law_draw : mg "_law_draw" = some (.ref f2))
    (F_law_letters : Fun K "_law_letters" "_law_letters" st_law_letters f3 fd3) (G_law_letters : FnOk P w K mg base CX0 3 f3 fd3 ["bag", "most"] spLetters) (b_law_letters : Binds K fd3 ["bag", "most"] []) (g_law_letters : mg "_law_letters" = some (.ref f3))
    (F_law_all : Fun K "_law_all" "_law_all" st_law_all f4 fd4) (G_law_all : FnOk P w K mg base CX0 1 f4 fd4 ["letters"] spAll) (b_law_all : Binds K fd4 ["letters"] []) (g_law_all : mg "_law_all" = some (.ref f4))
    (F_law_right : Fun K "_law_right" "_law_right" st_law_right f5 fd5) (G_law_right : FnOk P w K mg base CX0 5 f5 fd5 ["letters", "swap"] (spRight14 K)) (b_law_right : Binds K fd5 ["letters", "swap"] []) (g_law_right : mg "_law_right" = some (.ref f5))
    (F_swapped : Fun K "swapped" "swapped" st_swapped f6 fd6) (G_swapped : FnOk P w K mg base CX0 4 f6 fd6 ["row", "swap"] (spSwapped K)) (b_swapped : Binds K fd6 ["row", "swap"] []) (g_swapped : mg "swapped" = some (.ref f6))
    (m_range : mg "range" = none) (m_min : mg "min" = none) (m_len : mg "len" = none) : FnOk P w K mg base CX0 6 f fd ["script"] (spLaw K) := by
  refine F.ok sc_law (fun vs H Q E h => ?_) (fun cdv A outer s H vs Q E hr h => ?_)
  · obtain ⟨a, ns, rfl, _⟩ := h; rfl
  obtain ⟨a, ns, rfl, hS, hlen, q⟩ := h
  refine ⟨_, (pss_cons (ps_set (i := 1) sc_law.nd rfl (Or.inl rfl) (pe_call G_law_bag (hr.mono (by omega)) (by rfl) g_law_bag F_law_bag.kp b_law_bag .nil pass0 (pa_cons (pv 0) pa_nil)))
    (pss_cons (ps_for PassesOwn.never rfl (pi_range1 rfl m_range (pa_cons (pe_op op_add pe_int (pe_callB (call_min2 rfl) (by rfl) m_min (by decide +kernel) (pa_cons pe_int (pa_cons (pe_callB call_len_seq (by rfl) m_len PySem.boot_len (pa_cons (pv 0) pa_nil)) pa_nil)))) pa_nil)) (pg_name (i := 2) sc_law.nd rfl (Or.inl rfl)) (pss_cons (ps_set (i := 3) sc_law.nd rfl (Or.inr rfl) (pe_call G_law_letters (hr.mono (by omega)) (by rfl) g_law_letters F_law_letters.kp b_law_letters .nil pass0 (pa_cons (pv 1) (pa_cons pe_int pa_nil))))
    (pss_cons (ps_if (pt_cmpR (op_neD hr.units) (pe_lc (own := [("swap", 4)]) rfl sc_law.nd (pi_list (pe_call G_law_all (hr.mono (by omega)) (by rfl) g_law_all F_law_all.kp b_law_all .nil pass0 (pa_cons (pv 3) pa_nil))) (blkOk_by (own := [("swap", 4)]) (N := N_law) (sc := defScope st_law) (by decide +kernel)) (fun _ _ _ _ _ => (pg_name (i := 4) sc_law.nd rfl (Or.inl rfl))) (fun _ _ _ _ _ => (pts_one (pt_not (pt_val (pe_call G_law_right (hr.mono (by omega)) (by rfl) g_law_right F_law_right.kp b_law_right .nil pass0 (pa_cons (pv 3) (pa_cons (pv 4) pa_nil))))))) (fun _ _ _ _ _ => (pv 4))) (peq_lst pa_nil) (nomark _)) (pss_one (ps_ret pe_bl)) pss_nil)
    (pss_cons (ps_set (i := 3) sc_law.nd rfl (Or.inr rfl) (pe_call G_law_letters (hr.mono (by omega)) (by rfl) g_law_letters F_law_letters.kp b_law_letters .nil pass0 (pa_cons (pv 1) (pa_cons (pe_ix ix_list (peq_lst (pa_cons pe_int (pa_cons pe_int pa_nil))) (pe_call G_law_draw (hr.mono (by omega)) (by rfl) g_law_draw F_law_draw.kp b_law_draw .nil pass0 (pa_cons (pv 1) (pa_cons pe_int pa_nil))) (fun _ _ => rfl)) pa_nil))))
    (pss_one (ps_for PassesOwn.never rfl (pi_range1 rfl m_range (pa_cons pe_int pa_nil)) (pg_name (i := 5) sc_law.nd rfl (Or.inl rfl)) (pss_cons (ps_set (i := 6) sc_law.nd rfl (Or.inl rfl) (pe_call G_law_all (hr.mono (by omega)) (by rfl) g_law_all F_law_all.kp b_law_all .nil pass0 (pa_cons (pv 3) pa_nil)))
    (pss_one (ps_if (pt_cmpR (op_neD hr.units) (pv 6) (peq_lst pa_nil) (nomark _)) (pss_cons (ps_set (i := 4) sc_law.nd rfl (Or.inl rfl) (pe_ix ix_list (pv 6) (pe_call G_law_draw (hr.mono (by omega)) (by rfl) g_law_draw F_law_draw.kp b_law_draw .nil pass0 (pa_cons (pv 1) (pa_cons (pe_callB call_len_seq (by rfl) m_len PySem.boot_len (pa_cons (pv 6) pa_nil)) pa_nil))) (fun _ _ => rfl)))
    (pss_cons (ps_if (pt_not (pt_val (pe_call G_law_right (hr.mono (by omega)) (by rfl) g_law_right F_law_right.kp b_law_right .nil pass0 (pa_cons (pv 3) (pa_cons (pv 4) pa_nil))))) (pss_one (ps_ret pe_bl)) pss_nil)
    (pss_one (ps_set (i := 3) sc_law.nd rfl (Or.inr rfl) (pe_call G_swapped (hr.mono (by omega)) (by rfl) g_swapped F_swapped.kp b_swapped .nil pass0 (pa_cons (pv 3) (pa_cons (pv 4) pa_nil))))))) pss_nil)))))))))
    (pss_one (ps_ret (pe_and (pe_cmpR op_eq (pe_call G_swapped (hr.mono (by omega)) (by rfl) g_swapped F_swapped.kp b_swapped .nil pass0 (pa_cons pe_str (pa_cons (peq_tup (pa_cons pe_int (pa_cons pe_int pa_nil))) pa_nil))) pe_str (nomark _)) (pe_one (pe_cmpR op_eq (pe_call G_swapped (hr.mono (by omega)) (by rfl) g_swapped F_swapped.kp b_swapped .nil pass0 (pa_cons pe_str (pa_cons (peq_tup (pa_cons pe_int (pa_cons pe_int pa_nil))) pa_nil))) pe_str (nomark _)))))))), ?_⟩
  refine ⟨.ref a, rfl, a, ns, rfl, hS, hlen, fun r g H1 s1 nr B1 => ?_⟩
  refine ⟨.ref a, rfl, a, ns.map V.int, rfl, .inl (s1.seq hS), _, _, rfl, 4, _, rfl, rfl, ?_⟩
  have hmany : ∃ n : Nat, (4 : Int) + (if ((ns.map V.int).length : Int) < (6 : Int) then ((ns.map V.int).length : Int) else (6 : Int)) = (n : Int) ∧ n ≤ 10 := by
    by_cases h : ((ns.map V.int).length : Int) < (6 : Int)
    · rw [if_pos h]; exact ⟨4 + (ns.map V.int).length, by omega, by omega⟩
    · rw [if_neg h]; exact ⟨10, rfl, by decide⟩
  obtain ⟨many, hm, hm10⟩ := hmany
  refine ⟨(many : Int), by rw [← hm], by omega, by omega, for_range (lo := 0) (n := many) (fun i σ H' => BagAt H' r g ns (20000 * i) ∧ ∃ y2 y3 y4 y5 y6, σ = [some (.ref a), some (.ref r), y2, y3, y4, y5, y6]) ⟨B1, none, none, none, none, none, rfl⟩ (fun i σ H' hi h => ?_) (fun σ H' h => ?_)⟩
  · obtain ⟨BB, y2, y3, y4, y5, y6, rfl⟩ := h
    refine ⟨.ref r, rfl, r, g, ns, _, 9, rfl, BB, by omega, by decide, by decide, fun x H2 lx ax k2 B2 => ?_⟩
    have hx : rowB x = true := rowB_of ⟨ax, by omega⟩
    refine ⟨.str (S x), rfl, x, rfl, by omega, fun D ts H3 s3 nD eD T3 nts => ?_⟩
    refine ⟨D, rfl, ⟨_, SqL.of eD⟩, fun D2 nD2 => ?_⟩
    refine lc_list (xs := ts.map V.ref) (fun i H' => Same H3 H' ∧ H' D2 = some (.lst [])) ⟨same_new nD2, upd_same⟩ (fun i H' _ h => SqL.of (h.1 _ _ eD)) (fun i v H4 hv h => ?_) (fun H4 h => ?_)
    · obtain ⟨s4, e4⟩ := h
      rw [List.getElem?_map] at hv
      obtain ⟨t, ht, rfl⟩ := Option.map_eq_some_iff.mp hv
      have lt : i < (allB x).length := by rw [← T3.1]; exact (List.getElem?_eq_some_iff.mp ht).1
      have gp : (allB x)[i]? = some (allB x)[i] := List.getElem?_eq_getElem lt
      have et := s4 _ _ (T3.2 i t _ ht gp)
      have d : Dbl x (allB x)[i].1 (allB x)[i].2 := all_dbl (List.getElem_mem lt)
      exact ⟨rfl, .str (S x), rfl, .ref t, rfl, x, t, _, _, rfl, hx, SqT.of et, d, fun H5 s5 => ⟨_, rfl, s4.trans s5, s5 _ _ e4⟩⟩
    · obtain ⟨s4, e4⟩ := h
      refine ⟨(by show 0 ≤ sizeLine; decide), fun p5 H5 n5 _ hH5 => ?_⟩
      have s5 : Same H4 H5 := by rw [hH5]; exact same_new n5
      have e5 : H5 p5 = some (.lst []) := by rw [hH5]; exact upd_same
      clear hH5
      refine ⟨_, _, .lst (SqL.of (s5 _ _ e4)) .nil, .lst (SqL.of e5) .nil, shaped_nil, shaped_nil, false, by rw [eqv_nil]; rfl, ?_⟩
      have B5 : BagAt H5 r g ns (20000 * i + 5000) := B2.mono (s3.trans (s4.trans s5))
      refine ⟨.ref r, rfl, (by show 2 ≤ sizeLine; decide), fun p6 H6 n6 _ hH6 => ?_⟩
      have s6 : Same H5 H6 := by rw [hH6]; exact same_new n6
      have e6 : H6 p6 = some (.lst [.int 30, .int 200]) := by rw [hH6]; exact upd_same
      have n6r : p6 ≠ r := by
        rintro rfl
        obtain ⟨_, _, _, _, e, _⟩ := B5.ex
        rw [n6] at e; cases e
      clear hH6
      refine ⟨.ref r, rfl, r, g, ns, _, 2, rfl, B5.mono s6, by omega, by decide, by decide, fun dd H7 d0 d2 k7 B7 => ?_⟩
      have hhi : ∃ hi : Int, atI [V.int 30, .int 200] dd = some (.int hi) ∧ 0 ≤ hi ∧ hi ≤ 200 := by
        have : dd = 0 ∨ dd = 1 := by omega
        rcases this with h | h
        · exact ⟨30, at_of (j := 0) h rfl, by decide, by decide⟩
        · exact ⟨200, at_of (j := 1) h rfl, by decide, by decide⟩
      obtain ⟨hi', hat, h0', h200⟩ := hhi
      refine ⟨p6, _, dd, .int hi', rfl, rfl, SqL.of (k7 _ _ n6r e6), hat, r, g, ns, _, hi', rfl, B7, by omega, h0', by omega, fun z H8 lz az k8 B8 => ?_⟩
      have hz : rowB z = true := rowB_of ⟨az, by omega⟩
      refine ⟨12, rfl, by decide, by decide, for_range (lo := 0) (n := 12) (fun j σ H' => BagAt H' r g ns (20000 * i + 11000 + j) ∧ ∃ x y2 y4 y5 y6, rowB x = true ∧ σ = [some (.ref a), some (.ref r), y2, some (.str (S x)), y4, y5, y6]) ⟨B8.more (by omega), z, _, _, _, _, hz, rfl⟩ (fun j σ V0 hj h => ?_) (fun σ V0 h => ?_)⟩
      · obtain ⟨BV, x, y2, y4, y5, y6, hx, rfl⟩ := h
        have hxl := row_len hx
        refine ⟨.str (S x), rfl, x, rfl, by omega, fun D ts V1 v1 nD eD T1 nts => ?_⟩
        refine ⟨.ref D, rfl, (by show 0 ≤ sizeLine; decide), fun pE V2 nE _ hV2 => ?_⟩
        have v2 : Same V1 V2 := by rw [hV2]; exact same_new nE
        have eE : V2 pE = some (.lst []) := by rw [hV2]; exact upd_same
        clear hV2
        refine ⟨_, _, .lst (SqL.of (v2 _ _ eD)) (dp_tups (T1.same v2)), .lst (SqL.of eE) .nil, shaped_tups _, shaped_nil, _, rfl, ?_⟩
        rw [eqv_tups_nil]
        have BW := (BV.mono v1).mono v2
        refine ite2 (fun e => ?_) (fun e => ?_)
        · have hne : allB x ≠ [] := fun z => by rw [z] at e; exact absurd e (by decide)
          have lpos : 0 < ts.length := by rw [T1.1]; exact List.length_pos_iff.mpr hne
          have lmax : ts.length ≤ 40000 := by rw [T1.1]; exact all_le hxl
          have rsome : ∃ o, V0 r = some o := by
            obtain ⟨_, _, _, _, e, _⟩ := BV.ex
            exact ⟨_, e⟩
          have offr : ∀ c, V0 c = none → c ≠ r := by
            rintro c hc rfl
            obtain ⟨o, ho⟩ := rsome
            rw [hc] at ho; cases ho
          have mb : (((ts.map V.ref).length : Nat) : Int).natAbs < 2 ^ 8000 := by
            rw [List.length_map]
            exact Nat.lt_of_le_of_lt (m := 40000) (by omega) (Nat.lt_of_lt_of_le (show 40000 < 2 ^ 16 by decide) (Nat.pow_le_pow_right (by decide) (by decide)))
          refine ⟨.ref D, rfl, .ref r, rfl, .ref D, rfl, D, ts.map V.ref, rfl, .inl (SqL.of (v2 _ _ eD)), r, g, ns, _, _, rfl, BW, by omega, by rw [List.length_map]; omega, mb, fun dd V3 d0 d1 k3 B3 => ?_⟩
          obtain ⟨n, rfl⟩ : ∃ n : Nat, dd = (n : Int) := ⟨dd.toNat, by omega⟩
          rw [List.length_map] at d1
          have hn : n < ts.length := by omega
          have gt : ts[n]? = some ts[n] := List.getElem?_eq_getElem hn
          have lt : n < (allB x).length := by rw [← T1.1]; exact hn
          have gp : (allB x)[n]? = some (allB x)[n] := List.getElem?_eq_getElem lt
          have et := k3 _ _ (offr _ (nts _ (List.getElem_mem hn))) (v2 _ _ (T1.2 n _ _ gt gp))
          have dbl : Dbl x (allB x)[n].1 (allB x)[n].2 := all_dbl (List.getElem_mem lt)
          refine ⟨D, _, (n : Int), .ref ts[n], rfl, rfl, SqL.of (k3 _ _ (offr _ nD) (v2 _ _ eD)), atI_nat (by rw [List.getElem?_map, gt]; rfl), ?_⟩
          generalize ts[n] = t at et ⊢
          refine ⟨.str (S x), rfl, .ref t, rfl, x, t, _, _, rfl, hx, SqT.of et, dbl, fun V4 v4 => ⟨_, rfl, ?_⟩⟩
          refine ⟨.str (S x), rfl, .ref t, rfl, x, t, _, _, rfl, hx, SqT.of (v4 _ _ et), dbl_iff.mpr dbl, fun V5 v5 => ?_⟩
          exact ⟨((B3.mono v4).mono v5).more (by omega), _, _, _, _, _, dbl.row hx, rfl⟩
        · exact ⟨BW.more (by omega), x, _, _, _, _, hx, rfl⟩
      · obtain ⟨BV, x, y2, y4, y5, y6, hx, rfl⟩ := h
        exact ⟨BV.more (by omega), _, _, _, _, _, rfl⟩
  · obtain ⟨BB, y2, y3, y4, y5, y6, rfl⟩ := h
    refine ⟨(by show 2 ≤ sizeLine; decide), fun p1 H2 n1 _ hH2 => ?_⟩
    have e1 : H2 p1 = some (.tup [.int 0, .int 2]) := by rw [hH2]; exact upd_same
    clear hH2
    refine ⟨[97, 98, 98, 97], p1, 0, 2, rfl, by decide, SqT.of e1, by decide, fun H3 s3 => ⟨rfl, _, rfl, ite2 (fun _ => ?_) (fun e => absurd (by decide) e)⟩⟩
    refine ⟨(by show 2 ≤ sizeLine; decide), fun p4 H4 n4 _ hH4 => ?_⟩
    have e4 : H4 p4 = some (.tup [.int 2, .int 0]) := by rw [hH4]; exact upd_same
    clear hH4
    refine ⟨[98, 97, 97, 98], p4, 2, 0, rfl, by decide, SqT.of e4, by decide, fun H5 s5 => ⟨rfl, ?_⟩⟩
    exact q H5

end
end K14
namespace K14
open PySem PySem.Spec PyProof.Rows L2 Vx
theorem all_mk {l : PySem.W.OpenLaw} {w : World} {K : PySem.W.Frag} {h : Heap} {mg : Str → Option Value} {fa : Addr} (X : K.In h) (G : h.Ns mainGlobals mg) (hfa : mg "law" = some (.ref fa))
    {ais_integer : Addr} {od_is_integer an_is_integer : Option Addr} {sl_is_integer : Array (Option Value)} {oc_is_integer kV_is_integer dc_is_integer pm_is_integer cd_is_integer ct_is_integer : Value}
    (n_is_integer : PySem.W.nsIn K mainGlobals "is_integer" = some (some (.ref ais_integer))) (l_is_integer : K.lookup ais_integer = some ⟨oc_is_integer, od_is_integer, .func (PySem.W.fnOf "is_integer" "is_integer" (defArgs st_is_integer) (defBody st_is_integer) (defScope st_is_integer) .none kV_is_integer dc_is_integer pm_is_integer an_is_integer cd_is_integer ct_is_integer), sl_is_integer⟩) (c_is_integer : PySem.W.codeIn K cd_is_integer "is_integer" = true) (k_is_integer : PySem.W.keepIn K (.ref ais_integer) = true)
    {ais_row : Addr} {od_is_row an_is_row : Option Addr} {sl_is_row : Array (Option Value)} {oc_is_row kV_is_row dc_is_row pm_is_row cd_is_row ct_is_row : Value}
    (n_is_row : PySem.W.nsIn K mainGlobals "is_row" = some (some (.ref ais_row))) (l_is_row : K.lookup ais_row = some ⟨oc_is_row, od_is_row, .func (PySem.W.fnOf "is_row" "is_row" (defArgs st_is_row) (defBody st_is_row) (defScope st_is_row) .none kV_is_row dc_is_row pm_is_row an_is_row cd_is_row ct_is_row), sl_is_row⟩) (c_is_row : PySem.W.codeIn K cd_is_row "is_row" = true) (k_is_row : PySem.W.keepIn K (.ref ais_row) = true)
    {acheck_row : Addr} {od_check_row an_check_row : Option Addr} {sl_check_row : Array (Option Value)} {oc_check_row kV_check_row dc_check_row pm_check_row cd_check_row ct_check_row : Value}
    (n_check_row : PySem.W.nsIn K mainGlobals "check_row" = some (some (.ref acheck_row))) (l_check_row : K.lookup acheck_row = some ⟨oc_check_row, od_check_row, .func (PySem.W.fnOf "check_row" "check_row" (defArgs st_check_row) (defBody st_check_row) (defScope st_check_row) .none kV_check_row dc_check_row pm_check_row an_check_row cd_check_row ct_check_row), sl_check_row⟩) (c_check_row : PySem.W.codeIn K cd_check_row "check_row" = true) (k_check_row : PySem.W.keepIn K (.ref acheck_row) = true)
    {ahas_at : Addr} {od_has_at an_has_at : Option Addr} {sl_has_at : Array (Option Value)} {oc_has_at kV_has_at dc_has_at pm_has_at cd_has_at ct_has_at : Value}
    (n_has_at : PySem.W.nsIn K mainGlobals "_has_at" = some (some (.ref ahas_at))) (l_has_at : K.lookup ahas_at = some ⟨oc_has_at, od_has_at, .func (PySem.W.fnOf "_has_at" "_has_at" (defArgs st_has_at) (defBody st_has_at) (defScope st_has_at) .none kV_has_at dc_has_at pm_has_at an_has_at cd_has_at ct_has_at), sl_has_at⟩) (c_has_at : PySem.W.codeIn K cd_has_at "_has_at" = true) (k_has_at : PySem.W.keepIn K (.ref ahas_at) = true)
    {ais_apart : Addr} {od_is_apart an_is_apart : Option Addr} {sl_is_apart : Array (Option Value)} {oc_is_apart kV_is_apart dc_is_apart pm_is_apart cd_is_apart ct_is_apart : Value}
    (n_is_apart : PySem.W.nsIn K mainGlobals "_is_apart" = some (some (.ref ais_apart))) (l_is_apart : K.lookup ais_apart = some ⟨oc_is_apart, od_is_apart, .func (PySem.W.fnOf "_is_apart" "_is_apart" (defArgs st_is_apart) (defBody st_is_apart) (defScope st_is_apart) .none kV_is_apart dc_is_apart pm_is_apart an_is_apart cd_is_apart ct_is_apart), sl_is_apart⟩) (c_is_apart : PySem.W.codeIn K cd_is_apart "_is_apart" = true) (k_is_apart : PySem.W.keepIn K (.ref ais_apart) = true)
    {ais_swap : Addr} {od_is_swap an_is_swap : Option Addr} {sl_is_swap : Array (Option Value)} {oc_is_swap kV_is_swap dc_is_swap pm_is_swap cd_is_swap ct_is_swap : Value}
    (n_is_swap : PySem.W.nsIn K mainGlobals "is_swap" = some (some (.ref ais_swap))) (l_is_swap : K.lookup ais_swap = some ⟨oc_is_swap, od_is_swap, .func (PySem.W.fnOf "is_swap" "is_swap" (defArgs st_is_swap) (defBody st_is_swap) (defScope st_is_swap) .none kV_is_swap dc_is_swap pm_is_swap an_is_swap cd_is_swap ct_is_swap), sl_is_swap⟩) (c_is_swap : PySem.W.codeIn K cd_is_swap "is_swap" = true) (k_is_swap : PySem.W.keepIn K (.ref ais_swap) = true)
    {aswapped : Addr} {od_swapped an_swapped : Option Addr} {sl_swapped : Array (Option Value)} {oc_swapped kV_swapped dc_swapped pm_swapped cd_swapped ct_swapped : Value}
    (n_swapped : PySem.W.nsIn K mainGlobals "swapped" = some (some (.ref aswapped))) (l_swapped : K.lookup aswapped = some ⟨oc_swapped, od_swapped, .func (PySem.W.fnOf "swapped" "swapped" (defArgs st_swapped) (defBody st_swapped) (defScope st_swapped) .none kV_swapped dc_swapped pm_swapped an_swapped cd_swapped ct_swapped), sl_swapped⟩) (c_swapped : PySem.W.codeIn K cd_swapped "swapped" = true) (k_swapped : PySem.W.keepIn K (.ref aswapped) = true)
    {alaw_bag : Addr} {od_law_bag an_law_bag : Option Addr} {sl_law_bag : Array (Option Value)} {oc_law_bag kV_law_bag dc_law_bag pm_law_bag cd_law_bag ct_law_bag : Value}
    (n_law_bag : PySem.W.nsIn K mainGlobals "_law_bag" = some (some (.ref alaw_bag))) (l_law_bag : K.lookup alaw_bag = some ⟨oc_law_bag, od_law_bag, .func (PySem.W.fnOf "_law_bag" "_law_bag" (defArgs st_law_bag) (defBody st_law_bag) (defScope st_law_bag) .none kV_law_bag dc_law_bag pm_law_bag an_law_bag cd_law_bag ct_law_bag), sl_law_bag⟩) (c_law_bag : PySem.W.codeIn K cd_law_bag "_law_bag" = true) (k_law_bag : PySem.W.keepIn K (.ref alaw_bag) = true)
    {alaw_stir : Addr} {od_law_stir an_law_stir : Option Addr} {sl_law_stir : Array (Option Value)} {oc_law_stir kV_law_stir dc_law_stir pm_law_stir cd_law_stir ct_law_stir : Value}
    (n_law_stir : PySem.W.nsIn K mainGlobals "_law_stir" = some (some (.ref alaw_stir))) (l_law_stir : K.lookup alaw_stir = some ⟨oc_law_stir, od_law_stir, .func (PySem.W.fnOf "_law_stir" "_law_stir" (defArgs st_law_stir) (defBody st_law_stir) (defScope st_law_stir) .none kV_law_stir dc_law_stir pm_law_stir an_law_stir cd_law_stir ct_law_stir), sl_law_stir⟩) (c_law_stir : PySem.W.codeIn K cd_law_stir "_law_stir" = true) (k_law_stir : PySem.W.keepIn K (.ref alaw_stir) = true)
    {alaw_draw : Addr} {od_law_draw an_law_draw : Option Addr} {sl_law_draw : Array (Option Value)} {oc_law_draw kV_law_draw dc_law_draw pm_law_draw cd_law_draw ct_law_draw : Value}
    (n_law_draw : PySem.W.nsIn K mainGlobals "_law_draw" = some (some (.ref alaw_draw))) (l_law_draw : K.lookup alaw_draw = some ⟨oc_law_draw, od_law_draw, .func (PySem.W.fnOf "_law_draw" "_law_draw" (defArgs st_law_draw) (defBody st_law_draw) (defScope st_law_draw) .none kV_law_draw dc_law_draw pm_law_draw an_law_draw cd_law_draw ct_law_draw), sl_law_draw⟩) (c_law_draw : PySem.W.codeIn K cd_law_draw "_law_draw" = true) (k_law_draw : PySem.W.keepIn K (.ref alaw_draw) = true)
    {alaw_letters : Addr} {od_law_letters an_law_letters : Option Addr} {sl_law_letters : Array (Option Value)} {oc_law_letters kV_law_letters dc_law_letters pm_law_letters cd_law_letters ct_law_letters : Value}
    (n_law_letters : PySem.W.nsIn K mainGlobals "_law_letters" = some (some (.ref alaw_letters))) (l_law_letters : K.lookup alaw_letters = some ⟨oc_law_letters, od_law_letters, .func (PySem.W.fnOf "_law_letters" "_law_letters" (defArgs st_law_letters) (defBody st_law_letters) (defScope st_law_letters) .none kV_law_letters dc_law_letters pm_law_letters an_law_letters cd_law_letters ct_law_letters), sl_law_letters⟩) (c_law_letters : PySem.W.codeIn K cd_law_letters "_law_letters" = true) (k_law_letters : PySem.W.keepIn K (.ref alaw_letters) = true)
    {alaw_pairs : Addr} {od_law_pairs an_law_pairs : Option Addr} {sl_law_pairs : Array (Option Value)} {oc_law_pairs kV_law_pairs dc_law_pairs pm_law_pairs cd_law_pairs ct_law_pairs : Value}
    (n_law_pairs : PySem.W.nsIn K mainGlobals "_law_pairs" = some (some (.ref alaw_pairs))) (l_law_pairs : K.lookup alaw_pairs = some ⟨oc_law_pairs, od_law_pairs, .func (PySem.W.fnOf "_law_pairs" "_law_pairs" (defArgs st_law_pairs) (defBody st_law_pairs) (defScope st_law_pairs) .none kV_law_pairs dc_law_pairs pm_law_pairs an_law_pairs cd_law_pairs ct_law_pairs), sl_law_pairs⟩) (c_law_pairs : PySem.W.codeIn K cd_law_pairs "_law_pairs" = true) (k_law_pairs : PySem.W.keepIn K (.ref alaw_pairs) = true)
    {alaw_prefix : Addr} {od_law_prefix an_law_prefix : Option Addr} {sl_law_prefix : Array (Option Value)} {oc_law_prefix kV_law_prefix dc_law_prefix pm_law_prefix cd_law_prefix ct_law_prefix : Value}
    (n_law_prefix : PySem.W.nsIn K mainGlobals "_law_prefix" = some (some (.ref alaw_prefix))) (l_law_prefix : K.lookup alaw_prefix = some ⟨oc_law_prefix, od_law_prefix, .func (PySem.W.fnOf "_law_prefix" "_law_prefix" (defArgs st_law_prefix) (defBody st_law_prefix) (defScope st_law_prefix) .none kV_law_prefix dc_law_prefix pm_law_prefix an_law_prefix cd_law_prefix ct_law_prefix), sl_law_prefix⟩) (c_law_prefix : PySem.W.codeIn K cd_law_prefix "_law_prefix" = true) (k_law_prefix : PySem.W.keepIn K (.ref alaw_prefix) = true)
    {alaw_counts : Addr} {od_law_counts an_law_counts : Option Addr} {sl_law_counts : Array (Option Value)} {oc_law_counts kV_law_counts dc_law_counts pm_law_counts cd_law_counts ct_law_counts : Value}
    (n_law_counts : PySem.W.nsIn K mainGlobals "_law_counts" = some (some (.ref alaw_counts))) (l_law_counts : K.lookup alaw_counts = some ⟨oc_law_counts, od_law_counts, .func (PySem.W.fnOf "_law_counts" "_law_counts" (defArgs st_law_counts) (defBody st_law_counts) (defScope st_law_counts) .none kV_law_counts dc_law_counts pm_law_counts an_law_counts cd_law_counts ct_law_counts), sl_law_counts⟩) (c_law_counts : PySem.W.codeIn K cd_law_counts "_law_counts" = true) (k_law_counts : PySem.W.keepIn K (.ref alaw_counts) = true)
    {alaw_all : Addr} {od_law_all an_law_all : Option Addr} {sl_law_all : Array (Option Value)} {oc_law_all kV_law_all dc_law_all pm_law_all cd_law_all ct_law_all : Value}
    (n_law_all : PySem.W.nsIn K mainGlobals "_law_all" = some (some (.ref alaw_all))) (l_law_all : K.lookup alaw_all = some ⟨oc_law_all, od_law_all, .func (PySem.W.fnOf "_law_all" "_law_all" (defArgs st_law_all) (defBody st_law_all) (defScope st_law_all) .none kV_law_all dc_law_all pm_law_all an_law_all cd_law_all ct_law_all), sl_law_all⟩) (c_law_all : PySem.W.codeIn K cd_law_all "_law_all" = true) (k_law_all : PySem.W.keepIn K (.ref alaw_all) = true)
    {alaw_after : Addr} {od_law_after an_law_after : Option Addr} {sl_law_after : Array (Option Value)} {oc_law_after kV_law_after dc_law_after pm_law_after cd_law_after ct_law_after : Value}
    (n_law_after : PySem.W.nsIn K mainGlobals "_law_after" = some (some (.ref alaw_after))) (l_law_after : K.lookup alaw_after = some ⟨oc_law_after, od_law_after, .func (PySem.W.fnOf "_law_after" "_law_after" (defArgs st_law_after) (defBody st_law_after) (defScope st_law_after) .none kV_law_after dc_law_after pm_law_after an_law_after cd_law_after ct_law_after), sl_law_after⟩) (c_law_after : PySem.W.codeIn K cd_law_after "_law_after" = true) (k_law_after : PySem.W.keepIn K (.ref alaw_after) = true)
    {alaw_right : Addr} {od_law_right an_law_right : Option Addr} {sl_law_right : Array (Option Value)} {oc_law_right kV_law_right dc_law_right pm_law_right cd_law_right ct_law_right : Value}
    (n_law_right : PySem.W.nsIn K mainGlobals "_law_right" = some (some (.ref alaw_right))) (l_law_right : K.lookup alaw_right = some ⟨oc_law_right, od_law_right, .func (PySem.W.fnOf "_law_right" "_law_right" (defArgs st_law_right) (defBody st_law_right) (defScope st_law_right) .none kV_law_right dc_law_right pm_law_right an_law_right cd_law_right ct_law_right), sl_law_right⟩) (c_law_right : PySem.W.codeIn K cd_law_right "_law_right" = true) (k_law_right : PySem.W.keepIn K (.ref alaw_right) = true)
    {alaw : Addr} {od_law an_law : Option Addr} {sl_law : Array (Option Value)} {oc_law kV_law dc_law pm_law cd_law ct_law : Value}
    (n_law : PySem.W.nsIn K mainGlobals "law" = some (some (.ref alaw))) (l_law : K.lookup alaw = some ⟨oc_law, od_law, .func (PySem.W.fnOf "law" "law" (defArgs st_law) (defBody st_law) (defScope st_law) .none kV_law dc_law pm_law an_law cd_law ct_law), sl_law⟩) (c_law : PySem.W.codeIn K cd_law "law" = true) (k_law : PySem.W.keepIn K (.ref alaw) = true)
    (z_abs : PySem.W.nsIn K mainGlobals "abs" = some none)
    (z_bool : PySem.W.nsIn K mainGlobals "bool" = some none)
    (z_enumerate : PySem.W.nsIn K mainGlobals "enumerate" = some none)
    (z_int : PySem.W.nsIn K mainGlobals "int" = some none)
    (z_isinstance : PySem.W.nsIn K mainGlobals "isinstance" = some none)
    (z_len : PySem.W.nsIn K mainGlobals "len" = some none)
    (z_list : PySem.W.nsIn K mainGlobals "list" = some none)
    (z_min : PySem.W.nsIn K mainGlobals "min" = some none)
    (z_range : PySem.W.nsIn K mainGlobals "range" = some none)
    (z_sorted : PySem.W.nsIn K mainGlobals "sorted" = some none)
    (z_str : PySem.W.nsIn K mainGlobals "str" = some none)
    (z_tuple : PySem.W.nsIn K mainGlobals "tuple" = some none)
    (z_type : PySem.W.nsIn K mainGlobals "type" = some none)
    (z_zip : PySem.W.nsIn K mainGlobals "zip" = some none)
    {t_MOST_LETTERS : Tok} (y_MOST_LETTERS : PySem.W.nsIn K mainGlobals "MOST_LETTERS" = some (some (.int 200 t_MOST_LETTERS)))
    : ∃ fd : FuncData, (∀ (s : Shared) (v : Value), BindsTo s fd ⟨[v], []⟩ [("script", v)]) ∧ ∀ base : Heap, K.In base → base.Ns mainGlobals mg → FnOk l.prog w K mg base CX0 6 fa fd ["script"] (spLaw K) := by
  have e := hfa.symm.trans (PySem.W.mg_of X G n_law)
  cases e
  have F_is_integer := fun_mk (st := st_is_integer) l_is_integer c_is_integer k_is_integer
  have b_is_integer := F_is_integer.binds (ps := ["value"]) fun _ _ _ _ _ _ us hl => match us, hl with | [_], _ => rfl
  have g_is_integer := PySem.W.mg_of X G n_is_integer
  have F_is_row := fun_mk (st := st_is_row) l_is_row c_is_row k_is_row
  have b_is_row := F_is_row.binds (ps := ["value"]) fun _ _ _ _ _ _ us hl => match us, hl with | [_], _ => rfl
  have g_is_row := PySem.W.mg_of X G n_is_row
  have F_check_row := fun_mk (st := st_check_row) l_check_row c_check_row k_check_row
  have b_check_row := F_check_row.binds (ps := ["value"]) fun _ _ _ _ _ _ us hl => match us, hl with | [_], _ => rfl
  have g_check_row := PySem.W.mg_of X G n_check_row
  have F_has_at := fun_mk (st := st_has_at) l_has_at c_has_at k_has_at
  have b_has_at := F_has_at.binds (ps := ["row", "letters", "place"]) fun _ _ _ _ _ _ us hl => match us, hl with | [_, _, _], _ => rfl
  have g_has_at := PySem.W.mg_of X G n_has_at
  have F_is_apart := fun_mk (st := st_is_apart) l_is_apart c_is_apart k_is_apart
  have b_is_apart := F_is_apart.binds (ps := ["first", "second"]) fun _ _ _ _ _ _ us hl => match us, hl with | [_, _], _ => rfl
  have g_is_apart := PySem.W.mg_of X G n_is_apart
  have F_is_swap := fun_mk (st := st_is_swap) l_is_swap c_is_swap k_is_swap
  have b_is_swap := F_is_swap.binds (ps := ["row", "value"]) fun _ _ _ _ _ _ us hl => match us, hl with | [_, _], _ => rfl
  have g_is_swap := PySem.W.mg_of X G n_is_swap
  have F_swapped := fun_mk (st := st_swapped) l_swapped c_swapped k_swapped
  have b_swapped := F_swapped.binds (ps := ["row", "swap"]) fun _ _ _ _ _ _ us hl => match us, hl with | [_, _], _ => rfl
  have g_swapped := PySem.W.mg_of X G n_swapped
  have F_law_bag := fun_mk (st := st_law_bag) l_law_bag c_law_bag k_law_bag
  have b_law_bag := F_law_bag.binds (ps := ["script"]) fun _ _ _ _ _ _ us hl => match us, hl with | [_], _ => rfl
  have g_law_bag := PySem.W.mg_of X G n_law_bag
  have F_law_stir := fun_mk (st := st_law_stir) l_law_stir c_law_stir k_law_stir
  have b_law_stir := F_law_stir.binds (ps := ["number", "place"]) fun _ _ _ _ _ _ us hl => match us, hl with | [_, _], _ => rfl
  have g_law_stir := PySem.W.mg_of X G n_law_stir
  have F_law_draw := fun_mk (st := st_law_draw) l_law_draw c_law_draw k_law_draw
  have b_law_draw := F_law_draw.binds (ps := ["bag", "bound"]) fun _ _ _ _ _ _ us hl => match us, hl with | [_, _], _ => rfl
  have g_law_draw := PySem.W.mg_of X G n_law_draw
  have F_law_letters := fun_mk (st := st_law_letters) l_law_letters c_law_letters k_law_letters
  have b_law_letters := F_law_letters.binds (ps := ["bag", "most"]) fun _ _ _ _ _ _ us hl => match us, hl with | [_, _], _ => rfl
  have g_law_letters := PySem.W.mg_of X G n_law_letters
  have F_law_pairs := fun_mk (st := st_law_pairs) l_law_pairs c_law_pairs k_law_pairs
  have b_law_pairs := F_law_pairs.binds (ps := ["letters"]) fun _ _ _ _ _ _ us hl => match us, hl with | [_], _ => rfl
  have g_law_pairs := PySem.W.mg_of X G n_law_pairs
  have F_law_prefix := fun_mk (st := st_law_prefix) l_law_prefix c_law_prefix k_law_prefix
  have b_law_prefix := F_law_prefix.binds (ps := ["letters"]) fun _ _ _ _ _ _ us hl => match us, hl with | [_], _ => rfl
  have g_law_prefix := PySem.W.mg_of X G n_law_prefix
  have F_law_counts := fun_mk (st := st_law_counts) l_law_counts c_law_counts k_law_counts
  have b_law_counts := F_law_counts.binds (ps := ["letters"]) fun _ _ _ _ _ _ us hl => match us, hl with | [_], _ => rfl
  have g_law_counts := PySem.W.mg_of X G n_law_counts
  have F_law_all := fun_mk (st := st_law_all) l_law_all c_law_all k_law_all
  have b_law_all := F_law_all.binds (ps := ["letters"]) fun _ _ _ _ _ _ us hl => match us, hl with | [_], _ => rfl
  have g_law_all := PySem.W.mg_of X G n_law_all
  have F_law_after := fun_mk (st := st_law_after) l_law_after c_law_after k_law_after
  have b_law_after := F_law_after.binds (ps := ["letters", "swap"]) fun _ _ _ _ _ _ us hl => match us, hl with | [_, _], _ => rfl
  have g_law_after := PySem.W.mg_of X G n_law_after
  have F_law_right := fun_mk (st := st_law_right) l_law_right c_law_right k_law_right
  have b_law_right := F_law_right.binds (ps := ["letters", "swap"]) fun _ _ _ _ _ _ us hl => match us, hl with | [_, _], _ => rfl
  have g_law_right := PySem.W.mg_of X G n_law_right
  have F_law := fun_mk (st := st_law) l_law c_law k_law
  have m_abs := PySem.W.mg_none_of X G z_abs
  have m_bool := PySem.W.mg_none_of X G z_bool
  have m_enumerate := PySem.W.mg_none_of X G z_enumerate
  have m_int := PySem.W.mg_none_of X G z_int
  have m_isinstance := PySem.W.mg_none_of X G z_isinstance
  have m_len := PySem.W.mg_none_of X G z_len
  have m_list := PySem.W.mg_none_of X G z_list
  have m_min := PySem.W.mg_none_of X G z_min
  have m_range := PySem.W.mg_none_of X G z_range
  have m_sorted := PySem.W.mg_none_of X G z_sorted
  have m_str := PySem.W.mg_none_of X G z_str
  have m_tuple := PySem.W.mg_none_of X G z_tuple
  have m_type := PySem.W.mg_none_of X G z_type
  have m_zip := PySem.W.mg_none_of X G z_zip
  have g_MOST_LETTERS := PySem.W.mg_of X G y_MOST_LETTERS
  refine ⟨PySem.W.fnOf "law" "law" (defArgs st_law) (defBody st_law) (defScope st_law) .none kV_law dc_law pm_law an_law cd_law ct_law, fun s v => .of_eq rfl, fun base _ _ => ?_⟩
  have G_is_integer : FnOk l.prog w K mg base CX0 1 _ _ ["value"] ((spIsInt K)) := ok_is_integer F_is_integer m_isinstance m_int m_bool
  have G_is_row : FnOk l.prog w K mg base CX0 1 _ _ ["value"] ((spIsRow K)) := ok_is_row F_is_row m_isinstance m_str m_len g_MOST_LETTERS
  have G_check_row : FnOk l.prog w K mg base CX0 2 _ _ ["value"] (spCheck) := ok_check_row F_check_row F_is_row G_is_row b_is_row g_is_row
  have G_has_at : FnOk l.prog w K mg base CX0 1 _ _ ["row", "letters", "place"] (spHasAt) := ok_has_at F_has_at m_len
  have G_is_apart : FnOk l.prog w K mg base CX0 1 _ _ ["first", "second"] (spApart) := ok_is_apart F_is_apart m_abs
  have G_is_swap : FnOk l.prog w K mg base CX0 3 _ _ ["row", "value"] ((spIsSwap K)) := ok_is_swap F_is_swap F_check_row G_check_row b_check_row g_check_row F_is_integer G_is_integer b_is_integer g_is_integer F_has_at G_has_at b_has_at g_has_at F_is_apart G_is_apart b_is_apart g_is_apart m_type m_tuple m_len
  have G_swapped : FnOk l.prog w K mg base CX0 4 _ _ ["row", "swap"] ((spSwapped K)) := ok_swapped F_swapped F_is_swap G_is_swap b_is_swap g_is_swap m_list
  have G_law_bag : FnOk l.prog w K mg base CX0 1 _ _ ["script"] ((spBag K)) := ok_law_bag F_law_bag m_list
  have G_law_stir : FnOk l.prog w K mg base CX0 1 _ _ ["number", "place"] (spStir) := ok_law_stir F_law_stir
  have G_law_draw : FnOk l.prog w K mg base CX0 2 _ _ ["bag", "bound"] (spDrawB) := ok_law_draw F_law_draw F_law_stir G_law_stir b_law_stir g_law_stir m_len
  have G_law_letters : FnOk l.prog w K mg base CX0 3 _ _ ["bag", "most"] (spLetters) := ok_law_letters F_law_letters F_law_draw G_law_draw b_law_draw g_law_draw m_int m_range m_sorted
  have G_law_pairs : FnOk l.prog w K mg base CX0 1 _ _ ["letters"] (spPairsB) := ok_law_pairs F_law_pairs m_int
  have G_law_prefix : FnOk l.prog w K mg base CX0 1 _ _ ["letters"] (spPrefixB) := ok_law_prefix F_law_prefix m_len m_range
  have G_law_counts : FnOk l.prog w K mg base CX0 2 _ _ ["letters"] (spCountsB) := ok_law_counts F_law_counts F_law_pairs G_law_pairs b_law_pairs g_law_pairs
  have G_law_all : FnOk l.prog w K mg base CX0 1 _ _ ["letters"] (spAll) := ok_law_all F_law_all m_len m_range
  have G_law_after : FnOk l.prog w K mg base CX0 1 _ _ ["letters", "swap"] ((spAfter K)) := ok_law_after F_law_after
  have G_law_right : FnOk l.prog w K mg base CX0 5 _ _ ["letters", "swap"] ((spRight14 K)) := ok_law_right F_law_right F_swapped G_swapped b_swapped g_swapped F_law_after G_law_after b_law_after g_law_after F_law_counts G_law_counts b_law_counts g_law_counts F_law_prefix G_law_prefix b_law_prefix g_law_prefix m_list m_zip m_enumerate m_sorted
  exact ok_law F_law F_law_bag G_law_bag b_law_bag g_law_bag F_law_draw G_law_draw b_law_draw g_law_draw F_law_letters G_law_letters b_law_letters g_law_letters F_law_all G_law_all b_law_all g_law_all F_law_right G_law_right b_law_right g_law_right F_swapped G_swapped b_swapped g_swapped m_range m_min m_len
end K14
open PySem PySem.W PyProof.Rows
set_option maxHeartbeats 0 in
theorem PySem.Challenge.cw_paircounts_k14_rows_after_double_swaps_holds : PySem.Challenge.rw_paircounts_k14_rows_after_double_swaps.Holds := by
  w_on; o_law; k_head; (case hw => w_witness2)
  k_fill
  refine L2.walk_of (l := PySem.Challenge.rw_paircounts_k14_rows_after_double_swaps) (n := 63) (k := 6) (x := "script") (CX := fun _ => L2.CX0) (sp := fun w => K14.spLaw _) rfl (by decide) rfl ⟨rfl, by decide, by decide⟩ (fun w h Y => PySem.W.kIn_of Y) ?F (fun _ _ a ns hl _ hS => ⟨a, ns, rfl, hS, hl, fun _ => rfl⟩) (fun _ _ _ _ _ h => h)
  case F =>
    intro w mg fa h KX G hmg
    refine' K14.all_mk KX G hmg ?n_is_integer ?l_is_integer ?c_is_integer ?k_is_integer ?n_is_row ?l_is_row ?c_is_row ?k_is_row ?n_check_row ?l_check_row ?c_check_row ?k_check_row ?n_has_at ?l_has_at ?c_has_at ?k_has_at ?n_is_apart ?l_is_apart ?c_is_apart ?k_is_apart ?n_is_swap ?l_is_swap ?c_is_swap ?k_is_swap ?n_swapped ?l_swapped ?c_swapped ?k_swapped ?n_law_bag ?l_law_bag ?c_law_bag ?k_law_bag ?n_law_stir ?l_law_stir ?c_law_stir ?k_law_stir ?n_law_draw ?l_law_draw ?c_law_draw ?k_law_draw ?n_law_letters ?l_law_letters ?c_law_letters ?k_law_letters ?n_law_pairs ?l_law_pairs ?c_law_pairs ?k_law_pairs ?n_law_prefix ?l_law_prefix ?c_law_prefix ?k_law_prefix ?n_law_counts ?l_law_counts ?c_law_counts ?k_law_counts ?n_law_all ?l_law_all ?c_law_all ?k_law_all ?n_law_after ?l_law_after ?c_law_after ?k_law_after ?n_law_right ?l_law_right ?c_law_right ?k_law_right ?n_law ?l_law ?c_law ?k_law ?z_abs ?z_bool ?z_enumerate ?z_int ?z_isinstance ?z_len ?z_list ?z_min ?z_range ?z_sorted ?z_str ?z_tuple ?z_type ?z_zip ?y_MOST_LETTERS
    (case n_is_integer => k_is); (case l_is_integer => k_is); (case c_is_integer => k_is); (case k_is_integer => k_is); (case n_is_row => k_is); (case l_is_row => k_is); (case c_is_row => k_is); (case k_is_row => k_is); (case n_check_row => k_is); (case l_check_row => k_is); (case c_check_row => k_is); (case k_check_row => k_is); (case n_has_at => k_is); (case l_has_at => k_is); (case c_has_at => k_is); (case k_has_at => k_is); (case n_is_apart => k_is); (case l_is_apart => k_is); (case c_is_apart => k_is); (case k_is_apart => k_is); (case n_is_swap => k_is); (case l_is_swap => k_is); (case c_is_swap => k_is); (case k_is_swap => k_is); (case n_swapped => k_is); (case l_swapped => k_is); (case c_swapped => k_is); (case k_swapped => k_is); (case n_law_bag => k_is); (case l_law_bag => k_is); (case c_law_bag => k_is); (case k_law_bag => k_is); (case n_law_stir => k_is); (case l_law_stir => k_is); (case c_law_stir => k_is); (case k_law_stir => k_is); (case n_law_draw => k_is); (case l_law_draw => k_is); (case c_law_draw => k_is); (case k_law_draw => k_is); (case n_law_letters => k_is); (case l_law_letters => k_is); (case c_law_letters => k_is); (case k_law_letters => k_is); (case n_law_pairs => k_is); (case l_law_pairs => k_is); (case c_law_pairs => k_is); (case k_law_pairs => k_is); (case n_law_prefix => k_is); (case l_law_prefix => k_is); (case c_law_prefix => k_is); (case k_law_prefix => k_is); (case n_law_counts => k_is); (case l_law_counts => k_is); (case c_law_counts => k_is); (case k_law_counts => k_is); (case n_law_all => k_is); (case l_law_all => k_is); (case c_law_all => k_is); (case k_law_all => k_is); (case n_law_after => k_is); (case l_law_after => k_is); (case c_law_after => k_is); (case k_law_after => k_is); (case n_law_right => k_is); (case l_law_right => k_is); (case c_law_right => k_is); (case k_law_right => k_is); (case n_law => k_is); (case l_law => k_is); (case c_law => k_is); (case k_law => k_is); (case z_abs => k_is); (case z_bool => k_is); (case z_enumerate => k_is); (case z_int => k_is); (case z_isinstance => k_is); (case z_len => k_is); (case z_list => k_is); (case z_min => k_is); (case z_range => k_is); (case z_sorted => k_is); (case z_str => k_is); (case z_tuple => k_is); (case z_type => k_is); (case z_zip => k_is); (case y_MOST_LETTERS => k_is)
