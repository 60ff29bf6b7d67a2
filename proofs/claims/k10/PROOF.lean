import PyProof.Rows.All
import Wide.All
import OpenK.AllK
import Wide.FinOn
import HandS.ForMost
import HandS.ForExc
import HandS.Strs
import HandS.SetFor
import HandS.ClsMeth
import HandS.DictComp
import HandS.IsInst
import HandS.Style
import HandS.TupAny
import HandS.Star
import HandS.Walk
import KE.KDictList
import HandS.Conv
import HandS.OwnEq
import HandS.More
import PyProof.InstNe
import KE.KCallOwn
import HandS.Codes
import HandS.RaiseMore
import PySem.Challenge.RW_sharedlines_k10_programs_read
set_option Elab.async false
set_option maxRecDepth 100000
set_option maxHeartbeats 4000000
namespace Vf
open PySem PySem.Spec PyProof.Rows L2 ClX

structure SMet (K : PySem.W.Frag) (C : Addr) (mc : Value) (m : Str) (p g : Addr) : Prop where
  fd : PySem.W.findCls K (.ref C) mc m = some (.get (.builtin "staticmethod.__get__") (.ref p) .none (.ref C))
  rc : ∃ rest, PySem.W.recIn K p "staticmethod" = some (.ref g :: rest)
  kp : PySem.W.keepIn K (.ref g) = true
def tSM (C : Addr) (sp : Sp) (dvs : List V) (E : XK) (ta : TE) (t : TA) : TE :=
  fun σ H Q => ta σ H fun x H1 => x = .ref C ∧ t σ H1 fun vs H2 => sp (vs ++ dvs) H2 Q E
section
variable {X : Cx} {CX : CXT} {k : Nat} {C p g : Addr} {mc : Value} {fd : FuncData} {ps : List Str} {sp : Sp} {dvs : List V} {ds : List Value} {E : XK} {o e : Expr} {es : List Expr} {m : Str} {pos apos : Pos} {ta : TE} {t : TA} {pl : Sem Bool}
theorem pe_smeth (he : PE X o ta) (r : CRead X.K C mc) (c : SMet X.K C mc m p g)
    (F : FnOk X.prog X.w X.K X.mg X.base CX k g fd ps sp) (hr : Room k X.A) (hb : Binds X.K fd ps ds) (hd : Vals dvs ds) (hx : Passes CX X E)
    (ha : PA X (e :: es) t) (hst : starEach (e :: es) X.env = (false, eval e X.env) :: starEach es X.env := by rfl)
    (hpl : (backTo pos (starEach es X.env)).any (·.1) = false := by rfl)
    (ht : eval (.Call (.Attribute o m apos) (e :: es) [] pos) X.env = (do
      let ov ← eval o X.env
      standAt apos.atName
      let (f, first) ← holding [ov] (getMethod ov m pl)
      callWith pos f first (backTo pos (starEach (e :: es) X.env)) (backToKw pos (keywordEach [] X.env))) := by rfl) :
    PE X (.Call (.Attribute o m apos) (e :: es) [] pos) (tSM C sp dvs E ta t) := by
  refine ⟨fun pins s σ H Q I h => PySem.W.methodCall_KW (pl := pl) (thn (he.run pins s σ H _ I h) ?_) ht⟩
  rintro u s1 ⟨x, H1, I1, rx, rfl, q⟩
  obtain rfl : u = Value.ref C := rx
  obtain ⟨rest, hp⟩ := c.rc
  refine PySem.W.method_cls I1.kIn r.ga (PySem.W.cls_bind I1.kIn r.rd c.fd (wpAny_call
    (PySem.W.sm_get (s := { s1 with toks := s1.toks + 1 }) I1.kIn hp (PySem.W.handed_on rfl ?_))))
  have I2 : Inv X pins σ H1 { s1 with toks := s1.toks + 1 } := I1.tok _
  refine PySem.W.callWith_K (h₀ := X.base) I.ok.mod.kin c.kp (thn (ha.run pos pins _ σ H1 _ I2 q) ?_) hst hpl
  rintro us s2 ⟨vs, H2, I3, rv, q2⟩
  exact ⟨I3.kIn, run_fn F hr hb hd hx I3 rv q2⟩
end
end Vf

set_option maxRecDepth 100000
set_option maxHeartbeats 4000000
namespace Vf
open PySem PySem.Spec PyProof.Rows L2
/-- a set just made -/
abbrev emptySet (w : World) : Obj := { cls := .type "set", dict := none, data := .set #[] 0 (.fresh 0 0 (!w.params.followText "set-order")) }
section
variable {P : Program} {w : World} {A : Around} {E : Value → Shared → Prop} {s : Shared}
theorem set_init_list {l S : Addr} {items : Array Value} {h0 : Heap} (ns : List Int) (hh : A.handled = none) (h0S : S = s.heap.objs.size) (hl : s.heap.IsList l items)
    (hit : IntsAre items.toList ns) (hb : ns.length + 1 < scanBound) (e0 : h0 = s.heap.push (emptySet w)) {R : Result → Shared → Prop}
    (h : ∀ h' tk c, SetR w h' S (fun j => decide (j ∈ ns)) c → c ≤ ns.length → (∀ b o, s.heap.get? b = some o → h'.get? b = some o) →
      R (.ok (.ret .none)) { s with heap := h', toks := tk }) :
    codeAny (model P w) A (.call (.builtin "set.__init__") ⟨[.ref S, .ref l], []⟩) R { s with heap := h0 } := by
  subst h0S e0
  have hS : (s.heap.push (emptySet w)).get? s.heap.objs.size = some (emptySet w) := Heap.get?_push_size _ rfl
  have hT : Shared.TypeIs { s with heap := s.heap.push (emptySet w) } (.ref s.heap.objs.size) "set" := ⟨_, hS, rfl⟩
  refine codeAny_call_builtin F.called_set.init.plain F.entry_set_init (check_set_init_1 hT ?_)
  have hisz : items.size = ns.length := by
    have q := IntsAre.length hit
    rwa [Array.length_toList] at q
  obtain ⟨ol, hol, hcl, nl, hdl⟩ := hl
  obtain ⟨ocls, odict, odata, oslots⟩ := ol
  dsimp only at hcl hdl
  subst hcl hdl
  have hol' : (s.heap.push (emptySet w)).get? l = some { cls := .type "list", dict := odict, data := .seq items nl, slots := oslots } :=
    Heap.get?_push_of_some _ hol
  have hsls := F.sub_list_set
  have hslf := F.sub_list_frozenset
  have hne : (Value.type "list" == Value.type "dict") = false := by decide
  have hl1 : (s.heap.push (emptySet w)).IsList l items := ⟨_, hol', rfl, nl, rfl⟩
  unfold Builtin.«set.__init__» noKeywords Builtin.Frozenset.updateFrom
  generalize hPI : pyIter = PI
  wp_walk
  subst hPI
  refine wpAny_pyIter_list hl1 (wpAny_bind (wpAny_runValue ?_))
  have hlS : l < s.heap.objs.size := Heap.lt_size hol
  have hh3 : A.in1.in1.handled = none := hh
  have hsz : (s.heap.push (emptySet w)).objs.size = s.heap.objs.size + 1 := Heap.size_push ..
  have hlt : ∀ b : Addr, b < s.heap.objs.size → b ∉ [s.heap.objs.size, s.heap.objs.size + 1] := fun b hb hm => by
    rcases List.mem_cons.mp hm with e | e
    · exact Nat.lt_irrefl _ (e ▸ hb)
    · exact Nat.lt_irrefl _ (Nat.lt_succ_of_lt (List.mem_singleton.mp e ▸ hb))
  have hneI : l ≠ (s.heap.push (emptySet w)).objs.size := by rw [hsz]; exact Nat.ne_of_lt (Nat.lt_succ_of_lt hlS)
  have hSf : s.heap.objs.size ∉ [(s.heap.push (emptySet w)).objs.size, l] := by
    rw [hsz]
    simp only [List.mem_cons, List.not_mem_nil, or_false, not_or]
    exact ⟨Nat.ne_of_lt (Nat.lt_succ_self _), Nat.ne_of_gt hlS⟩
  have hcur : (s.heap.push (emptySet w)).IsList l items := hl1
  have hval : ∀ (i : Nat) (v : Value), items[i]? = some v → ∃ k t, ns[i]? = some k ∧ v = .int k t := fun i v hv => by
    have hi : i < items.size := (Array.getElem?_eq_some_iff.mp hv).1
    obtain ⟨t, ht⟩ := IntsAre.int_at hit i v (by rw [Array.getElem?_toList]; exact hv)
    have hi2 : i < ns.length := by omega
    refine ⟨ns[i], t, List.getElem?_eq_getElem hi2, ?_⟩
    rw [ht, List.getD_eq_getElem?_getD, List.getElem?_eq_getElem hi2]
    rfl
  refine set_update_ints ((Walks.list hh3 _ l hneI items).toS) s.heap.objs.size hSf ns hisz hb hval (items.size - 0) 0 _ (by omega) (Nat.zero_le _)
    ?hSt ?hS0 ?hR
  case hSt => exact ⟨⟨_, Heap.get?_push_size _ rfl, rfl, rfl⟩, (hl1.push _)⟩
  case hS0 => exact ⟨0, Nat.le_refl _, setR_new_at (Heap.get?_push_of_some _ hS)⟩
  case hR =>
    rintro ⟨h', g2, d', tk', os'⟩ c hm hc hR
    obtain rfl : g2 = s.gens := hm.gens
    obtain rfl : d' = s.drawn := hm.drawn
    obtain rfl : os' = s.os := hm.os
    refine wpAny_pure (wpAny_pure (h h' tk' c hR (by omega) fun b o e => ?_))
    refine hm.heap b o ?_ (Heap.get?_push_of_some _ (Heap.get?_push_of_some _ e))
    rw [hsz]
    exact hlt b (Heap.lt_size e)
theorem call_set_listI {l : Addr} {items : Array Value} (ns : List Int) {Q : Value → Shared → Prop} (hh : A.handled = none) (hl : s.heap.IsList l items)
    (hit : IntsAre items.toList ns) (hb : ns.length + 1 < scanBound)
    (h : ∀ h' tk c, SetR w h' s.heap.objs.size (fun j => decide (j ∈ ns)) c → c ≤ ns.length → (∀ b o, s.heap.get? b = some o → h'.get? b = some o) →
      Q (.ref s.heap.objs.size) { s with heap := h', toks := tk }) :
    wpAny (model P w) A (call (.type "set") [.ref l]) Q E s := by
  have hT : Shared.TypeIs { s with heap := s.heap.push (emptySet w) } (.ref s.heap.objs.size) "set" := ⟨_, Heap.get?_push_size _ rfl, rfl⟩
  obtain ⟨c, tl, hmro⟩ := F.called_set.mro; have hmade := F.called_set.made; have hsub := F.called_set.sub
  have h1 := F.called_set.notType; have h2 := F.called_set.canCreate; have hct := F.typeCall_set_1 (.ref l)
  have hli := F.called_set.init.lookup; have hbi := F.called_set.init.bind (.ref s.heap.objs.size)
  refine wpAny_call (codeAny_of_tree (show wpAny _ _ (callAny (.type "set") _) _ _ _ from
    wpAny_pure ⟨Code.quiet_builtin _ (by decide +kernel), codeAny_builtin F.entry_type_call ?_⟩))
  rw [Around.under_plain (weight_type_call_type "set" [.ref l] []) rfl]
  repeat (any_goals (first | assumption | wp_step))
  refine codeAny_mono (code_set_led1 (.ref l) (E := E) (Q₁ := fun obj s₁ => obj = .ref s.heap.objs.size ∧ s₁ = { s with heap := s.heap.push (emptySet w) }) ⟨rfl, rfl⟩) ?_
  rintro (e | (_ | _ | _ | obj)) s₁ hr
  · exact hr
  · exact hr.elim
  · exact hr.elim
  · exact hr.elim
  obtain ⟨rfl, rfl⟩ := hr
  repeat (any_goals (first | assumption | wp_step))
  refine codeAny_mono (set_init_list (s := s) (R := wants (fun r s₂ => r = .none ∧ Q (.ref s.heap.objs.size) s₂) E) ns (by exact hh) rfl hl hit hb rfl
    fun h' tk c hR hc hk => ⟨rfl, h h' tk c hR hc hk⟩) ?_
  rintro (e | (_ | _ | _ | r)) s₂ hr
  · exact hr
  · exact hr.elim
  · exact hr.elim
  · exact hr.elim
  obtain ⟨rfl, hq⟩ := hr
  repeat (any_goals (first | assumption | wp_step))
end
theorem nodup_len {α : Type} [DecidableEq α] : ∀ {l m : List α}, l.Nodup → (∀ x ∈ l, x ∈ m) → l.length ≤ m.length
  | [], _, _, _ => Nat.zero_le _
  | a :: l, m, nd, h => by
    have hm := h a List.mem_cons_self
    have e := List.length_erase_of_mem hm
    have hpos := List.length_pos_of_mem hm
    have ih := nodup_len (l := l) (m := m.erase a) (List.nodup_cons.mp nd).2 fun x hx => by
      refine (List.mem_erase_of_ne fun z => ?_).mpr (h x (List.mem_cons_of_mem _ hx))
      exact (List.nodup_cons.mp nd).1 (z ▸ hx)
    rw [List.length_cons]
    omega
/-- set(xs): the set of the ints of a list, new -/
def rSetI (K : PySem.W.Frag) (w : World) : List V → Hp → VK → Prop := fun vs H Q => ∃ (a : Addr) (ns : List Int), vs = [.ref a] ∧ SqL K H a (ns.map V.int) ∧ ns.length + 1 < scanBound ∧
  ∀ (p : Addr) (c : Nat), H p = none → (∀ l : List Int, (∀ k ∈ ns, k ∈ l) → c ≤ l.length) → Q (.ref p) (upd H p (SetO w p (fun j => decide (j ∈ ns)) c))
theorem cr_setI {X : Cx} (hc : X.calm = true) : CallR X (.type "set") (rSetI X.K X.w) := by
  intro pins s σ H vs us Q I r h
  obtain ⟨a, ns, rfl, hS, hb, q⟩ := h
  obtain ⟨its, rv, pl, hz⟩ := I.list hS
  rw [Vals.ref1 r]
  refine call_set_listI ns (I.ok.hd hc) pl.isList (by simpa using intsAre_of rv) hb fun h' tk c R hcn k => ?_
  refine ⟨.ref _, _, I.laid (t' := tk) k (Nat.le_refl _) (setO_new R), rfl, q _ c (I.hok.fresh (Nat.le_refl _)) fun l hl => ?_⟩
  obtain ⟨o, es, ep, t, _, _, _, _, nd, hm, _, _, hn, _⟩ := R
  rw [← hn, ← Array.length_toList, ← List.length_map (f := keyOf)]
  exact nodup_len nd fun x hx => hl x (of_decide_eq_true ((hm x).mpr hx))
end Vf

set_option maxRecDepth 100000
set_option maxHeartbeats 4000000
namespace Vf
open PySem PySem.Spec PyProof.Rows L2
section
variable {J : It} {n : Nat} {G : Hp → Prop} {Y : Nat → Hp → V → Hp → Prop}
theorem same_new {H : Hp} {p : Addr} {o : HO} (h : H p = none) : Same H (upd H p o) := fun b u e => by rw [upd_ne (ne_of_none e h)]; exact e
theorem same_upd {H H1 : Hp} {p : Addr} {o : HO} (s : Same H H1) (h : H p = none) : Same H (upd H1 p o) := fun b u e => by rw [upd_ne (ne_of_none e h)]; exact s b u e
theorem same_both {H H1 : Hp} {p : Addr} {o : HO} (s : Same H H1) : Same (upd H p o) (upd H1 p o) := fun b u e => by
  by_cases hb : b = p
  · subst hb
    rw [upd_same] at e ⊢
    exact e
  · rw [upd_ne hb] at e ⊢
    exact s b u e
theorem take_fm {α β : Type} {l : List α} {f : α → Option β} {i : Nat} {a : α} (h : l[i]? = some a) : (l.take (i + 1)).filterMap f = (l.take i).filterMap f ++ (f a).toList := by
  rw [List.take_add_one, h, List.filterMap_append]
  cases e : f a <;> simp [e]
/-- [.. for .. in .. if ..] -/
theorem lc_fm {α : Type} (l : List α) (w : Walk J l.length G Y) {g : TG} {tt : TT} {te : TE} {vs : List Nat} {σ : L2.St} {H1 : Hp} {D : Addr} {Qd : Hp → Prop} (hD : H1 D = none) (f : α → Option V) (hn : l.length < 1000000) (hG : ∀ H, Same H1 H → G H)
    (hs : ∀ i a x H H', l[i]? = some a → Same H1 H → Y i H x H' → ∀ R : Option V → Hp → Prop, (∀ H4, Same H H4 → R (f a) H4) →
      g x (wipe σ vs) H' fun σ2 H2 => wipe σ2 vs = wipe σ vs ∧ tt σ2 H2 fun b H3 => if b = true then te σ2 H3 (fun y => R (some y)) else R none H3)
    (hd : ∀ H, Same H1 H → H D = some (.lst (l.filterMap f)) → Qd H) :
    ∃ W : Nat → Nat → Hp → Prop, (∃ m, W 0 m (upd H1 D (.lst []))) ∧ ∀ i m H, W i m H →
      (J.stop i H ∧ Qd H) ∨ (J.go i H ∧ ∃ Nx : Hp → Prop, (∀ H', Nx H' → ∃ m', m' < m ∧ W (i + 1) m' H') ∧ ∀ x H', J.yld i H x H' → g x (wipe σ vs) H' fun σ2 H2 => wipe σ2 vs = wipe σ vs ∧ tt σ2 H2 fun b H3 =>
        if b = true then te σ2 H3 fun y H4 => ∃ acc, H4 D = some (.lst acc) ∧ acc.length < sizeLine ∧ Nx (upd H4 D (.lst (acc ++ [y]))) else Nx H3) := by
  refine ⟨fun i m H => m = l.length - i ∧ i ≤ l.length ∧ Same H1 H ∧ H D = some (.lst ((l.take i).filterMap f)), ⟨l.length, by simp, Nat.zero_le _, same_new hD, by rw [upd_same]; simp⟩, ?_⟩
  rintro i m H ⟨rfl, hi, s, hH⟩
  by_cases hlt : i < l.length
  · have ha : l[i]? = some l[i] := List.getElem?_eq_getElem hlt
    have hlen : ((l.take i).filterMap f).length < sizeLine := by
      have h1 := List.length_filterMap_le f (l.take i)
      rw [List.length_take] at h1
      rw [sizeLine_eq]
      omega
    refine .inr ⟨w.goes i H hlt (hG H s), fun H' => Same H1 H' ∧ H' D = some (.lst ((l.take (i + 1)).filterMap f)), fun H' p => ⟨l.length - (i + 1), by omega, rfl, hlt, p⟩, fun x H' y => ?_⟩
    refine hs i _ x H H' ha s (w.yields i H x H' hlt (hG H s) y) (fun o H4 => match o with
      | some y => ∃ acc, H4 D = some (.lst acc) ∧ acc.length < sizeLine ∧ Same H1 (upd H4 D (.lst (acc ++ [y]))) ∧ (upd H4 D (.lst (acc ++ [y]))) D = some (.lst ((l.take (i + 1)).filterMap f))
      | none => Same H1 H4 ∧ H4 D = some (.lst ((l.take (i + 1)).filterMap f))) ?_
    intro H4 s4
    have e4 := s4 D _ hH
    rw [take_fm ha]
    cases e : f l[i] with
    | some y => exact ⟨_, e4, hlen, same_upd (s.trans s4) hD, by rw [upd_same]; rfl⟩
    | none => exact ⟨s.trans s4, by rw [e4]; simp⟩
  · have e : i = l.length := by omega
    subst e
    rw [List.take_length] at hH
    exact .inl ⟨w.stops H (hG H s), hd H s hH⟩
/-- [.. for .. in ..], no test -/
theorem lc_mp {α : Type} (l : List α) (w : Walk J l.length G Y) {g : TG} {te : TE} {vs : List Nat} {σ : L2.St} {H1 : Hp} {D : Addr} {Qd : Hp → Prop} (hD : H1 D = none) (f : α → V) (hn : l.length < 1000000) (hG : ∀ H, Same H1 H → G H)
    (hs : ∀ i a x H H', l[i]? = some a → Same H1 H → Y i H x H' → ∀ R : V → Hp → Prop, (∀ H4, Same H H4 → R (f a) H4) →
      g x (wipe σ vs) H' fun σ2 H2 => wipe σ2 vs = wipe σ vs ∧ te σ2 H2 R)
    (hd : ∀ H, Same H1 H → H D = some (.lst (l.map f)) → Qd H) :
    ∃ W : Nat → Nat → Hp → Prop, (∃ m, W 0 m (upd H1 D (.lst []))) ∧ ∀ i m H, W i m H →
      (J.stop i H ∧ Qd H) ∨ (J.go i H ∧ ∃ Nx : Hp → Prop, (∀ H', Nx H' → ∃ m', m' < m ∧ W (i + 1) m' H') ∧ ∀ x H', J.yld i H x H' → g x (wipe σ vs) H' fun σ2 H2 => wipe σ2 vs = wipe σ vs ∧ tYes σ2 H2 fun b H3 =>
        if b = true then te σ2 H3 fun y H4 => ∃ acc, H4 D = some (.lst acc) ∧ acc.length < sizeLine ∧ Nx (upd H4 D (.lst (acc ++ [y]))) else Nx H3) := by
  refine ⟨fun i m H => m = l.length - i ∧ i ≤ l.length ∧ Same H1 H ∧ H D = some (.lst ((l.take i).map f)), ⟨l.length, by simp, Nat.zero_le _, same_new hD, by rw [upd_same]; simp⟩, ?_⟩
  rintro i m H ⟨rfl, hi, s, hH⟩
  by_cases hlt : i < l.length
  · have ha : l[i]? = some l[i] := List.getElem?_eq_getElem hlt
    have hlen : ((l.take i).map f).length < sizeLine := by
      rw [List.length_map, List.length_take, sizeLine_eq]
      omega
    refine .inr ⟨w.goes i H hlt (hG H s), fun H' => Same H1 H' ∧ H' D = some (.lst ((l.take (i + 1)).map f)), fun H' p => ⟨l.length - (i + 1), by omega, rfl, hlt, p⟩, fun x H' y => ?_⟩
    have q := hs i _ x H H' ha s (w.yields i H x H' hlt (hG H s) y) (fun y H4 => ∃ acc, H4 D = some (.lst acc) ∧ acc.length < sizeLine ∧ Same H1 (upd H4 D (.lst (acc ++ [y]))) ∧ (upd H4 D (.lst (acc ++ [y]))) D = some (.lst ((l.take (i + 1)).map f))) ?_
    · exact q
    intro H4 s4
    have e4 := s4 D _ hH
    refine ⟨_, e4, hlen, same_upd (s.trans s4) hD, ?_⟩
    rw [upd_same, List.take_add_one, ha, List.map_append]
    rfl
  · have e : i = l.length := by omega
    subst e
    rw [List.take_length] at hH
    exact .inl ⟨w.stops H (hG H s), hd H s hH⟩
/-- {.. for .. in ..}: the state by an invariant -/
theorem dc_it (w : Walk J n G Y) {g : TG} {tt : TT} {tk tv : TE} {vs : List Nat} {σ : L2.St} {H1 : Hp} {D : Addr} {Qd : Hp → Prop} (Pv : Nat → Hp → Prop) (h0 : Pv 0 (upd H1 D (.dK []))) (hG : ∀ i H, i ≤ n → Pv i H → G H)
    (hs : ∀ i x H H', i < n → Pv i H → Y i H x H' → g x (wipe σ vs) H' fun σ2 H2 => wipe σ2 vs = wipe σ vs ∧ tt σ2 H2 fun b H3 =>
      if b = true then tk σ2 H3 fun y H4 => tv σ2 H4 fun z H5 => ∃ kvs k, y = kV k ∧ H5 D = some (.dK kvs) ∧ kvs.length < sizeLine ∧ Pv (i + 1) (upd H5 D (.dK (putK kvs k z))) else Pv (i + 1) H3) (hd : ∀ H, Pv n H → Qd H) :
    ∃ W : Nat → Nat → Hp → Prop, (∃ m, W 0 m (upd H1 D (.dK []))) ∧ ∀ i m H, W i m H →
      (J.stop i H ∧ Qd H) ∨ (J.go i H ∧ ∃ Nx : Hp → Prop, (∀ H', Nx H' → ∃ m', m' < m ∧ W (i + 1) m' H') ∧ ∀ x H', J.yld i H x H' → g x (wipe σ vs) H' fun σ2 H2 => wipe σ2 vs = wipe σ vs ∧ tt σ2 H2 fun b H3 =>
        if b = true then tk σ2 H3 fun y H4 => tv σ2 H4 fun z H5 => ∃ kvs k, y = kV k ∧ H5 D = some (.dK kvs) ∧ kvs.length < sizeLine ∧ Nx (upd H5 D (.dK (putK kvs k z))) else Nx H3) := by
  refine ⟨fun i m H => m = n - i ∧ i ≤ n ∧ Pv i H, ⟨n, by simp, Nat.zero_le _, h0⟩, ?_⟩
  rintro i m H ⟨rfl, hi, p⟩
  by_cases hlt : i < n
  · exact .inr ⟨w.goes i H hlt (hG i H hi p), Pv (i + 1), fun H' p' => ⟨n - (i + 1), by omega, rfl, hlt, p'⟩, fun x H' y => hs i x H H' hlt p (w.yields i H x H' hlt (hG i H hi p) y)⟩
  · have e : i = n := by omega
    subst e
    exact .inl ⟨w.stops H (hG i H hi p), hd H p⟩
end
end Vf

set_option maxRecDepth 100000
set_option maxHeartbeats 4000000
namespace Vf
open PySem PySem.Spec PyProof.Rows L2
theorem sw_dict {kx vx : Expr} {gs : List Comprehension} {scope : Scope} {pos py : Pos} {y : Str} {l : Nat} {env : Env} (hk : env.scope.kind = .function) (hy : env.scope.names.lookup y = some .local)
    (hl : (py.line == pos.line) = true) (ha : (scope.names.any fun (n, k) => n == y && (k == .local || k == .cell)) = false) : swapsWith (.DictComp kx vx gs scope pos) (some (.Name y py)) l env = pure true := by
  have k1 : env.kindOf y = some .local := hy
  have k2 : env.blockKind = .function := by
    unfold Env.blockKind
    rw [hk]
    rfl
  unfold swapsWith
  simp only [k2, k1, ha, Expr.pos, hl]
  rfl
theorem ps_setDc {X : Cx} {i : Nat} {y : Str} {py : Pos} {kx vx tg iter : Expr} {ifs : List Expr} {scope : Scope} {own : List (Str × Nat)} {pos spos : Pos} {wi : TI} {g : TG} {tt : TT} {tk tv : TE} (hc : X.calm = true) (hN : X.N.Nodup)
    (hy : X.N[i]? = some y) (hyl : X.env.scope.names.lookup y = some .local) (hsw : swapsWith (.DictComp kx vx [⟨tg, iter, ifs, 0⟩] scope pos) (some (.Name y py)) spos.line X.env = pure true)
    (hi : PI X tg iter wi) (ok : BlkOk X.N X.env.scope scope own)
    (hg : ∀ (s : Shared) (H : Hp) (C : Addr) (cl : List (Str × Addr)) (fp : List Addr), PG (X.blk s H scope (compEnvC scope cl C X.env) fp) tg g)
    (ht : ∀ (s : Shared) (H : Hp) (C : Addr) (cl : List (Str × Addr)) (fp : List Addr), PTs (X.blk s H scope (compEnvC scope cl C X.env) fp) ifs tt)
    (hk : ∀ (s : Shared) (H : Hp) (C : Addr) (cl : List (Str × Addr)) (fp : List Addr), PE (X.blk s H scope (compEnvC scope cl C X.env) fp) kx tk)
    (he : ∀ (s : Shared) (H : Hp) (C : Addr) (cl : List (Str × Addr)) (fp : List Addr), PE (X.blk s H scope (compEnvC scope cl C X.env) fp) vx tv)
    (hs : ∀ x, foldedSetIterable iter X.env x = pure x := by intro _; rfl) :
    PS X (.Assign [.Name y py] (.DictComp kx vx [⟨tg, iter, ifs, 0⟩] scope pos) spos) (tAsg (tDc wi g tt tk tv (own.map (·.2))) (gName i)) := by
  constructor
  intro pins s σ H D I h
  rw [exec_Assign_Name_used _ _ _ _ hsw]
  refine wpAny_bind (wpAny_standAt (wpAny_bind (show wpAny _ X.A (do
    let _ ← comprehension (.DictComp kx vx [⟨tg, iter, ifs, 0⟩] scope pos) scope X.env (firstIterPos [⟨tg, iter, ifs, 0⟩] pos) newDict false (eval iter X.env) (some (assign (.Name y py) X.env))) _ _ s from ?_)))
  have h' : tDc wi g tt tk tv (own.map (·.2)) σ H (fun x H1 => gName i x σ H1 D.nx) := h
  refine wpAny_bind (thn (dc_core (Qf := fun _ s' => SP X pins D .next s') hc hN I hi ok hg ht hk he hs h' ?_) fun _ s' hq => wpAny_pure (wpAny_pure hq))
  rintro L C s' m H' I' q hn ⟨f0, f1, f2, f3, f4, f5⟩
  refine wpAny_assign_Name (store_ok2 (v := V.ref L) I' hN hy (.inl hyl) rfl ?_ (.inr hyl))
  rintro s2 I2 ⟨a, sb, ha⟩
  have hCa : C ≠ a := by
    rcases ha with z | z
    · exact fun e => f1 (e.trans z)
    · exact fun e => f4 y a z e.symm
  exact ⟨m, hn.sameBut sb hCa, fun h3 sb3 => ⟨_, H', I2.turned (t' := s2.toks) (fun b o hb e => (sb3.2 b hb).trans e) f0 f1 f3 f4 f5, q⟩⟩
end Vf

set_option maxRecDepth 100000
set_option maxHeartbeats 4000000
namespace Vf
open PySem PySem.Spec PyProof.Rows L2

/-- the text of a number -/
def natS (k : Nat) : Str := Str.ofString (toString (k : Int))
def sRead : Str := "read"
def sWrite : Str := "write"
def sArrow : Str := "->"
def sEnd : Str := "end"
def sSp : Str := " "
def sNl : Str := "\n"
def isNameT (z : Str) : Bool := decide (1 ≤ z.length) && decide (z.length ≤ 8) && z.cps.toList.all fun c => decide (97 ≤ c) && decide (c ≤ 122)
/-- the number of a word, one of many -/
def numOf (many : Nat) (z : Str) : Option Nat := (List.range many).find? fun k => decide (natS k = z)
/-- a node: what it does, its cell, its targets (none: the end) -/
structure Nd where
  word : Str
  cell : Str
  tg : List (Option Nat)
  deriving DecidableEq
def rises : List Nat → Bool
  | [] => true
  | [_] => true
  | a :: b :: r => decide (a < b) && rises (b :: r)
def targetsT (many : Nat) (ws : List Str) : Option (List (Option Nat)) :=
  match ws with
  | [] => some [none]
  | w :: rest =>
    if w ≠ sArrow ∨ rest = [] then none else
    let e := decide (rest.getLast? = some sEnd)
    let named := if e then rest.dropLast else rest
    if named.all fun z => (numOf many z).isSome then
      if rises (named.filterMap (numOf many)) then some ((named.filterMap (numOf many)).map some ++ if e then [none] else []) else none
    else none
def tgOf (many : Nat) (named : List Str) (e : Bool) : Option (List (Option Nat)) :=
  if named.all fun z => (numOf many z).isSome then
    if rises (named.filterMap (numOf many)) then some ((named.filterMap (numOf many)).map some ++ if e then [none] else []) else none
  else none
theorem targetsT_bad {many : Nat} {w : Str} {rest : List Str} (h : w ≠ sArrow) : targetsT many (w :: rest) = none := if_pos (.inl h)
theorem targetsT_bare {many : Nat} : targetsT many [sArrow] = none := by
  show (if sArrow ≠ sArrow ∨ ([] : List Str) = [] then none else tgOf many [] false) = none
  rw [if_pos (.inr rfl)]
theorem targetsT_step {many : Nat} {rs : List Str} {z : Str} : targetsT many (sArrow :: (rs ++ [z])) = tgOf many (if decide (z = sEnd) = true then rs else rs ++ [z]) (decide (z = sEnd)) := by
  have e : targetsT many (sArrow :: (rs ++ [z])) = tgOf many (if decide ((rs ++ [z]).getLast? = some sEnd) = true then (rs ++ [z]).dropLast else rs ++ [z]) (decide ((rs ++ [z]).getLast? = some sEnd)) :=
    if_neg (by simp)
  rw [e, List.getLast?_append, List.dropLast_concat]
  simp only [List.getLast?_singleton, Option.some_or, Option.some.injEq]
def nodeT (many : Nat) (row : Str) : Option Nd :=
  match Txt.split row sSp with
  | w :: c :: rest => if (w = sRead ∨ w = sWrite) ∧ isNameT c = true then (targetsT many rest).map fun t => ⟨w, c, t⟩ else none
  | _ => none
/-- the nodes of the first rows, as far as they are right -/
def nodesT (many : Nat) : List Str → Option (List Nd)
  | [] => some []
  | r :: rs => (nodeT many r).bind fun n => (nodesT many rs).map (n :: ·)
def parseT (z : Str) : Option (List Nd) :=
  let rows := Txt.split z sNl
  if rows.length ≤ 8 then nodesT rows.length rows else none

theorem tl_natS (k : Nat) : TL.tl (natS k) = TL.numL k := TL.tl_num k
theorem natS_inj {a b : Nat} (h : natS a = natS b) : a = b := by
  have e : TL.tl (natS a) = TL.tl (natS b) := by rw [h]
  rw [tl_natS, tl_natS] at e
  exact TL.numL_inj e
theorem numOf_some {many k : Nat} {z : Str} : numOf many z = some k ↔ k < many ∧ natS k = z := by
  unfold numOf
  constructor
  · intro h
    have h1 := List.find?_some (p := fun k => decide (natS k = z)) h
    have h2 := List.mem_of_find?_eq_some h
    exact ⟨List.mem_range.mp h2, of_decide_eq_true h1⟩
  · rintro ⟨h1, h2⟩
    cases e : (List.range many).find? fun k => decide (natS k = z) with
    | none =>
      have := List.find?_eq_none.mp e k (List.mem_range.mpr h1)
      exact absurd (decide_eq_true h2) this
    | some j =>
      have h3 : natS j = z := of_decide_eq_true (List.find?_some (p := fun k => decide (natS k = z)) e)
      rw [natS_inj (h3.trans h2.symm)]
theorem numOf_nat {many k : Nat} (h : k < many) : numOf many (natS k) = some k := numOf_some.mpr ⟨h, rfl⟩

def tgS : Option Nat → Str
  | none => sEnd
  | some k => natS k
def rowW (full : Bool) (n : Nd) : List Str := if full = false ∧ n.tg = [none] then [n.word, n.cell] else n.word :: n.cell :: sArrow :: n.tg.map tgS
def rowS (full : Bool) (n : Nd) : Str := Txt.join sSp (rowW full n)
structure GoodTg (many : Nat) (tg : List (Option Nat)) : Prop where
  ne : tg ≠ []
  sh : ∃ (ks : List Nat) (e : Bool), tg = ks.map some ++ (if e then [none] else []) ∧ rises ks = true ∧ ∀ k ∈ ks, k < many
structure GoodNd (many : Nat) (n : Nd) : Prop where
  word : n.word = sRead ∨ n.word = sWrite
  cell : isNameT n.cell = true
  tg : GoodTg many n.tg
inductive Rows : List Str → List Nd → Prop
  | nil : Rows [] []
  | cons {n : Nd} {rs : List Str} {ns : List Nd} (f : Bool) : Rows rs ns → Rows (rowS f n :: rs) (n :: ns)

theorem tl_sp : TL.tl sSp = [32] := by decide +kernel
theorem tl_nl : TL.tl sNl = [10] := by decide +kernel
theorem tl_end : TL.tl sEnd = [101, 110, 100] := by decide +kernel
theorem natS_ne_end (k : Nat) : natS k ≠ sEnd := fun h => by
  have e : TL.tl (natS k) = TL.tl sEnd := by rw [h]
  rw [tl_natS, tl_end] at e
  exact TL.numL_free (n := k) (s := 101) (by omega) (by rw [e]; decide)
theorem filterMap_nat {many : Nat} : ∀ {ks : List Nat}, (∀ k ∈ ks, k < many) → (ks.map natS).filterMap (numOf many) = ks
  | [], _ => rfl
  | k :: ks, h => by
    rw [List.map_cons, List.filterMap_cons, numOf_nat (h k List.mem_cons_self), filterMap_nat fun z hz => h z (List.mem_cons_of_mem _ hz)]
theorem all_nat {many : Nat} {ks : List Nat} (h : ∀ k ∈ ks, k < many) : ((ks.map natS).all fun z => (numOf many z).isSome) = true := by
  rw [List.all_eq_true]
  intro z hz
  obtain ⟨k, hk, rfl⟩ := List.mem_map.mp hz
  rw [numOf_nat (h k hk)]
  rfl
theorem targetsT_good {many : Nat} {tg : List (Option Nat)} (g : GoodTg many tg) : targetsT many (sArrow :: tg.map tgS) = some tg := by
  obtain ⟨ne, ks, e, rfl, hr, hk⟩ := g
  have hne : (ks.map some ++ (if e then [none] else [])).map tgS ≠ [] := fun z => ne (List.map_eq_nil_iff.mp z)
  have em : (ks.map some ++ (if e then [none] else [])).map tgS = ks.map natS ++ (if e then [sEnd] else []) := by
    rw [List.map_append, List.map_map]
    cases e <;> rfl
  unfold targetsT
  rw [em] at hne ⊢
  dsimp only
  rw [if_neg (by simp only [ne_eq, not_true, false_or]; exact hne)]
  cases e with
  | true =>
    have l1 : decide ((ks.map natS ++ (if true = true then [sEnd] else [])).getLast? = some sEnd) = true := by simp
    have l2 : (ks.map natS ++ (if true = true then [sEnd] else [])).dropLast = ks.map natS := by simp
    rw [l1, if_pos rfl, l2, if_pos (all_nat hk), filterMap_nat hk, if_pos hr]
  | false =>
    have l0 : ks.map natS ++ (if false = true then [sEnd] else []) = ks.map natS := by simp
    rw [l0]
    have l1 : decide ((ks.map natS).getLast? = some sEnd) = false := by
      refine decide_eq_false fun z => ?_
      obtain ⟨k, _, h⟩ := List.mem_map.mp (List.mem_of_getLast? z)
      exact natS_ne_end k h
    rw [l1, if_neg Bool.false_ne_true, if_pos (all_nat hk), filterMap_nat hk, if_pos hr]

/-- words of a row have no blank and no line feed in them -/
def Solid (z : Str) : Prop := ∀ c ∈ TL.tl z, c ≠ 32 ∧ c ≠ 10
theorem solid_of {z : Str} {l : List Nat} (e : TL.tl z = l) (h : (l.all fun c => decide (c ≠ 32) && decide (c ≠ 10)) = true) : Solid z := fun c hc => by
  rw [e] at hc
  have q := List.all_eq_true.mp h c hc
  simpa using q
theorem solid_read : Solid sRead := solid_of (l := [114, 101, 97, 100]) (by decide +kernel) (by decide)
theorem solid_write : Solid sWrite := solid_of (l := [119, 114, 105, 116, 101]) (by decide +kernel) (by decide)
theorem solid_arrow : Solid sArrow := solid_of (l := [45, 62]) (by decide +kernel) (by decide)
theorem solid_end : Solid sEnd := solid_of tl_end (by decide)
theorem solid_nat (k : Nat) : Solid (natS k) := fun c hc => by
  rw [tl_natS] at hc
  exact ⟨fun e => TL.numL_free (n := k) (s := 32) (by omega) (e ▸ hc), fun e => TL.numL_free (n := k) (s := 10) (by omega) (e ▸ hc)⟩
theorem name_signs {z : Str} (h : isNameT z = true) : ∀ c ∈ TL.tl z, 97 ≤ c ∧ c ≤ 122 := fun c hc => by
  unfold isNameT at h
  simp only [Bool.and_eq_true, List.all_eq_true, decide_eq_true_eq] at h
  exact h.2 c hc
theorem name_len {z : Str} (h : isNameT z = true) : 1 ≤ z.length ∧ z.length ≤ 8 := by
  unfold isNameT at h
  simp only [Bool.and_eq_true, decide_eq_true_eq] at h
  exact h.1
theorem solid_name {z : Str} (h : isNameT z = true) : Solid z := fun c hc => by
  have := name_signs h c hc
  omega
theorem solid_tg (t : Option Nat) : Solid (tgS t) := by
  cases t with
  | none => exact solid_end
  | some k => exact solid_nat k
theorem solid_row {many : Nat} {n : Nd} (g : GoodNd many n) (f : Bool) : ∀ z ∈ rowW f n, Solid z := fun z hz => by
  have hw : Solid n.word := by rcases g.word with e | e <;> rw [e] <;> first | exact solid_read | exact solid_write
  unfold rowW at hz
  split at hz
  · rcases List.mem_cons.mp hz with rfl | hz
    · exact hw
    · rw [List.mem_singleton.mp hz]
      exact solid_name g.cell
  · rcases List.mem_cons.mp hz with rfl | hz
    · exact hw
    rcases List.mem_cons.mp hz with rfl | hz
    · exact solid_name g.cell
    rcases List.mem_cons.mp hz with rfl | hz
    · exact solid_arrow
    · obtain ⟨t, _, rfl⟩ := List.mem_map.mp hz
      exact solid_tg t
theorem rowW_ne (f : Bool) (n : Nd) : rowW f n ≠ [] := by
  unfold rowW
  split <;> simp
theorem split_row {many : Nat} {n : Nd} (g : GoodNd many n) (f : Bool) : Txt.split (rowS f n) sSp = rowW f n :=
  TL.split_join (y := sSp) (s := 32) (S := []) tl_sp (by decide +kernel) (rowW_ne f n) fun z hz h => (solid_row g f z hz 32 h).1 rfl
theorem nodeT_good {many : Nat} {n : Nd} (g : GoodNd many n) (f : Bool) : nodeT many (rowS f n) = some n := by
  unfold nodeT
  rw [split_row g f]
  by_cases hf : f = false ∧ n.tg = [none]
  · have e : rowW f n = [n.word, n.cell] := if_pos hf
    rw [e]
    show (if (n.word = sRead ∨ n.word = sWrite) ∧ isNameT n.cell = true then (targetsT many []).map _ else none) = _
    rw [if_pos ⟨g.word, g.cell⟩]
    obtain ⟨w, c, t⟩ := n
    obtain rfl : t = [none] := hf.2
    rfl
  · have e : rowW f n = n.word :: n.cell :: sArrow :: n.tg.map tgS := if_neg hf
    rw [e]
    show (if (n.word = sRead ∨ n.word = sWrite) ∧ isNameT n.cell = true then (targetsT many (sArrow :: n.tg.map tgS)).map _ else none) = _
    rw [if_pos ⟨g.word, g.cell⟩, targetsT_good g.tg]
    rfl
theorem nodesT_good {many : Nat} {rs : List Str} {ns : List Nd} (h : Rows rs ns) (g : ∀ n ∈ ns, GoodNd many n) : nodesT many rs = some ns := by
  induction h with
  | nil => rfl
  | @cons n rs ns f _ ih =>
    unfold nodesT
    rw [nodeT_good (g n List.mem_cons_self) f, ih fun z hz => g z (List.mem_cons_of_mem _ hz)]
    rfl
theorem Rows.len {rs : List Str} {ns : List Nd} (h : Rows rs ns) : rs.length = ns.length := by
  induction h with
  | nil => rfl
  | cons f _ ih => rw [List.length_cons, List.length_cons, ih]
theorem mem_joinL {S : List Nat} {c : Nat} : ∀ {ps : List (List Nat)}, c ∈ TL.joinL S ps → c ∈ S ∨ ∃ p ∈ ps, c ∈ p
  | [], h => by cases h
  | [p], h => .inr ⟨p, List.mem_cons_self, h⟩
  | p :: q :: r, h => by
    have h' : c ∈ p ++ (S ++ TL.joinL S (q :: r)) := h
    rcases List.mem_append.mp h' with h | h
    · exact .inr ⟨p, List.mem_cons_self, h⟩
    rcases List.mem_append.mp h with h | h
    · exact .inl h
    · rcases mem_joinL (ps := q :: r) h with h | ⟨z, hz, hc⟩
      · exact .inl h
      · exact .inr ⟨z, List.mem_cons_of_mem _ hz, hc⟩
theorem row_no_nl {many : Nat} {n : Nd} (g : GoodNd many n) (f : Bool) : 10 ∉ TL.tl (rowS f n) := fun h => by
  unfold rowS at h
  rw [TL.join_eq, TL.tl_join, tl_sp] at h
  rcases mem_joinL h with h | ⟨p, hp, hc⟩
  · revert h
    decide
  · obtain ⟨z, hz, rfl⟩ := List.mem_map.mp hp
    exact (solid_row g f z hz 10 hc).2 rfl
theorem split_rows {many : Nat} {rs : List Str} {ns : List Nd} (h : Rows rs ns) (g : ∀ n ∈ ns, GoodNd many n) (hn : ns ≠ []) : Txt.split (Txt.join sNl rs) sNl = rs := by
  have hne : rs ≠ [] := fun z => hn (List.length_eq_zero_iff.mp (by rw [← h.len, z]; rfl))
  refine TL.split_join (y := sNl) (s := 10) (S := []) tl_nl (by decide +kernel) hne ?_
  clear hn hne
  induction h with
  | nil => exact fun _ hz => nomatch hz
  | @cons n rs ns f _ ih =>
    intro z hz
    rcases List.mem_cons.mp hz with rfl | hz
    · exact row_no_nl (g n List.mem_cons_self) f
    · exact ih (fun y hy => g y (List.mem_cons_of_mem _ hy)) z hz
theorem parse_good {rs : List Str} {ns : List Nd} (h : Rows rs ns) (hn : ns ≠ []) (h8 : ns.length ≤ 8) (g : ∀ n ∈ ns, GoodNd ns.length n) : parseT (Txt.join sNl rs) = some ns := by
  unfold parseT
  rw [split_rows h g hn]
  dsimp only
  rw [h.len, if_pos h8, nodesT_good h g]
end Vf

set_option maxRecDepth 100000
set_option maxHeartbeats 4000000
namespace Vf
open PySem PySem.Spec PyProof.Rows L2
mutual
def plainD : PyData → Bool
  | .none => true
  | .bool _ => false
  | .int _ => true
  | .str x => PyData.strOk x
  | .list xs => plainAll xs
  | .tuple xs => plainAll xs
  | .dict _ => false
def plainAll : List PyData → Bool
  | [] => true
  | x :: xs => plainD x && plainAll xs
end
mutual
theorem eqv_iff : ∀ d e : PyData, plainD d = true → plainD e = true → (PyData.eqv d e = true ↔ d = e)
  | .bool _, _, h, _ => by simp [plainD] at h
  | .dict _, _, h, _ => by simp [plainD] at h
  | .none, e, _, h => by cases e <;> simp_all [PyData.eqv, plainD]
  | .int i, e, _, h => by cases e <;> simp_all [PyData.eqv, plainD]
  | .str x, e, _, h => by cases e <;> simp_all [PyData.eqv, plainD]
  | .list xs, e, h1, h => by
    cases e with
    | list ys =>
      have := eqvAll_iff xs ys (by simpa [plainD] using h1) (by simpa [plainD] using h)
      simp only [PyData.eqv, PyData.list.injEq]
      exact this
    | _ => simp_all [PyData.eqv, plainD]
  | .tuple xs, e, h1, h => by
    cases e with
    | tuple ys =>
      have := eqvAll_iff xs ys (by simpa [plainD] using h1) (by simpa [plainD] using h)
      simp only [PyData.eqv, PyData.tuple.injEq]
      exact this
    | _ => simp_all [PyData.eqv, plainD]
theorem eqvAll_iff : ∀ xs ys : List PyData, plainAll xs = true → plainAll ys = true → (PyData.eqvAll xs ys = true ↔ xs = ys)
  | [], [], _, _ => by simp [PyData.eqvAll]
  | [], _ :: _, _, _ => by simp [PyData.eqvAll]
  | _ :: _, [], _, _ => by simp [PyData.eqvAll]
  | x :: xs, y :: ys, h1, h2 => by
    simp only [plainAll, Bool.and_eq_true] at h1 h2
    simp only [PyData.eqvAll, Bool.and_eq_true, List.cons.injEq, eqv_iff x y h1.1 h2.1, eqvAll_iff xs ys h1.2 h2.2]
end
mutual
theorem canLay_plain : ∀ d : PyData, plainD d = true → d.canLay0 = true
  | .none, _ => by simp [PyData.canLay0]
  | .bool _, h => by simp [plainD] at h
  | .int _, _ => by simp [PyData.canLay0]
  | .str x, h => by simpa [PyData.canLay0, plainD] using h
  | .list xs, h => by
    simp only [PyData.canLay0]
    exact canLayAll_plain xs (by simpa [plainD] using h)
  | .tuple xs, h => by
    simp only [PyData.canLay0]
    exact canLayAll_plain xs (by simpa [plainD] using h)
  | .dict _, h => by simp [plainD] at h
theorem canLayAll_plain : ∀ xs : List PyData, plainAll xs = true → PyData.canLayAll0 xs = true
  | [], _ => by simp [PyData.canLayAll0]
  | x :: xs, h => by
    simp only [plainAll, Bool.and_eq_true] at h
    simp only [PyData.canLayAll0, Bool.and_eq_true]
    exact ⟨canLay_plain x h.1, canLayAll_plain xs h.2⟩
end
theorem shaped_of {d : PyData} (h : plainD d = true) (hd : d.depth ≤ 64) : SeqAt.shaped d = true := by
  unfold SeqAt.shaped
  rw [canLay_plain d h, decide_eq_true hd]
  rfl
theorem eqv_dec {d e : PyData} {p : Prop} [Decidable p] (h1 : plainD d = true) (h2 : plainD e = true) (hp : d = e ↔ p) : PyData.eqv d e = decide p := by
  by_cases h : p
  · rw [decide_eq_true h]
    exact (eqv_iff d e h1 h2).mpr (hp.mpr h)
  · rw [decide_eq_false h]
    cases q : PyData.eqv d e with
    | false => rfl
    | true => exact absurd (hp.mp ((eqv_iff d e h1 h2).mp q)) h
theorem plain_ints : ∀ ns : List Int, plainAll (ns.map PyData.int) = true
  | [] => rfl
  | n :: ns => by simp only [List.map_cons, plainAll, plainD, Bool.true_and, plain_ints ns]
theorem depth_ints : ∀ ns : List Int, PyData.depthAll (ns.map PyData.int) = 0
  | [] => rfl
  | n :: ns => by simp only [List.map_cons, PyData.depthAll, PyData.depth, depth_ints ns, Nat.max_self]
theorem dp_ints {K : PySem.W.Frag} {H : Hp} : ∀ ns : List Int, DpAll K H (ns.map V.int) (ns.map PyData.int)
  | [] => .nil
  | n :: ns => .cons (.int n) (dp_ints ns)
theorem map_int_inj {a b : List Int} : PyData.list (a.map PyData.int) = PyData.list (b.map PyData.int) ↔ a = b := by
  refine ⟨fun h => ?_, fun h => by rw [h]⟩
  have h' : a.map PyData.int = b.map PyData.int := by injection h
  clear h
  induction a generalizing b with
  | nil => cases b <;> simp_all
  | cons x a ih =>
    cases b with
    | nil => cases h'
    | cons y b =>
      rw [List.map_cons, List.map_cons] at h'
      injection h' with h1 h2
      injection h1 with h3
      rw [h3, ih h2]
theorem shaped_ints (ns : List Int) : SeqAt.shaped (.list (ns.map PyData.int)) = true :=
  shaped_of (by simp only [plainD, plain_ints]) (by simp only [PyData.depth, depth_ints]; decide)
theorem eqv_ints (a b : List Int) : PyData.eqv (.list (a.map PyData.int)) (.list (b.map PyData.int)) = decide (a = b) :=
  eqv_dec (by simp only [plainD, plain_ints]) (by simp only [plainD, plain_ints]) map_int_inj
theorem rises_iff : ∀ l : List Nat, rises l = true ↔ l.Pairwise (· < ·)
  | [] => by simp [rises]
  | [a] => by simp [rises]
  | a :: b :: r => by
    have ih := rises_iff (b :: r)
    simp only [rises, Bool.and_eq_true, decide_eq_true_eq, ih]
    constructor
    · rintro ⟨h1, h2⟩
      refine List.pairwise_cons.mpr ⟨fun x hx => ?_, h2⟩
      rcases List.mem_cons.mp hx with rfl | hx
      · exact h1
      · exact Nat.lt_trans h1 ((List.pairwise_cons.mp h2).1 x hx)
    · intro h
      exact ⟨(List.pairwise_cons.mp h).1 b List.mem_cons_self, (List.pairwise_cons.mp h).2⟩
theorem sorted_same : ∀ {a b : List Int}, a.Pairwise (· < ·) → b.Pairwise (· < ·) → (∀ x, x ∈ a ↔ x ∈ b) → a = b
  | [], [], _, _, _ => rfl
  | [], y :: b, _, _, h => absurd ((h y).mpr List.mem_cons_self) (by simp)
  | x :: a, [], _, _, h => absurd ((h x).mp List.mem_cons_self) (by simp)
  | x :: a, y :: b, ha, hb, h => by
    have a1 := List.pairwise_cons.mp ha
    have b1 := List.pairwise_cons.mp hb
    have e : x = y := by
      rcases List.mem_cons.mp ((h x).mp List.mem_cons_self) with e | e
      · exact e
      · rcases List.mem_cons.mp ((h y).mpr List.mem_cons_self) with e2 | e2
        · exact e2.symm
        · have := b1.1 x e
          have := a1.1 y e2
          omega
    subst e
    rw [sorted_same a1.2 b1.2 fun z => ?_]
    constructor
    · intro hz
      rcases List.mem_cons.mp ((h z).mp (List.mem_cons_of_mem _ hz)) with e | e
      · have := a1.1 z hz
        omega
      · exact e
    · intro hz
      rcases List.mem_cons.mp ((h z).mpr (List.mem_cons_of_mem _ hz)) with e | e
      · have := b1.1 z hz
        omega
      · exact e
/-- a list of numbers is its own sorted set just if it rises -/
theorem rises_set {ts : List Nat} {ns : List Int} (hs : ns.Pairwise (· < ·)) (hm : ∀ k : Int, k ∈ ns ↔ k ∈ ts.map Int.ofNat) : ts.map Int.ofNat = ns ↔ rises ts = true := by
  rw [rises_iff]
  have hp : (ts.map Int.ofNat).Pairwise (· < ·) ↔ ts.Pairwise (· < ·) := by
    rw [List.pairwise_map]
    constructor <;> intro h <;> refine h.imp fun {a b} q => ?_
    · exact Int.ofNat_lt.mp q
    · exact Int.ofNat_lt.mpr q
  rw [← hp]
  constructor
  · intro e
    rw [e]
    exact hs
  · intro h
    exact sorted_same h hs fun x => (hm x).symm
end Vf

set_option maxRecDepth 100000
set_option maxHeartbeats 4000000
namespace Vf
open PySem PySem.Spec PyProof.Rows L2
section
variable {prog : Program} {w : World} {A : Around} {E : Value → Shared → Prop} {s : Shared}
theorem hint_text {x : Str} {t : Tok} {Q : Bool → Shared → Prop} (h : Q false s) : wpAny (model prog w) A (Builtin.List.listLengthHint (.str x t)) Q E s := by
  have hT : s.TypeIs (.str x t) "str" := typeIs_str _ _ _
  unfold Builtin.List.listLengthHint
  refine wpAny_bind (wpAny_specialOf hT PySem.F.slot_str_len.lookup ?_)
  generalize hid : ("str.__len__" : String) = id0
  wp_delta
  rw [show splitId id0 = some ("str", "__len__") from by subst hid; decide +kernel]
  subst hid
  refine wpAny_bind (wpAny_isInstance (T := "str") (b := true) hT (by rw [isSubtype_type]; kernel_rfl) (wpAny_ite_split (fun hab => absurd hab (by decide)) fun _ => ?_))
  exact wpAny_ite_split (fun _ => wpAny_bind (wpAny_typeOf hT (wpAny_pure h))) fun hab => absurd (by decide +kernel) hab
set_option maxHeartbeats 8000000 in
theorem call_list_text {x : Str} {t : Tok} {Q : Value → Shared → Prop} (hh : A.handled = none) (hn : x.cps.size ≤ sizeLine)
    (hQ : ∀ h' tk acc' c', (∀ b o, s.heap.get? b = some o → h'.get? b = some o) → h'.get? s.heap.objs.size = some { cls := .type "list", dict := none, data := .seq acc' c', slots := #[] } →
      ItemsOf (SignAt x) acc' x.cps.size → Q (.ref s.heap.objs.size) { s with heap := h', toks := tk }) :
    wpAny (model prog w) A (call (.type "list") [.str x t]) Q E s := by
  refine callType_codes (Q₁ := fun obj s₁ => obj = .ref s.heap.objs.size ∧ s₁ = { s with heap := s.heap.push { cls := .type "list", data := .seq #[] } }) PySem.F.called_list
    (PySem.F.typeCall_list_1 _) PySem.F.entry_list_init (code_list_new _ ⟨rfl, rfl⟩) ?_
  rintro _ _ ⟨rfl, rfl⟩
  have hS : (s.heap.push { cls := .type "list", data := .seq #[] }).get? s.heap.objs.size = some { cls := .type "list", data := .seq #[] } := Heap.get?_push_size _ rfl
  refine ⟨⟨_, hS, rfl⟩, PySem.F.args_list_init_2 _ _, ?_⟩
  generalize hS0 : s.heap.objs.size = S at hS ⊢
  show wpAny _ _ (do let old ← Builtin.List.listItems (.ref S); Builtin.List.listUpdate (.ref S) (fun _ => #[]); letGo old.toList.reverse; Builtin.List.listExtendWith (.ref S) (.str x t) .none) _ _ _
  refine wpAny_bind (show wpAny _ _ (Builtin.List.listItems (.ref S)) _ _ _ from ?_)
  unfold Builtin.List.listItems
  refine wpAny_bind (wpAny_seqItems hS rfl (wpAny_pure ?_))
  refine wpAny_bind (show wpAny _ _ (updateSeq S (fun _ => #[])) _ _ _ from wpAny_updateSeq hS rfl ?_)
  have hS2 := Heap.get?_update_self (Obj.mapSeq (fun _ => (#[] : Array Value))) hS rfl
  refine wpAny_bind (wpAny_letGo ?_)
  unfold Builtin.List.listExtendWith
  refine wpAny_bind (wpAny_typeOf (T := "str") (typeIs_str _ _ _) ?_)
  have n1 : Builtin.List.listSameRef (.ref S) (.str x t) = false := rfl
  have n2 : (Value.type "str" == Value.type "list") = false := by decide
  have n3 : (Value.type "str" == Value.type "tuple") = false := by decide
  simp only [n1, n2, n3, Bool.or_false, Bool.false_eq_true, if_false]
  refine wpAny_bind (wpAny_pyIter_str fun oI St W st => ?_)
  refine wpAny_bind (wpAny_holding (hint_text ?_))
  refine wpAny_ite_split (fun hab => absurd hab (by decide +kernel)) fun _ => wpAny_pure ⟨plainId_quiet PySem.F.plain_extend_loop _, ?_⟩
  have hS3 := Heap.get?_push_of_some oI hS2
  have W1 := (W A.in1.in1 hh).toS
  refine codeAny_extend_loopS W1 hn S ?_ .none x.cps.size 0 _ #[] _ rfl (Nat.zero_le _) st hS3 (ItemsOf.nil _) ?_
  · exact fun hm => absurd (Heap.lt_size hS2) (by rw [← List.mem_singleton.mp hm]; exact Nat.lt_irrefl _)
  · intro s' acc' c' hm hS' hacc
    rw [Moved.eq_with hm]
    suffices hk : ∀ b o, s.heap.get? b = some o → s'.heap.get? b = some o by
      have q := hQ s'.heap s'.toks acc' c' hk (by rw [hS0]; exact hS') hacc
      rw [hS0] at q
      exact ⟨rfl, q⟩
    intro b o e
    have hbS : b ≠ S := Nat.ne_of_lt (hS0 ▸ Heap.lt_size e)
    have e2 : (s.heap.push { cls := .type "list", data := .seq #[] }).get? b = some o := Heap.get?_push_of_some _ e
    have e3 := (Heap.get?_update_other (s.heap.push { cls := .type "list", data := .seq #[] }) (Obj.mapSeq (fun _ => (#[] : Array Value))) (Ne.symm hbS)).trans e2
    refine hm.heap b o (fun hmem => ?_) (Heap.get?_push_of_some oI e3)
    rcases List.mem_cons.mp hmem with e' | hmem
    · exact hbS e'
    · exact absurd (Heap.lt_size e3) (by rw [List.mem_singleton.mp hmem]; exact Nat.lt_irrefl _)
end
/-- list(text) -/
def rListS : List V → Hp → VK → Prop := fun vs H Q => ∃ z : Str, vs = [.str z] ∧ z.length ≤ sizeLine ∧ ∀ p, H p = none → Q (.ref p) (upd H p (.lst (z.cps.toList.map fun c => V.str ⟨#[c]⟩)))
theorem cr_listS {X : Cx} (hc : X.calm = true) : CallR X (.type "list") rListS := by
  intro pins s σ H vs us Q I r h
  obtain ⟨z, rfl, hz, q⟩ := h
  obtain ⟨u, rfl, t, rfl⟩ := vals1 r
  refine call_list_text (I.ok.hd hc) hz fun h' tk acc' c' k hS hacc => ?_
  refine ⟨.ref _, _, I.laid (t' := tk) k (Nat.le_refl _) (o := .lst (z.cps.toList.map fun c => V.str ⟨#[c]⟩)) ⟨by rw [List.length_map]; simpa [Str.length] using hz, acc'.toList, c', ?_, by rw [Array.toArray_toList]; exact hS⟩, rfl, q _ (I.hok.fresh (Nat.le_refl _))⟩
  refine vals_of_at (by rw [List.length_map, Array.length_toList, Array.length_toList, hacc.1]) fun j x w h1 h2 => ?_
  rw [Array.getElem?_toList] at h2
  obtain ⟨c, u, hcj, rfl⟩ := hacc.2 j w h2
  rw [List.getElem?_map, Array.getElem?_toList, hcj] at h1
  obtain rfl : V.str ⟨#[c]⟩ = x := Option.some.inj h1
  exact ⟨u, rfl⟩
end Vf

set_option maxRecDepth 100000
set_option maxHeartbeats 4000000
namespace Vf
open PySem PySem.Spec PyProof.Rows L2
/-- nothing is being printed -/
abbrev Calm (A : Around) : Prop := A.guards = some []
structure FnG (P : Program) (w : World) (K : PySem.W.Frag) (mg : Str → Option Value) (base : Heap) (CX : CXT) (k : Nat) (f : Addr) (fd : FuncData) (ps : List Str) (sp : Sp) : Prop where
  len : ∀ vs H Q E, sp vs H Q E → vs.length = ps.length
  run : ∀ (A : Around) (outer : List Env) (s : Shared) (H : Hp) (args : Args) (us : List Value) (vs : List V) (Q : VK) (E : XK), Calm A → Room k A →
    Env0 P w K mg base A outer s H → BindsTo s fd args (ps.zip us) → Vals vs us → sp vs H Q E → codeAny (model P w) A (.call (.ref f) args) (CR CX outer P w H s Q E) s
section
variable {P : Program} {w : World} {K : PySem.W.Frag} {mg : Str → Option Value} {base : Heap}
theorem FnG.of {CX : CXT} {k : Nat} {f : Addr} {fd : FuncData} {ps : List Str} {sp : Sp} (F : FnOk P w K mg base CX k f fd ps sp) : FnG P w K mg base CX k f fd ps sp :=
  ⟨F.len, fun A outer s H args us vs Q E _ => F.run A outer s H args us vs Q E⟩
/-- a def by its body; both ways are told of what goes on around it -/
theorem Fun.okG {x qual : Str} {st : Stmt} {f : Addr} {fd : FuncData} {N ps : List Str} {k : Nat} {sp : Sp} (F : Fun K x qual st f fd) (S : FnScope N ps (defScope st)) (hlen : ∀ vs H Q E, sp vs H Q E → vs.length = ps.length)
    (hbody : ∀ (cdv : Value) (A : Around) (outer : List Env) (s : Shared) (H : Hp) (vs : List V) (Q : VK) (E : XK), Calm (A.deeper (envOfC qual (defScope st) s.heap.objs.size f cdv)) →
      Room k (A.deeper (envOfC qual (defScope st) s.heap.objs.size f cdv)) → sp vs H Q E →
      ∃ t, PSs (cxOf CX0 P w K mg base N qual (defScope st) f cdv A outer s H E).nox (defBody st) t ∧ t { nx := fun _ H' => Q .non H', rt := Q } (start N vs) H) :
    FnG P w K mg base CX0 (k + 1) f fd ps sp := by
  obtain ⟨oc, od, kV, doc, pm, an, cdv, ct, osl, rfl, hlook, hcode⟩ := F.ex
  refine ⟨hlen, fun A outer s H args us vs Q E hcalm hroom env bnd rel q => ?_⟩
  have below := fun b o (e : base.get? b = some o) => (env.bs b o e).1
  have inK := env.mod.kin.keeps below
  have kinds : ∀ y ∈ ps.zip us, (defScope st).names.lookup y.1 = some .local ∨ ((defScope st).names.lookup y.1 = some .cell ∧ ((cellsFrom (s.heap.objs.size + 1) (defScope st).names []).lookup y.1).isSome = true) := by
    rintro ⟨n, v⟩ hy
    exact (S.par n (List.of_mem_zip hy).1).imp id fun c => ⟨c, PySem.W.cellsFrom_some _ _ _ (.inl c)⟩
  refine codeAny_call_function hroom.depth (inK _ _ hlook) rfl S.co S.gen rfl (PySem.W.codeRec_of inK hcode) (bnd _ _ _ _ (wpAny_newFunctionEnv_cells S.kind kinds fun env' he s1 made => ?_))
  subst he
  refine ⟨(env.mod.nolimit.keeps below).keeps made.toInCall.keep, codeAny_func ?_⟩
  obtain ⟨t, hps, ht⟩ := hbody cdv A outer s H vs Q E hcalm (hroom.deeper _) q
  have inv := inv_start (CX := CX0) (E := E) S hroom.hd env (hlen _ _ _ _ q) rel made
  refine wpAny_mono (hps.nox.run [] s1 (start N vs) H _ inv ht) (fun fl s' out => ?_) fun _ _ out => out
  cases fl with
  | next =>
    obtain ⟨σ', H', J, q'⟩ := out
    exact ⟨V.non, H', J.os, J.bare, J.base, J.hok, rfl, q'⟩
  | ret u =>
    obtain ⟨v, σ', H', J, rv, q'⟩ := out
    exact ⟨v, H', J.os, J.bare, J.base, J.hok, rv, q'⟩
  | brk =>
    obtain ⟨_, _, _, no⟩ := out
    exact False.elim no
  | cont =>
    obtain ⟨_, _, _, no⟩ := out
    exact False.elim no
end
def OkG (P : Program) (w : World) (K : PySem.W.Frag) (mg : Str → Option Value) (base : Heap) (CX : CXT) (x : Str) (ps : List Str) (k : Nat) (sp : Sp) : Prop :=
  ∃ (f : Addr) (fd : FuncData), mg x = some (.ref f) ∧ PySem.W.keepIn K (.ref f) = true ∧ Binds K fd ps [] ∧ FnG P w K mg base CX k f fd ps sp
section
variable {X : Cx} {CX : CXT} {k : Nat} {f : Addr} {fd : FuncData} {ps : List Str} {sp : Sp} {ds : List Value} {dvs : List V} {E : XK} {x : Str} {p pos : Pos} {e : Expr} {es : List Expr} {t : TA}
theorem run_fnG {pins : List (Addr × Obj)} {σ : L2.St} {H : Hp} {s : Shared} {Q : VK} {us : List Value} {vs : List V} (F : FnG X.prog X.w X.K X.mg X.base CX k f fd ps sp) (hgd : Calm X.A) (hr : Room k X.A) (hb : Binds X.K fd ps ds) (hd : Vals dvs ds) (hx : Passes CX X E)
    (I : Inv X pins σ H s) (r : Vals vs us) (h : sp (vs ++ dvs) H Q E) : wpAny (model X.prog X.w) X.A (call (.ref f) us) (EP X pins σ Q) X.xe s := by
  have all := r.append hd
  have many : (us ++ ds).length = ps.length := all.length.symm.trans (F.len _ _ _ _ h)
  refine wpAny_call (codeAny_mono (F.run X.A X.stack s H ⟨us, []⟩ (us ++ ds) (vs ++ dvs) Q E hgd hr I.env0 (hb s us I.kIn many) all h) fun out s' q => ?_)
  match out, q with
  | .error e, q => exact hx pins σ H s e s' I q
  | .ok (.ret u), q => exact I.after q
  | .ok .next, q => exact (q : False).elim
  | .ok .brk, q => exact (q : False).elim
  | .ok .cont, q => exact (q : False).elim
theorem pe_fnG (G : OkG X.prog X.w X.K X.mg X.base CX x ps k sp) (hgd : Calm X.A) (hr : Room k X.A) (hg : Gl X x) (hx : Passes CX X E)
    (ha : PA X (e :: es) t) (hdb : (x == ("__debug__" : Str)) = false := by decide) (hst : starEach (e :: es) X.env = (false, eval e X.env) :: starEach es X.env := by rfl) (hpl : (backTo pos (starEach es X.env)).any (·.1) = false := by rfl) :
    PE X (.Call (.Name x p) (e :: es) [] pos) (tCall sp [] E t) := by
  obtain ⟨f, fd, hm, hk, hb, F⟩ := G
  refine ⟨fun pins s σ H Q I h => wpAny_Call_Name_kw (ld_glob I hg hm ?_ hdb)⟩
  refine PySem.W.callWith_K (h₀ := X.base) I.ok.mod.kin hk (thn (ha.run pos pins s σ H _ I h) ?_) hst hpl
  rintro us s1 ⟨vs, H1, I1, rel, q⟩
  exact ⟨I1.kIn, run_fnG F hgd hr hb .nil hx I1 rel q⟩
end
end Vf

set_option maxRecDepth 100000
set_option maxHeartbeats 4000000
namespace Vf
open PySem PySem.Spec PyProof.Rows L2
section
variable {P : Program} {w : World} {K : PySem.W.Frag} {mg mb : Str → Option Value} {a : Addr} {s₁ : Shared} {vs : List Value}
/-- what the caller sees: all but the script, which H tracks or K has -/
theorem head_env {H : Hp} (inK : K.In s₁.heap) (nm : s₁.heap.Ns mainGlobals mg) (nb : s₁.heap.Ns builtinsNs mb) (bb : ∀ x : Str, x ≠ "__name__" → mb x = bootBuiltins x) (lim : s₁.heap.NoLimit) (gens : s₁.gens = #[])
    (at_a : s₁.heap.get? a = some { cls := .type "list", data := .seq vs.toArray }) (ok : HOk P w H s₁.heap) (only : ∀ b u, H b = some u → b = a) (apart : ∀ u, H a = some u → K.lookup a = none) :
    Env0 P w K mg (hidT s₁.heap H) callerA [] s₁ H := by
  -- what is no list stands untracked
  have plain : ∀ {b : Addr} {o : Obj} {es : Array DictEntry} {ep : Nat}, s₁.heap.get? b = some o → o.data = .dict es ep → H b = none := by
    intro b o es ep at_b isd
    match tr : H b with
    | none => rfl
    | some u =>
      rw [only b u tr, at_a] at at_b
      cases at_b
      exact absurd isd (fun z => by cases z)
  have see : ∀ {b : Addr} {m : Str → Option Value}, s₁.heap.Ns b m → (hidT s₁.heap H).Ns b m := by
    rintro b m ⟨o, es, ep, at_b, isd, more⟩
    exact ⟨o, es, ep, hidT_get at_b (plain at_b isd), isd, more⟩
  have kin : K.In (hidT s₁.heap H) := by
    intro b o look
    refine hidT_get (inK b o look) ?_
    match tr : H b with
    | none => rfl
    | some u =>
      have eb := only b u tr
      subst eb
      rw [apart u tr] at look
      cases look
  obtain ⟨mc, l1, l2⟩ := lim
  exact ⟨rfl, ⟨kin, see nm, ⟨mb, see nb, bb⟩, ⟨mc, see l1, l2⟩⟩, fun _ _ at_b => of_hidT at_b, Nat.le_of_eq (hidT_size _ _), trivial, (fun b no => absurd (show b ∈ ([] : List Addr) from no) (by simp)), ok, AllBare.of_eq gens⟩
/-- a call by the caller that tells True -/
theorem head_run {CX : CXT} {k : Nat} {fa : Addr} {fd : FuncData} {x : Str} {sp : Sp} {H : Hp} (F : FnG P w K mg (hidT s₁.heap H) CX k fa fd [x] sp) (room : Room k callerA) (bind : ∀ (s : Shared) (u : Value), BindsTo s fd ⟨[u], []⟩ [(x, u)])
    (env : Env0 P w K mg (hidT s₁.heap H) callerA [] s₁ H) (only : Only H) (q : sp [.ref a] H (fun v _ => v = .bl true) fun _ _ _ => False) (noX : ∀ e s', CX [] H s₁ (fun _ _ _ => False) e s' → False) :
    codeAny (model P w) callerA (.call (.ref fa) ⟨[.ref a], []⟩) (fun r s' => r = .ok (.ret (.bool true)) ∧ OldK s₁.heap s'.heap ∧ s'.os = s₁.os ∧ AllBare s'.gens) s₁ := by
  have one : Vals [V.ref a] [Value.ref a] := .cons rfl .nil
  refine codeAny_mono (F.run callerA [] s₁ H ⟨[.ref a], []⟩ [.ref a] [.ref a] _ _ rfl room env (bind s₁ (.ref a)) one q) fun out s' told => ?_
  match out, told with
  | .error e, told => exact (noX e s' told).elim
  | .ok .next, told => exact (told : False).elim
  | .ok .brk, told => exact (told : False).elim
  | .ok .cont, told => exact (told : False).elim
  | .ok (.ret u), told =>
    obtain ⟨v, H', eos, bare, un, ok', rel, ev⟩ := told
    obtain rfl : v = .bl true := ev
    obtain rfl : u = Value.bool true := rel
    refine ⟨rfl, OldK.of_keep fun b o at_b => ?_, eos, bare⟩
    match tr : H b with
    | none => exact un.keep b o at_b tr (fun z => nomatch z) (by simp)
    | some u =>
      obtain ⟨ob, xs, fz⟩ := (only b).resolve_left fun z => by
        rw [tr] at z
        cases z
      obtain ⟨before, _⟩ := env.hok b _ fz
      obtain ⟨behind, _⟩ := ok' b _ (un.frzs b ob _ fz)
      rw [before] at at_b
      cases at_b
      exact behind
/-- the script as the hand layer has it -/
theorem head_call {CX : CXT} {k : Nat} {fa : Addr} {fd : FuncData} {x : Str} {sp : Sp} {ns : List Int} (inK : K.In s₁.heap) (nm : s₁.heap.Ns mainGlobals mg) (nb : s₁.heap.Ns builtinsNs mb) (bb : ∀ x : Str, x ≠ "__name__" → mb x = bootBuiltins x) (lim : s₁.heap.NoLimit)
    (gens : s₁.gens = #[]) (at_a : s₁.heap.get? a = some { cls := .type "list", data := .seq vs.toArray }) (isI : IntsAre vs ns) (hl : ns.length ≤ sizeLine) (room : Room k callerA)
    (F : ∀ base : Heap, K.In base → base.Ns mainGlobals mg → FnG P w K mg base CX k fa fd [x] sp) (bind : ∀ (s : Shared) (u : Value), BindsTo s fd ⟨[u], []⟩ [(x, u)])
    (hsp : ∀ H : Hp, Only H → SqL K H a (ns.map V.int) → sp [.ref a] H (fun v _ => v = .bl true) fun _ _ _ => False) (noX : ∀ H e s', CX [] H s₁ (fun _ _ _ => False) e s' → False) :
    codeAny (model P w) callerA (.call (.ref fa) ⟨[.ref a], []⟩) (fun r s' => r = .ok (.ret (.bool true)) ∧ OldK s₁.heap s'.heap ∧ s'.os = s₁.os ∧ AllBare s'.gens) s₁ := by
  have rel := vals_ints isI
  have short : (ns.map V.int).length ≤ sizeLine := by rwa [List.length_map]
  cases look : K.lookup a with
  | some o =>
    have z := inK a o look
    rw [at_a] at z
    cases z
    have env := head_env (P := P) (w := w) (H := fun _ => none) inK nm nb bb lim gens at_a (fun b u z => by cases z) (fun b u z => by cases z) (fun u z => by cases z)
    refine head_run (F _ env.mod.kin env.mod.glob) room bind env (fun _ => .inl rfl) (hsp _ (fun _ => .inl rfl) (.inr ⟨_, vs.toArray, _, look, rfl, rfl, rfl, ?_, by simpa using rel⟩)) (noX _)
    rw [List.size_toArray, isI.length]
    exact hl
  | none =>
    let H : Hp := fun b => if b = a then some (.frz { cls := .type "list", data := .seq vs.toArray } (.lst (ns.map V.int))) else none
    have here : H a = some (.frz { cls := .type "list", data := .seq vs.toArray } (.lst (ns.map V.int))) := if_pos rfl
    have away : ∀ b, b ≠ a → H b = none := fun b hb => if_neg hb
    have only : ∀ b u, H b = some u → b = a := fun b u z => Classical.byContradiction fun hb => by
      rw [away b hb] at z
      cases z
    have onlyF : Only H := fun b => by
      by_cases hb : b = a
      · exact .inr ⟨_, _, hb ▸ here⟩
      · exact .inl (away b hb)
    have ok : HOk P w H s₁.heap := fun b u z => by
      have eb := only b u z
      subst eb
      rw [here] at z
      cases z
      exact ⟨at_a, short, vs, _, rel, at_a⟩
    have env := head_env inK nm nb bb lim gens at_a ok only fun _ _ => look
    exact head_run (F _ env.mod.kin env.mod.glob) room bind env onlyF (hsp _ onlyF (.inl (.inr ⟨_, here⟩))) (noX _)
end
theorem walk_ofG {l : PySem.W.OpenLaw} {n k : Nat} {q : Program} {loose : List Str} {XP : (Str → Option Value) → Heap → Prop} {YP : World → Heap → Prop} {d : DefRec} {K : Params → PySem.W.Frag} {CX : World → CXT} {sp : World → Sp} {x : Str}
    (hn : l.most = some n) (fits : n ≤ sizeLine) (hdf : d.params.defaults = []) (room : Room k callerA) (inK : ∀ (w : World) (h : Heap), YP w h → (K w.params).In h)
    (F : ∀ (w : World) (mg : Str → Option Value) (fa : Addr) (h : Heap), (K w.params).In h → h.Ns mainGlobals mg → mg d.name = some (.ref fa) →
      ∃ fd : FuncData, (∀ (s : Shared) (u : Value), BindsTo s fd ⟨[u], []⟩ [(x, u)]) ∧ ∀ base : Heap, (K w.params).In base → base.Ns mainGlobals mg → FnG l.prog w (K w.params) mg base (CX w) k fa fd [x] (sp w))
    (hsp : ∀ (w : World) (H : Hp) (a : Addr) (ns : List Int), ns.length ≤ n → Only H → SqL (K w.params) H a (ns.map V.int) → sp w [.ref a] H (fun v _ => v = .bl true) fun _ _ _ => False)
    (noX : ∀ (w : World) (H : Hp) (s : Shared) (e : Value) (s' : Shared), CX w [] H s (fun _ _ _ => False) e s' → False) :
    PySem.W.WalkO q loose XP YP l.row.toRowW d [] (fun f vs => PySem.call f vs) := by
  refine Att.attach_call hn hdf fun w s₀ s₁ mg mb fa o pm cd doc a vs ns G Y _ _ _ hmg at_a isI few gens => ?_
  obtain ⟨fd, bind, hF⟩ := F w mg fa _ (inK w _ Y) G.T.g hmg
  exact head_call (inK w _ Y) G.T.g G.T.b G.T.builtins G.T.nolimit gens at_a isI (Nat.le_trans few fits) room hF bind (fun H only hS => hsp w H a ns few only hS) fun H e s' => noX w H s₁ e s'
end Vf

set_option maxRecDepth 100000
set_option maxHeartbeats 4000000
namespace Vf
open PySem PySem.Spec PyProof.Rows L2
def rRepr (K : PySem.W.Frag) : List V → Hp → VK → Prop := fun xs H Q => ∃ (a : Addr) (d : PyData), xs = [.ref a] ∧ Dp K H (.ref a) d ∧ d.showable = true ∧ d.hasDict = false ∧ d.depth ≤ 64 ∧ d.shown.length ≤ sizeLine ∧ Q (.str d.shown) H
theorem cr_repr {X : Cx} (hgd : Calm X.A) {k : Nat} (hr : Room k X.A) : CallR X (.builtin "repr") (rRepr X.K) := by
  intro pins s σ H vs us Q I r h
  obtain ⟨a, d, rfl, hd, sh, nod, dep, hz, q⟩ := h
  obtain ⟨u, rfl, r1⟩ := vals1 r
  obtain ⟨as, rd⟩ := Dp.reads I d (.ref a) u hd r1
  obtain rfl : u = Value.ref a := r1
  have room := hr.un
  refine repr_of_reads' rd sh (fun z => by rw [nod] at z; cases z) hgd (by omega) (fun _ _ e => e) (fun h' u tk keep => ?_) hz
  exact ⟨.str d.shown, H, I.kept (t' := tk) keep, ⟨u, rfl⟩, q⟩
mutual
/-- data that can be shown: small numbers, texts, lists and tuples -/
def shD : PyData → Bool
  | .none => true
  | .bool _ => true
  | .int i => decide (0 ≤ i) && decide (i < 1000000)
  | .str x => PyData.strOk x
  | .list xs => shAll xs
  | .tuple xs => shAll xs
  | .dict _ => false
def shAll : List PyData → Bool
  | [] => true
  | x :: xs => shD x && shAll xs
end
theorem int_short {i : Int} (h : 0 ≤ i) (h2 : i < 1000000) : (PyData.int i).shown.length ≤ 13 ∧ i.natAbs.log2 < 1920 := by
  obtain ⟨k, rfl⟩ := Int.eq_ofNat_of_zero_le h
  have hk : k < 1000000 := by omega
  constructor
  · show (natS k).length ≤ 13
    rw [TL.len_tl, tl_natS]
    exact Nat.le_trans (TL.numL_len (k := 6) (by decide) (by simpa using hk)) (by decide)
  · show k.log2 < 1920
    by_cases h0 : k = 0
    · subst h0
      decide
    · exact Nat.lt_of_lt_of_le ((Nat.log2_lt h0).mpr (show k < 2 ^ 20 by omega)) (by decide)
mutual
theorem sh_show : ∀ d : PyData, shD d = true → d.showable = true ∧ d.hasDict = false ∧ d.leavesShort 13 = true
  | .none, _ => ⟨rfl, rfl, rfl⟩
  | .bool _, _ => ⟨rfl, rfl, rfl⟩
  | .int i, h => by
    simp only [shD, Bool.and_eq_true, decide_eq_true_eq] at h
    obtain ⟨h1, h2⟩ := int_short h.1 h.2
    exact ⟨by simpa [PyData.showable] using h2, rfl, by simpa [PyData.leavesShort] using h1⟩
  | .str x, h => by
    refine ⟨rfl, rfl, ?_⟩
    simp only [shD, PyData.strOk] at h
    rw [← Array.all_toList, List.all_eq_true] at h
    simp only [PyData.leavesShort, List.all_eq_true, decide_eq_true_eq]
    intro c hc
    have := h c hc
    simp only [decide_eq_true_eq] at this
    have e : (16 : Nat) ^ 8 = 4294967296 := by decide
    omega
  | .list xs, h => by
    have := sh_showAll xs (by simpa [shD] using h)
    simpa [PyData.showable, PyData.hasDict, PyData.leavesShort] using this
  | .tuple xs, h => by
    have := sh_showAll xs (by simpa [shD] using h)
    simpa [PyData.showable, PyData.hasDict, PyData.leavesShort] using this
  | .dict _, h => by simp [shD] at h
theorem sh_showAll : ∀ xs : List PyData, shAll xs = true → PyData.showableAll xs = true ∧ PyData.hasDictAll xs = false ∧ PyData.leavesShortAll 13 xs = true
  | [], _ => ⟨rfl, rfl, rfl⟩
  | x :: xs, h => by
    simp only [shAll, Bool.and_eq_true] at h
    obtain ⟨a1, a2, a3⟩ := sh_show x h.1
    obtain ⟨b1, b2, b3⟩ := sh_showAll xs h.2
    simp [PyData.showableAll, PyData.hasDictAll, PyData.leavesShortAll, a1, a2, a3, b1, b2, b3]
end
theorem shown_fits {d : PyData} (h : shD d = true) (hw : d.weight ≤ 1000000) : d.shown.length ≤ sizeLine := by
  have := PyData.shown_le 13 (by decide) d (sh_show d h).2.2
  rw [sizeLine_eq]
  omega
end Vf

set_option maxRecDepth 100000
set_option maxHeartbeats 4000000
namespace Vf
open PySem PySem.Spec PyProof.Rows L2
section
variable {X : Cx} {pins : List (Addr × Obj)} {σ : L2.St} {H : Hp} {s : Shared}
theorem ty_looks {x : V} {u t : Value} (M : Model) (I : Inv X pins σ H s) (rx : RelV x u) (ty : TyX X.K H x t) : PySem.W.Looks M s.heap (typeOf u) t := by
  obtain ⟨Pz, Z, p, _⟩ := kit_of I rx ty
  exact Z.ty M s.heap I.kIn p
/-- a callee that runs somewhere within what goes on -/
theorem run_at {CX : CXT} {n : Nat} {f : Addr} {fd : FuncData} {ps : List Str} {sp : Sp} {E : XK} {Q : VK} {A : Around} {vs : List V} {us : List Value} (F : FnOk X.prog X.w X.K X.mg X.base CX n f fd ps sp) (fr : A.frames = X.A.frames) (room : Room n A)
    (hb : Binds X.K fd ps []) (hx : Passes CX X E) (I : Inv X pins σ H s) (r : Vals vs us) (h : sp vs H Q E) : wpAny (model X.prog X.w) A (call (.ref f) us) (EP X pins σ Q) X.xe s := by
  have e0 : Env0 X.prog X.w X.K X.mg X.base A X.stack s H :=
    let e := I.env0
    ⟨fr.trans e.frames, e.mod, e.bs, e.bsz, e.funs, e.frf, e.hok, e.bare⟩
  have many : (us ++ []).length = ps.length := by
    rw [List.append_nil]
    exact r.length.symm.trans (F.len _ _ _ _ h)
  have bnd := hb s us I.kIn many
  rw [List.append_nil] at bnd
  refine wpAny_call (codeAny_mono (F.run A X.stack s H ⟨us, []⟩ us vs Q E room e0 bnd r h) fun out s' q => ?_)
  match out, q with
  | .error e, q => exact hx pins σ H s e s' I q
  | .ok (.ret u), q => exact I.after q
  | .ok .next, q => exact (q : False).elim
  | .ok .brk, q => exact (q : False).elim
  | .ok .cont, q => exact (q : False).elim
end
section
variable {prog : Program} {w : World} {A : Around} {E : Value → Shared → Prop} {s : Shared} {K : PySem.W.Frag} {x C f : Addr} {ox : Obj} {od : Option Obj}
theorem ifBound_ne {args : List Value} {Q : Option Value → Shared → Prop} (inK : K.In s.heap) (J : PySem.W.InstAt s.heap x ox C od) (ne : PySem.W.findIn K (.ref C) "__ne__" = some (some (.builtin "object.__ne__")))
    (h : wpAny (model prog w) A (call (.builtin "object.__ne__") (.ref x :: args)) (fun v => Q (some v)) E s) : wpAny (model prog w) A (callSpecialIfBound? (.ref x) "__ne__" args) Q E s := by
  simp only [callSpecialIfBound?, bindSpecialIfBound?]
  have told : wpAny (model prog w) A (call (.builtin "object.__ne__") ([.ref x] ++ args) >>= fun v => pure (some v)) Q E s := wpAny_bind (wpAny_mono h (fun _ _ q => wpAny_pure q) fun _ _ q => q)
  refine wpAny_holding (wpAny_bind (wpAny_bind (wpAny_bind (J.type.here ((PySem.W.looks_findIn inK ne).here (wpAny_bind (wpAny_askSetting (wpAny_ite ?_))))))))
  split
  · exact wpAny_bind (wpAny_of_eq (F.cmp_object.ne.bind _) (wpAny_pure (by exact told)))
  · exact wpAny_tryCatch (wpAny_bind (wpAny_of_eq (F.cmp_object.ne.bind _) (wpAny_pure (by exact told))))
theorem entry_ne {b : Value} {Q : Fin → Shared → Prop} (room : A.units < cLine) (inK : K.In s.heap) (J : PySem.W.InstAt s.heap x ox C od) (eq : PySem.W.findIn K (.ref C) "__eq__" = some (some (.ref f))) (isf : PySem.W.isFn K (.ref f) = true)
    (h : wpAny (model prog w) A (call (.ref f) [.ref x, b]) (fun v s' => ∃ r, v = .bool r ∧ Q (.done (.ret (.bool (!r)))) s') E s) : wpAny (model prog w) A (Builtin.«object.__ne__» ⟨[.ref x, b], []⟩) Q E s := by
  unfold Builtin.«object.__ne__»
  repeat (first
    | with_reducible refine wpAny_cRoomFor room ?_
    | (refine wpAny_bind (m := callSpecialIfBound? (.ref x) (Str.ofString "__eq__") [b])
        (PySem.W.ifBound_K inK J eq isf (wpAny_mono h (fun v s' told => by
          obtain ⟨r, rfl, q⟩ := told
          repeat (first | exact q | exact wpAny_pure q | exact wpAny_truthy_bool q | (refine wpAny_bind (m := truthy (.bool _)) (wpAny_truthy_bool ?_)) | wp_step)) fun _ _ q => q)))
    | wp_step)
theorem ne_own {b tb : Value} {Q : Value → Shared → Prop} (room : A.units + 1 < cLine) (inK : K.In s.heap) (J : PySem.W.InstAt s.heap x ox C od) (obj : PySem.W.mroIn K C (.type "object") = some true)
    (ne : PySem.W.findIn K (.ref C) "__ne__" = some (some (.builtin "object.__ne__"))) (eq : PySem.W.findIn K (.ref C) "__eq__" = some (some (.ref f))) (isf : PySem.W.isFn K (.ref f) = true)
    (hb : PySem.W.Looks (model prog w) s.heap (typeOf b) tb) (nf : PySem.W.notFirst K C tb = true)
    (h : wpAny (model prog w) A.in1 (call (.ref f) [.ref x, b]) (fun v s' => ∃ r, v = .bool r ∧ Q (.bool (!r)) s') E s) : wpAny (model prog w) A (richCompare .NotEq (.ref x) b) Q E s := by
  have asked : wpAny (model prog w) A (tryCompare (.ref x) "__ne__" b) (fun o s' => ∃ r : Bool, o = some (.bool r) ∧ Q (.bool r) s') E s := by
    unfold tryCompare
    refine wpAny_bind (ifBound_ne inK J ne (wpAny_call (codeAny_call_builtin F.cmp_object.ne.plain F.cmpEntry_ne (PySem.W.check_slot F.cmpKind_ne F.cmpSplit_ne (J.type.andThen (PySem.W.looks_mroIn inK obj)) (F.cmpArgs_ne _ _) ?_))))
    refine entry_ne (A := A.in1) room inK J eq isf (wpAny_mono h (fun v s' told => ?_) fun _ _ q => q)
    obtain ⟨r, rfl, q⟩ := told
    exact ⟨r, rfl, wpAny_pure ⟨!r, rfl, q⟩⟩
  unfold richCompare
  simp only [oneThing_ref]
  refine wpAny_holding (wpAny_bind (wpAny_cRoomFor (Nat.lt_of_succ_lt room) ?_))
  rw [cmpInfo_NotEq]
  refine wpAny_bind (J.type.here (wpAny_bind (hb.here ?_)))
  have go : wpAny (model prog w) A (tryCompare (.ref x) "__ne__" b) (fun o s' => ∃ r : Bool, o = some (.bool r) ∧ Q (.bool r) s') E s := asked
  split
  · rename_i apart
    have later : PySem.W.subIn K tb (.ref C) = some false := by
      rcases Bool.or_eq_true_iff.mp nf with e | e
      · rw [beq_iff_eq.mp e] at apart
        simp at apart
      · exact beq_iff_eq.mp e
    refine wpAny_bind ((PySem.W.looks_subIn inK later).here ?_)
    simp only [Bool.false_eq_true, if_false]
    refine wpAny_bind (wpAny_mono go (fun o s' z => ?_) fun _ _ q => q)
    obtain ⟨r, rfl, q⟩ := z
    exact wpAny_pure q
  · refine wpAny_bind (wpAny_pure ?_)
    simp only [Bool.false_eq_true, if_false]
    refine wpAny_bind (wpAny_mono go (fun o s' z => ?_) fun _ _ q => q)
    obtain ⟨r, rfl, q⟩ := z
    exact wpAny_pure q
end
/-- what the text says of a class with an own __eq__ at f -/
structure OwnC (K : PySem.W.Frag) (C f : Addr) (fd : FuncData) (ps : List Str) : Prop where
  eq : PySem.W.findIn K (.ref C) "__eq__" = some (some (.ref f))
  isf : PySem.W.isFn K (.ref f) = true
  ne : PySem.W.findIn K (.ref C) "__ne__" = some (some (.builtin "object.__ne__"))
  obj : PySem.W.mroIn K C (.type "object") = some true
  bnd : Binds K fd ps []
/-- o == y, o != y: neg -/
def rOwn (K : PySem.W.Frag) (C : Addr) (sp : Sp) (E : XK) (neg : Bool) : R2 := fun x y H Q => ∃ a dx fs t, x = .ref a ∧ H a = some (.ins C dx fs) ∧ TyX K H y t ∧ PySem.W.notFirst K C t = true ∧
  sp [.ref a, y] H (fun v H' => ∃ b, v = .bl b ∧ Q (.bl (b != neg)) H') E
section
variable {X : Cx} {CX : CXT} {n : Nat} {C f : Addr} {fd : FuncData} {ps : List Str} {sp : Sp} {E : XK}
theorem op_ownEq (F : FnOk X.prog X.w X.K X.mg X.base CX n f fd ps sp) (O : OwnC X.K C f fd ps) (hr : Room n X.A) (hx : Passes CX X E) : OpR X (compareOp .Eq) (rOwn X.K C sp E false) := by
  intro pins s σ H x y v u Q I rx ry h
  obtain ⟨a, dx, fs, t, rfl, ha, ty, nf, h⟩ := h
  obtain rfl : v = Value.ref a := rx
  obtain ⟨mA, J, _⟩ := ins_get I.hok ha
  obtain ⟨od, J, _⟩ := J.look
  obtain ⟨m, fr⟩ := I.fr
  have un := hr.un
  refine PySem.W.cmp_K (op := .Eq) (tb := t) (by omega) fr I.ok.mod.kin J (ty_looks _ I ry ty) nf O.eq O.isf ?_
  refine wpAny_mono (run_at (A := X.A) (vs := [.ref a, y]) (us := [.ref a, u]) F rfl hr O.bnd hx I (.cons rfl (.cons ry .nil)) h) (fun w' s' told => ?_) fun _ _ q => q
  obtain ⟨z, H', I', rz, b, rfl, q⟩ := told
  obtain rfl : w' = Value.bool b := rz
  refine ⟨.bl b, H', I', rfl, ?_⟩
  simpa using q
theorem op_ownNe (F : FnOk X.prog X.w X.K X.mg X.base CX n f fd ps sp) (O : OwnC X.K C f fd ps) (hr : Room (n + 1) X.A) (hx : Passes CX X E) : OpR X (compareOp .NotEq) (rOwn X.K C sp E true) := by
  intro pins s σ H x y v u Q I rx ry h
  obtain ⟨a, dx, fs, t, rfl, ha, ty, nf, h⟩ := h
  obtain rfl : v = Value.ref a := rx
  obtain ⟨mA, J, _⟩ := ins_get I.hok ha
  obtain ⟨od, J, _⟩ := J.look
  have un := hr.un
  refine ne_own (A := X.A) (by omega) I.kIn J O.obj O.ne O.eq O.isf (ty_looks _ I ry ty) nf ?_
  refine wpAny_mono (run_at (A := X.A.in1) (vs := [.ref a, y]) (us := [.ref a, u]) F rfl hr.in1 O.bnd hx I (.cons rfl (.cons ry .nil)) h) (fun w' s' told => ?_) fun _ _ q => q
  obtain ⟨z, H', I', rz, b, rfl, q⟩ := told
  obtain rfl : w' = Value.bool b := rz
  refine ⟨b, rfl, .bl (!b), H', I', rfl, ?_⟩
  have e : (b != true) = !b := by cases b <;> rfl
  rw [← e]
  exact q
end
end Vf

set_option maxRecDepth 100000
set_option maxHeartbeats 4000000
namespace Vf
open PySem PySem.Spec PyProof.Rows L2
/-- what the text says of a static method that is reached through an object -/
structure SInst (K : PySem.W.Frag) (C : Addr) (m : Str) (p g : Addr) : Prop where
  pg : PySem.W.plainGet K C Str.empty = true
  ic : PySem.W.isClsIn K C = true
  at_ : PySem.W.findIn K (.ref C) m = some (some (.ref p))
  ty : PySem.W.typeIn K (.ref p) = some (.type "staticmethod")
  get : PySem.W.specialIn K (.ref p) "__get__" = some (some (.builtin "staticmethod.__get__"))
  tk : PySem.W.takesIn K (.ref p) = some false
  cp : PySem.W.copiedNames.contains m = false
  rc : ∃ rest, PySem.W.recIn K p "staticmethod" = some (.ref g :: rest)
  kp : PySem.W.keepIn K (.ref g) = true
theorem SInst.get' {K : PySem.W.Frag} {C : Addr} {m : Str} {p g : Addr} (k : SInst K C m p g) : PySem.W.plainGet K C m = true := k.pg
def tSI (C : Addr) (m : Str) (sp : Sp) (E : XK) (ta : TE) (t : TA) : TE := fun σ H Q => ta σ H fun x H1 => ∃ a dx fs, x = .ref a ∧ H1 a = some (.ins C dx fs) ∧ fs.lookup m = none ∧ t σ H1 fun vs H2 => sp vs H2 Q E
section
variable {X : Cx} {CX : CXT} {k : Nat} {C p g : Addr} {fd : FuncData} {ps : List Str} {sp : Sp} {E : XK} {o e : Expr} {es : List Expr} {m : Str} {pos apos : Pos} {ta : TE} {t : TA} {pl : Sem Bool}
theorem pe_sinst (he : PE X o ta) (c : SInst X.K C m p g) (F : FnOk X.prog X.w X.K X.mg X.base CX k g fd ps sp) (hr : Room k X.A) (hb : Binds X.K fd ps []) (hx : Passes CX X E) (ha : PA X (e :: es) t)
    (hst : starEach (e :: es) X.env = (false, eval e X.env) :: starEach es X.env := by rfl) (hpl : (backTo pos (starEach es X.env)).any (·.1) = false := by rfl)
    (ht : eval (.Call (.Attribute o m apos) (e :: es) [] pos) X.env = (do
      let ov ← eval o X.env
      standAt apos.atName
      let (f, first) ← holding [ov] (getMethod ov m pl)
      callWith pos f first (backTo pos (starEach (e :: es) X.env)) (backToKw pos (keywordEach [] X.env))) := by rfl) :
    PE X (.Call (.Attribute o m apos) (e :: es) [] pos) (tSI C m sp E ta t) := by
  refine ⟨fun pins s σ H Q I h => PySem.W.methodCall_KW (pl := pl) (thn (he.run pins s σ H _ I h) ?_) ht⟩
  rintro u s1 ⟨x, H1, I1, rx, a, dx, fs, rfl, ea, own, q⟩
  obtain rfl : u = Value.ref a := rx
  obtain ⟨mA, O, rr, _, _, _⟩ := ins_get I1.hok ea
  have hn : mA m = none := RelO.none_of (by rw [← own]; exact rr m)
  obtain ⟨od, J, look⟩ := O.look
  obtain ⟨rest, rec⟩ := c.rc
  refine PySem.W.method_usual (r := some (.ref p)) I1.kIn J (PySem.W.plainGet_of c.get').1 (PySem.W.plainGet_of c.get').2 c.at_ ?_ ?_
  · simp only [Option.all_some, c.ty, Option.any_some]
    decide +kernel
  refine PySem.W.get_bind I1.kIn J (PySem.W.plainGet_of c.get').1 (ClX.find_cm c.ic c.at_ c.get c.tk c.cp (by rw [look m, hn])) (PySem.W.plainGet_of c.get').2 ?_
  refine wpAny_call (PySem.W.sm_get (s := { s1 with toks := s1.toks + 1 }) I1.kIn rec (PySem.W.handed_on rfl ?_))
  have I2 : Inv X pins σ H1 { s1 with toks := s1.toks + 1 } := I1.tok _
  refine PySem.W.callWith_K (h₀ := X.base) I.ok.mod.kin c.kp (thn (ha.run pos pins _ σ H1 _ I2 q) ?_) hst hpl
  rintro us s2 ⟨vs, H2, I3, rv, q2⟩
  exact ⟨I3.kIn, run_fn (dvs := []) F hr hb .nil hx I3 rv (by rw [List.append_nil]; exact q2)⟩
end
/-- str(o) -/
def rStrOwn (C : Addr) (sp : Sp) (E : XK) : List V → Hp → VK → Prop := fun xs H Q => ∃ a dx fs, xs = [.ref a] ∧ H a = some (.ins C dx fs) ∧ sp [.ref a] H (fun v H' => ∃ z, v = .str z ∧ Q (.str z) H') E
structure OwnS (K : PySem.W.Frag) (C f : Addr) (fd : FuncData) (ps : List Str) : Prop where
  st : PySem.W.findIn K (.ref C) "__str__" = some (some (.ref f))
  isf : PySem.W.isFn K (.ref f) = true
  bnd : Binds K fd ps []
theorem cr_strOwn {X : Cx} {CX : CXT} {n : Nat} {C f : Addr} {fd : FuncData} {ps : List Str} {sp : Sp} {E : XK} (F : FnOk X.prog X.w X.K X.mg X.base CX n f fd ps sp) (O : OwnS X.K C f fd ps) (hr : Room (n + 2) X.A) (hx : Passes CX X E) :
    CallR X (.type "str") (rStrOwn C sp E) := by
  intro pins s σ H xs us Q I r h
  obtain ⟨a, dx, fs, rfl, ha, h⟩ := h
  obtain ⟨u, rfl, r1⟩ := vals1 r
  obtain rfl : u = Value.ref a := r1
  obtain ⟨mA, J, _⟩ := ins_get I.hok ha
  obtain ⟨od, J, _⟩ := J.look
  have room : Room n X.A.in1.in1 := hr.in1.in1
  have un := room.un
  refine PySem.W.kso_call (by omega) I.kIn J O.st O.isf ?_
  refine wpAny_mono (run_at (A := X.A.in1.in1) (vs := [.ref a]) (us := [.ref a]) F rfl room O.bnd hx I (.cons rfl .nil) h) (fun w' s' told => ?_) fun _ _ q => q
  obtain ⟨z, H', I', rz, y, rfl, q⟩ := told
  obtain ⟨tk, rfl⟩ : ∃ tk, w' = Value.str y tk := rz
  exact ⟨.str y, H', I', ⟨tk, rfl⟩, q⟩
end Vf

set_option maxRecDepth 100000
set_option maxHeartbeats 4000000
namespace Vf
open PySem PySem.Spec PyProof.Rows L2
theorem contains_iff {x y : Str} : Txt.contains x y = true ↔ ∃ a b : List Nat, TL.tl x = a ++ (TL.tl y ++ b) := by
  unfold Txt.contains
  rw [PySem.StrLaws.found_iff]
  constructor
  · rintro ⟨i, h1, h2⟩
    rw [PySem.StrLaws.subAt_eq, beq_iff_eq] at h2
    refine ⟨(TL.tl x).take i, ((TL.tl x).drop i).drop y.length, ?_⟩
    have h3 : ((TL.tl x).drop i).take y.length = TL.tl y := h2
    rw [← h3, List.take_append_drop, List.take_append_drop]
  · rintro ⟨a, b, e⟩
    refine ⟨a.length, ?_, ?_⟩
    · rw [TL.len_tl, TL.len_tl, e]
      simp only [List.length_append]
      omega
    · rw [PySem.StrLaws.subAt_eq, beq_iff_eq]
      show ((TL.tl x).drop a.length).take y.length = TL.tl y
      rw [e, List.drop_left, TL.len_tl, List.take_left]
/-- y in x, both texts -/
def rInT : R2 := fun x y H Q => ∃ a b : Str, x = .str a ∧ y = .str b ∧ Q (.bl (Txt.contains b a)) H
theorem op_inT {X : Cx} : OpR X (compareOp .In) rInT := by
  intro pins s σ H x y v u Q I rx ry h
  obtain ⟨a, b, rfl, rfl, q⟩ := h
  obtain ⟨t, rfl⟩ := rx
  obtain ⟨t', rfl⟩ := ry
  exact PyProof.Rows.in_str ⟨.bl (Txt.contains b a), H, I, rfl, q⟩
end Vf

set_option maxRecDepth 100000
set_option maxHeartbeats 4000000
namespace Vf
open PySem PySem.Spec PyProof.Rows L2
def top (i : Nat) : Stmt := PySem.Challenge.pw_sharedlines_k10_programs_read.main.body.getD i (.Pass ⟨0, 0, 0, 0⟩)
abbrev s_is_name : Stmt := top 2
abbrev s_InvalidText_init : Stmt := inClass (top 5) 0
abbrev s_Program_init : Stmt := inClass (top 11) 0
abbrev s_Program_parse : Stmt := inClass (top 11) 1
abbrev s_Program_str : Stmt := inClass (top 11) 2
abbrev s_Program_eq : Stmt := inClass (top 11) 3
abbrev s_nodes_of : Stmt := top 12
abbrev s_node_of : Stmt := top 13
abbrev s_targets_of : Stmt := top 14
abbrev s_law_feed : Stmt := top 16
abbrev s_law_take : Stmt := top 17
abbrev s_law_pick : Stmt := top 18
abbrev s_law_nodes : Stmt := top 19
abbrev s_law_text : Stmt := top 20
abbrev s_law_names : Stmt := top 21
abbrev s_law_is_right : Stmt := top 22
abbrev s_law : Stmt := top 23
-- is_name: 0:value 1:letter
abbrev n_is_name : List Str := ["value", "letter"]
abbrev p_is_name : List Str := ["value"]
theorem sc_is_name : FnScope n_is_name p_is_name (defScope s_is_name) := ⟨rfl, rfl, rfl, by decide +kernel, rfl, by decide +kernel, by decide +kernel⟩
-- Program.__init__: 0:self 1:text
abbrev n_Program_init : List Str := ["self", "text"]
abbrev p_Program_init : List Str := ["self", "text"]
theorem sc_Program_init : FnScope n_Program_init p_Program_init (defScope s_Program_init) := ⟨rfl, rfl, rfl, by decide +kernel, rfl, by decide +kernel, by decide +kernel⟩
-- Program.parse: 0:text
abbrev n_Program_parse : List Str := ["text"]
abbrev p_Program_parse : List Str := ["text"]
theorem sc_Program_parse : FnScope n_Program_parse p_Program_parse (defScope s_Program_parse) := ⟨rfl, rfl, rfl, by decide +kernel, rfl, by decide +kernel, by decide +kernel⟩
-- Program.__str__: 0:self
abbrev n_Program_str : List Str := ["self"]
abbrev p_Program_str : List Str := ["self"]
theorem sc_Program_str : FnScope n_Program_str p_Program_str (defScope s_Program_str) := ⟨rfl, rfl, rfl, by decide +kernel, rfl, by decide +kernel, by decide +kernel⟩
-- Program.__eq__: 0:self 1:other
abbrev n_Program_eq : List Str := ["self", "other"]
abbrev p_Program_eq : List Str := ["self", "other"]
theorem sc_Program_eq : FnScope n_Program_eq p_Program_eq (defScope s_Program_eq) := ⟨rfl, rfl, rfl, by decide +kernel, rfl, by decide +kernel, by decide +kernel⟩
-- _nodes_of: 0:text 1:rows 2:numbers 3:nodes 4:index 5:row 6:node 7:number
abbrev n_nodes_of : List Str := ["text", "rows", "numbers", "nodes", "index", "row", "node", "number"]
abbrev p_nodes_of : List Str := ["text"]
theorem sc_nodes_of : FnScope n_nodes_of p_nodes_of (defScope s_nodes_of) := ⟨rfl, rfl, rfl, by decide +kernel, rfl, by decide +kernel, by decide +kernel⟩
-- _node_of: 0:row 1:numbers 2:words 3:targets
abbrev n_node_of : List Str := ["row", "numbers", "words", "targets"]
abbrev p_node_of : List Str := ["row", "numbers"]
theorem sc_node_of : FnScope n_node_of p_node_of (defScope s_node_of) := ⟨rfl, rfl, rfl, by decide +kernel, rfl, by decide +kernel, by decide +kernel⟩
-- _targets_of: 0:words 1:numbers 2:may_end 3:named 4:targets 5:word
abbrev n_targets_of : List Str := ["words", "numbers", "may_end", "named", "targets", "word"]
abbrev p_targets_of : List Str := ["words", "numbers"]
theorem sc_targets_of : FnScope n_targets_of p_targets_of (defScope s_targets_of) := ⟨rfl, rfl, rfl, by decide +kernel, rfl, by decide +kernel, by decide +kernel⟩
-- _law_feed: 0:script 1:k 2:seed 3:digits
abbrev n_law_feed : List Str := ["script", "k", "seed", "digits"]
abbrev p_law_feed : List Str := ["script", "k"]
theorem sc_law_feed : FnScope n_law_feed p_law_feed (defScope s_law_feed) := ⟨rfl, rfl, rfl, by decide +kernel, rfl, by decide +kernel, by decide +kernel⟩
-- _law_take: 0:feed 1:size 2:digit
abbrev n_law_take : List Str := ["feed", "size", "digit"]
abbrev p_law_take : List Str := ["feed", "size"]
theorem sc_law_take : FnScope n_law_take p_law_take (defScope s_law_take) := ⟨rfl, rfl, rfl, by decide +kernel, rfl, by decide +kernel, by decide +kernel⟩
-- _law_pick: 0:feed 1:choices
abbrev n_law_pick : List Str := ["feed", "choices"]
abbrev p_law_pick : List Str := ["feed", "choices"]
theorem sc_law_pick : FnScope n_law_pick p_law_pick (defScope s_law_pick) := ⟨rfl, rfl, rfl, by decide +kernel, rfl, by decide +kernel, by decide +kernel⟩
-- _law_nodes: 0:feed 1:cells 2:most 3:many 4:found 5:at 6:targets 7:word 8:one
abbrev n_law_nodes : List Str := ["feed", "cells", "most", "many", "found", "at", "targets", "word", "one"]
abbrev p_law_nodes : List Str := ["feed", "cells", "most"]
theorem sc_law_nodes : FnScope n_law_nodes p_law_nodes (defScope s_law_nodes) := ⟨rfl, rfl, rfl, by decide +kernel, rfl, by decide +kernel, by decide +kernel⟩
-- _law_text: 0:nodes 1:rows 2:word 3:cell 4:targets 5:row 6:one
abbrev n_law_text : List Str := ["nodes", "rows", "word", "cell", "targets", "row", "one"]
abbrev p_law_text : List Str := ["nodes"]
theorem sc_law_text : FnScope n_law_text p_law_text (defScope s_law_text) := ⟨rfl, rfl, rfl, by decide +kernel, rfl, by decide +kernel, by decide +kernel⟩
-- _law_names: 0:feed 1:letters 2:found 3:turn 4:word 5:more
abbrev n_law_names : List Str := ["feed", "letters", "found", "turn", "word", "more"]
abbrev p_law_names : List Str := ["feed"]
theorem sc_law_names : FnScope n_law_names p_law_names (defScope s_law_names) := ⟨rfl, rfl, rfl, by decide +kernel, rfl, by decide +kernel, by decide +kernel⟩
-- _law_is_right: 0:text 1:nodes 2:made 3:thing
abbrev n_law_is_right : List Str := ["text", "nodes", "made", "thing"]
abbrev p_law_is_right : List Str := ["text", "nodes"]
theorem sc_law_is_right : FnScope n_law_is_right p_law_is_right (defScope s_law_is_right) := ⟨rfl, rfl, rfl, by decide +kernel, rfl, by decide +kernel, by decide +kernel⟩
-- law: 0:script 1:index 2:feed 3:kept 4:turn 5:nodes 6:text 7:rows 8:full 9:some 10:one 11:first 12:other 13:second 14:row
abbrev n_law : List Str := ["script", "index", "feed", "kept", "turn", "nodes", "text", "rows", "full", "some", "one", "first", "other", "second", "row"]
abbrev p_law : List Str := ["script"]
theorem sc_law : FnScope n_law p_law (defScope s_law) := ⟨rfl, rfl, rfl, by decide +kernel, rfl, by decide +kernel, by decide +kernel⟩

def OkF (P : Program) (w : World) (K : PySem.W.Frag) (mg : Str → Option Value) (base : Heap) (CX : CXT) (x : Str) (ps : List Str) (k : Nat) (sp : Sp) : Prop :=
  ∃ (f : Addr) (fd : FuncData), mg x = some (.ref f) ∧ PySem.W.keepIn K (.ref f) = true ∧ Binds K fd ps [] ∧ FnOk P w K mg base CX k f fd ps sp
theorem pe_fn {X : Cx} {CX : CXT} {x : Str} {ps : List Str} {k : Nat} {sp : Sp} {E : XK} {e : Expr} {es : List Expr} {t : TA} {p pos : Pos} (G : OkF X.prog X.w X.K X.mg X.base CX x ps k sp) (hr : Room k X.A) (hg : Gl X x) (hx : Passes CX X E)
    (ha : PA X (e :: es) t) (hdb : (x == ("__debug__" : Str)) = false := by decide) (he : starEach (e :: es) X.env = (false, eval e X.env) :: starEach es X.env := by rfl) (hpl : (backTo pos (starEach es X.env)).any (·.1) = false := by rfl) :
    PE X (.Call (.Name x p) (e :: es) [] pos) (tCall sp [] E t) := by
  obtain ⟨f, fd, hm, hk, hb, F⟩ := G
  exact pe_call F hr hg hm hk hb .nil hx ha hdb he hpl
/-- what the top leaves: names that are still the built-ins, constants -/
structure Txt0 (K : PySem.W.Frag) (mg : Str → Option Value) : Prop where
  len : mg "len" = none
  isinstance : mg "isinstance" = none
  all : mg "all" = none
  str : mg "str" = none
  longest : ∃ t, mg "LONGEST_NAME" = some (.int 8 t)
  most : ∃ t, mg "MOST_NODES" = some (.int 8 t)
  arrow : ∃ t, mg "ARROW" = some (.str sArrow t)
  end_ : ∃ t, mg "END" = some (.str sEnd t)
  words : ∃ a, mg "WORDS" = some (.ref a) ∧ ∀ H, SqT K H a [.str sRead, .str sWrite]
  range : mg "range" = none
  enumerate : mg "enumerate" = none
  set : mg "set" = none
  sorted : mg "sorted" = none
  tuple : mg "tuple" = none
end Vf

set_option maxRecDepth 100000
set_option maxHeartbeats 4000000
namespace Vf
open PySem PySem.Spec PyProof.Rows L2
section
variable {P : Program} {w : World} {K : PySem.W.Frag} {mg : Str → Option Value} {base : Heap}
theorem lt_one (a b : Nat) : (decide ([a] < [b]) : Bool) = decide (a < b) := by
  refine decide_eq_decide.mpr ⟨fun q => ?_, fun h => List.Lex.rel h⟩
  cases q with
  | rel q => exact q
  | cons q => cases q
theorem cps_size (z : Str) : z.cps.toList.length = z.length := by simp [Str.length]
/-- is_name(text) -/
def sp_is_name : Sp := fun vs H Q _ => ∃ z : Str, vs = [.str z] ∧ z.length ≤ 1000000 ∧ ∀ H', Same H H' → Q (.bl (isNameT z)) H'
theorem ok_is_name {f : Addr} {fd : FuncData} (F : Fun K "is_name" "is_name" s_is_name f fd) (T : Txt0 K mg) : FnOk P w K mg base CX0 1 f fd p_is_name sp_is_name := by
  refine F.ok sc_is_name (fun vs H Q E h => ?_) (fun cdv A outer s H vs Q E hr h => ?_)
  · obtain ⟨z, rfl, _⟩ := h
    rfl
  · obtain ⟨z, rfl, hz, k⟩ := h
    obtain ⟨t8, e8⟩ := T.longest
    refine ⟨_, pss_cons (ps_if (PW.pt (pw_or (pt_not (pt_val (pe_callB call_isi (by rfl) T.isinstance boot_isinstance (pa_cons (pv 0) (pa_cons (pe_bltn (by rfl) T.str boot_str (v := .ty "str") rfl) pa_nil)))))
        (pw_or1 (pt_not (pt_chain op_le op_le pe_int (pe_callB call_len_str (by rfl) T.len PySem.boot_len (pa_cons (pv 0) pa_nil)) (pe_glob (v := .int 8) rfl e8 ⟨_, rfl⟩))))))
        (pss_one (ps_ret pe_bl)) pss_nil)
      (pss_one (ps_ret (pe_callB (cr_all rfl) (by rfl) T.all (by decide +kernel)
        (pa_cons (pe_lc (own := [("letter", 1)]) (g := gName 1) (tt := tYes) rfl sc_is_name.nd (pi_str (pv 0)) (blkOk_by (N := n_is_name) (sc := defScope s_is_name) (by decide +kernel))
          (fun _ _ _ _ _ => pg_name (i := 1) sc_is_name.nd rfl (Or.inl rfl)) (fun _ _ _ _ _ => pts_nil)
          (fun _ _ _ _ _ => pe_chain op_le_str op_le_str pe_str (pv 1) pe_str)) pa_nil)))), ?_⟩
    have hzl : z.length ≤ sizeLine := Nat.le_trans hz (by decide)
    refine ⟨_, rfl, _, _, _, _, true, rfl, .ty _, .base (.str _), kit_ty (by decide +kernel), _, rfl, iteF ?_⟩
    refine ⟨_, rfl, z, rfl, hzl, 1, (z.length : Int), rfl, rfl, decide ((1 : Int) ≤ z.length), rfl, ?_⟩
    have out : isNameT z = false → Q (.bl false) H := fun e => e ▸ k H (Same.refl H)
    by_cases h1 : (1 : Int) ≤ z.length
    case neg =>
      rw [decide_eq_false h1]
      refine iteF ⟨_, rfl, iteT (out ?_)⟩
      unfold isNameT
      rw [decide_eq_false (by omega)]
      rfl
    rw [decide_eq_true h1]
    refine iteT ⟨_, _, rfl, rfl, ⟨_, rfl, ?_⟩⟩
    by_cases h2 : (z.length : Int) ≤ 8
    case neg =>
      rw [decide_eq_false h2]
      refine iteT (out ?_)
      unfold isNameT
      rw [decide_eq_false (p := z.length ≤ 8) (by omega), Bool.and_false]
      rfl
    rw [decide_eq_true h2]
    refine iteF ?_
    have wz : Walk (Its z) z.cps.toList.length (fun _ => True) (fun i H v H' => H' = H ∧ ∃ c, z.cps[i]? = some c ∧ v = .str ⟨#[c]⟩) := by
      rw [cps_size]
      exact walk_str
    refine ⟨_, rfl, z, rfl, fun D hD => lc_mp z.cps.toList wz hD (fun c => .bl (decide (97 ≤ c) && decide (c ≤ 122))) (by rw [cps_size]; omega) (fun _ _ => trivial) ?_ ?_⟩
    · rintro i c x H2 H3 hc s2 ⟨rfl, c', hc', rfl⟩ R hR
      obtain rfl : c' = c := by
        rw [Array.getElem?_toList] at hc
        exact Option.some.inj (hc'.symm.trans hc)
      have ea : ("a" : Str).cps.toList = [97] := by decide +kernel
      have ez : ("z" : Str).cps.toList = [122] := by decide +kernel
      refine ⟨rfl, _, rfl, _, _, rfl, rfl, _, rfl, ?_⟩
      have e1 : (!decide ([c'] < ("a" : Str).cps.toList)) = decide (97 ≤ c') := by
        rw [ea, lt_one, ← decide_not]
        exact decide_eq_decide.mpr Nat.not_lt
      have e2 : (!decide (("z" : Str).cps.toList < [c'])) = decide (c' ≤ 122) := by
        rw [ez, lt_one, ← decide_not]
        exact decide_eq_decide.mpr Nat.not_lt
      show if (!decide ([c'] < ("a" : Str).cps.toList)) = true then _ else _
      rw [e1]
      have hk := hR H3 (Same.refl H3)
      by_cases g1 : 97 ≤ c'
      · rw [decide_eq_true g1, Bool.true_and] at hk
        rw [decide_eq_true g1]
        refine iteT ⟨_, _, rfl, rfl, ?_⟩
        show R (.bl (!decide (("z" : Str).cps.toList < [c']))) H3
        rw [e2]
        exact hk
      · rw [decide_eq_false g1, Bool.false_and] at hk
        rw [decide_eq_false g1]
        exact iteF hk
    · intro H2 s2 hL
      refine ⟨D, z.cps.toList.map fun c => decide (97 ≤ c) && decide (c ≤ 122), rfl, ?_, ?_⟩
      · rw [List.map_map]
        exact SqL.of hL
      · rw [List.all_map]
        have e : isNameT z = (z.cps.toList.all fun c => decide (97 ≤ c) && decide (c ≤ 122)) := by
          unfold isNameT
          rw [decide_eq_true (p := 1 ≤ z.length) (by omega), decide_eq_true (p := z.length ≤ 8) (by omega), Bool.true_and, Bool.true_and]
        have q := k H2 s2
        rw [e] at q
        exact q
end
end Vf

set_option maxRecDepth 100000
set_option maxHeartbeats 4000000
namespace Vf
open PySem PySem.Spec PyProof.Rows L2
/-- a target as a value -/
def tgV : Option Nat → V
  | none => .non
  | some k => .int (k : Int)
def numKvs (many : Nat) : List (Key × V) := (List.range many).map fun k => (Sum.inr (natS k), V.int (k : Int))
theorem valV_num {l : List Nat} {z : Str} : valV (l.map fun k => ((Sum.inr (natS k) : Key), V.int (k : Int))) (Sum.inr z) = (l.find? fun k => decide (natS k = z)).map fun (k : Nat) => V.int (k : Int) := by
  induction l with
  | nil => rfl
  | cons k l ih =>
    rw [List.map_cons, List.find?_cons]
    by_cases h : natS k = z
    · rw [decide_eq_true h, valV_pos (by rw [h])]
      rfl
    · rw [decide_eq_false h, valV_neg (fun e => h (Sum.inr.inj e)), ih]
theorem valV_nums {many : Nat} {z : Str} : valV (numKvs many) (Sum.inr z) = (numOf many z).map fun (k : Nat) => V.int (k : Int) := valV_num
theorem cut_one {x : V} {xs : List V} : cutV (x :: xs) (some 1) none = xs := by
  unfold cutV
  have e : HT.sIx (x :: xs).length 0 (some 1) = 1 := by
    show (if (1 : Int) < 0 then ((1 : Int) + ((xs.length + 1 : Nat) : Int)).toNat else min (1 : Int).toNat (xs.length + 1)) = 1
    rw [if_neg (by decide)]
    show min 1 (xs.length + 1) = 1
    omega
  rw [e, HT.sIx_none]
  simp
theorem cut_mid {x : V} {xs : List V} (h : xs ≠ []) : cutV (x :: xs) (some 1) (some (-1)) = xs.dropLast := by
  unfold cutV
  have hl := List.length_pos_iff.mpr h
  have e : HT.sIx (x :: xs).length 0 (some 1) = 1 := by
    show (if (1 : Int) < 0 then ((1 : Int) + ((xs.length + 1 : Nat) : Int)).toNat else min (1 : Int).toNat (xs.length + 1)) = 1
    rw [if_neg (by decide)]
    show min 1 (xs.length + 1) = 1
    omega
  have e2 : HT.sIx (x :: xs).length (x :: xs).length (some (-1)) = xs.length := by
    show (if (-1 : Int) < 0 then ((-1 : Int) + ((xs.length + 1 : Nat) : Int)).toNat else min (-1 : Int).toNat (xs.length + 1)) = xs.length
    rw [if_pos (by decide)]
    omega
  rw [e, e2, List.drop_one, List.tail_cons, List.dropLast_eq_take]
section
variable {P : Program} {w : World} {K : PySem.W.Frag} {mg : Str → Option Value} {base : Heap}
def sp_targets_of (K : PySem.W.Frag) : Sp := fun vs H Q _ => ∃ (a d : Addr) (ws : List Str) (many : Nat), vs = [.ref a, .ref d] ∧ SqL K H a (ws.map V.str) ∧ H d = some (.dK (numKvs many)) ∧ ws.length ≤ 4000 ∧ many ≤ 60 ∧
  (targetsT many ws = none → ∀ H', Same H H' → Q .non H') ∧ ∀ tg, targetsT many ws = some tg → ∀ t H', Same H H' → H t = none → H' t = some (.tup (tg.map tgV)) → Q (.ref t) H'
set_option maxHeartbeats 8000000 in
theorem ok_targets_of {f : Addr} {fd : FuncData} (F : Fun K "_targets_of" "_targets_of" s_targets_of f fd) (T : Txt0 K mg) : FnOk P w K mg base CX0 1 f fd p_targets_of (sp_targets_of K) := by
  refine F.ok sc_targets_of (fun vs H Q E h => ?_) (fun cdv A outer s H vs Q E hr h => ?_)
  · obtain ⟨a, d, ws, many, rfl, _⟩ := h
    rfl
  · obtain ⟨a, d, ws, many, rfl, hS, hD, hl, hm, kN, kS⟩ := h
    obtain ⟨tA, eA⟩ := T.arrow
    obtain ⟨tE, eE⟩ := T.end_
    have hu := hu_of hr
    refine ⟨_, pss_cons (ps_if (pt_cmpR op_eq (pe_callB call_len_seq (by rfl) T.len PySem.boot_len (pa_cons (pv 0) pa_nil)) pe_int (nomark _)) (pss_one (ps_ret (pe_tup (pa_cons pe_non pa_nil)))) pss_nil)
      (pss_cons (ps_if (PW.pt (pw_or (pt_cmpR op_ne (pe_ix ix_list (pv 0) pe_int (fun _ _ => rfl)) (pe_glob (v := .str sArrow) rfl eA ⟨_, rfl⟩) (nomark _))
        (pw_or1 (pt_cmpR op_eq (pe_callB call_len_seq (by rfl) T.len PySem.boot_len (pa_cons (pv 0) pa_nil)) pe_int (nomark _))))) (pss_one (ps_ret pe_non)) pss_nil)
      (pss_cons (ps_set (i := 2) sc_targets_of.nd rfl (Or.inl rfl) (pe_cmpR op_eq (pe_ix ix_list (pv 0) (pe_un un_neg pe_int) (fun _ _ => rfl)) (pe_glob (v := .str sEnd) rfl eE ⟨_, rfl⟩) (nomark _)))
      (C8.pss_cut (ps_set (i := 3) sc_targets_of.nd rfl (Or.inl rfl) (pe_ifExp (pt_val (pv 2)) (pe_slice sl_list (pv 0) (po_some pe_int) (po_some (pe_un un_neg pe_int))) (pe_slice sl_list (pv 0) (po_some pe_int) po_none)))
      (pss_cons (ps_if (pt_not (pt_val (pe_callB (cr_all rfl) (by rfl) T.all (by decide +kernel)
          (pa_cons (pe_lc (own := [("word", 5)]) (g := gName 5) (tt := tYes) rfl sc_targets_of.nd (pi_list (pv 3)) (blkOk_by (N := n_targets_of) (sc := defScope s_targets_of) (by decide +kernel))
            (fun _ _ _ _ _ => pg_name (i := 5) sc_targets_of.nd rfl (Or.inl rfl)) (fun _ _ _ _ _ => pts_nil)
            (fun _ _ _ _ _ => pe_cmp (pc_din hu (pv 5) (pv 1)))) pa_nil)))) (pss_one (ps_ret pe_non)) pss_nil)
      (pss_cons (ps_setLc (i := 4) (own := [("word", 5)]) (g := gName 5) (tt := tYes) rfl sc_targets_of.nd rfl rfl (sw_true rfl rfl rfl (by decide +kernel)) (pi_list (pv 3)) (blkOk_by (N := n_targets_of) (sc := defScope s_targets_of) (by decide +kernel))
            (fun _ _ _ _ _ => pg_name (i := 5) sc_targets_of.nd rfl (Or.inl rfl)) (fun _ _ _ _ _ => pts_nil)
            (fun _ _ _ _ _ => pe_dget hu (pv 1) (pv 5) (fun _ _ => rfl)))
      (pss_cons (ps_if (pt_cmpR (op_neD hr.units) (pv 4) (pe_callB (cr_sortedSet rfl) (by rfl) T.sorted (by decide +kernel) (pa_cons (pe_callTy (cr_setI rfl) (by rfl) T.set (by decide +kernel) (pa_cons (pv 4) pa_nil)) pa_nil)) (nomark _))
          (pss_one (ps_ret pe_non)) pss_nil)
      (pss_one (ps_ret (pe_ifExp (pt_val (pv 2)) (pe_tup (StX.pa_star (pv 4) (pa_cons pe_non pa_nil))) (pe_callTy call_tuple_of (by rfl) T.tuple (by decide +kernel) (pa_cons (pv 4) pa_nil))))))))))), ?_⟩
    refine ⟨_, rfl, a, _, rfl, .inl hS, rfl, _, rfl, ?_⟩
    cases ws with
    | nil =>
      refine iteT ⟨by show 1 ≤ sizeLine; decide, fun t ht => ?_⟩
      exact kS [none] rfl t _ (same_new ht) ht upd_same
    | cons w0 rest =>
      have none_of : targetsT many (w0 :: rest) = none → ∀ H', Same H H' → Q .non H' := kN
      refine iteF ⟨_, rfl, a, _, (0 : Int), .str w0, rfl, rfl, hS, at_of (j := 0) rfl rfl, rfl, _, rfl, ?_⟩
      by_cases h0 : w0 = sArrow
      case neg =>
        rw [decide_eq_false (p := V.str w0 = V.str sArrow) (fun e => h0 (V.str.inj e))]
        exact iteT (iteT (none_of (targetsT_bad h0) H (Same.refl H)))
      subst h0
      rw [decide_eq_true (p := V.str sArrow = V.str sArrow) rfl]
      refine iteF ⟨_, rfl, a, _, rfl, .inl hS, rfl, _, rfl, ?_⟩
      by_cases hr0 : rest = []
      · subst hr0
        exact iteT (none_of targetsT_bare H (Same.refl H))
      rw [decide_eq_false (p := V.int (((sArrow :: rest).map V.str).length : Int) = V.int 1) (fun e => hr0 (by
        have := V.int.inj e
        rw [List.length_map, List.length_cons] at this
        exact List.length_eq_zero_iff.mp (by omega)))]
      refine iteF ?_
      obtain ⟨rs, z, rfl⟩ : ∃ rs z, rest = rs ++ [z] := ⟨rest.dropLast, rest.getLast hr0, (List.dropLast_concat_getLast hr0).symm⟩
      have hlast : atI ((sArrow :: (rs ++ [z])).map V.str) (-1) = some (.str z) := by
        have e := atI_last (V.str sArrow :: rs.map V.str) (.str z)
        simpa using e
      refine ⟨_, rfl, 1, rfl, a, _, (-1 : Int), .str z, rfl, rfl, hS, hlast, rfl, ?_⟩
      refine ⟨fun σ H' => ∃ p named, σ = [some (.ref a), some (.ref d), some (.bl (decide (z = sEnd))), some (.ref p), none, none] ∧ Same H H' ∧ H' p = some (.lst (named.map V.str)) ∧
        named = (if decide (z = sEnd) = true then rs else rs ++ [z]), ?_, ?_⟩
      · have e0 : decide (V.str z = V.str sEnd) = decide (z = sEnd) := decide_eq_decide.mpr ⟨V.str.inj, fun e => by rw [e]⟩
        refine ⟨_, rfl, _, rfl, ?_⟩
        by_cases he : z = sEnd
        · rw [decide_eq_true (p := V.str z = V.str sEnd) (by rw [he])]
          refine iteT ⟨_, rfl, 1, rfl, 1, rfl, _, rfl, a, _, rfl, hS, fun p hp => ?_⟩
          refine ⟨p, rs, ?_, same_new hp, ?_, by rw [decide_eq_true he]; rfl⟩
          · rw [decide_eq_true he]
            rfl
          · rw [upd_same, List.map_cons, cut_mid (by simp), List.map_append, List.map_singleton, List.dropLast_concat]
        · rw [decide_eq_false (p := V.str z = V.str sEnd) (fun e => he (V.str.inj e))]
          refine iteF ⟨_, rfl, 1, rfl, a, _, rfl, hS, fun p hp => ?_⟩
          refine ⟨p, rs ++ [z], ?_, same_new hp, ?_, by rw [decide_eq_false he]; rfl⟩
          · rw [decide_eq_false he]
            rfl
          · rw [upd_same, List.map_cons, cut_one]
      rintro σ H' ⟨p, named, rfl, s1, hp, en⟩
      have hnl : named.length ≤ 4000 := by
        have q : (sArrow :: (rs ++ [z])).length ≤ 4000 := hl
        rw [List.length_cons, List.length_append, List.length_singleton] at q
        rw [en]
        split
        · omega
        · rw [List.length_append, List.length_singleton]; omega
      have et : targetsT many (sArrow :: (rs ++ [z])) = tgOf many named (decide (z = sEnd)) := by rw [targetsT_step, ← en]
      have hD' := s1 _ _ hD
      refine ⟨_, rfl, p, rfl, ⟨_, SqL.of hp⟩, fun D1 hD1 => lc_mp named (walk_list (K := K) (a := p) (xs := named.map V.str) |> fun q => by rw [List.length_map] at q; exact q) hD1
        (fun z => .bl (numOf many z).isSome) (by omega) (fun H2 s2 => SqL.of (s2 _ _ hp)) ?_ ?_⟩
      · rintro i z1 x H2 H3 hz s2 ⟨rfl, hx⟩ R hR
        rw [List.getElem?_map, hz] at hx
        obtain rfl : V.str z1 = x := Option.some.inj hx
        refine ⟨rfl, _, rfl, _, rfl, d, _, rfl, DGet.k (k := Sum.inr z1) (s2 _ _ hD'), ?_⟩
        rw [valV_nums, Option.isSome_map]
        exact hR _ (Same.refl _)
      intro H2 s2 hL
      refine ⟨D1, named.map fun z => (numOf many z).isSome, rfl, by rw [List.map_map]; exact SqL.of hL, _, rfl, ?_⟩
      rw [List.all_map]
      cases ha : named.all (id ∘ fun z => (numOf many z).isSome) with
      | false =>
        refine iteT (none_of ?_ H2 (s1.trans s2))
        rw [et]
        unfold tgOf
        rw [show (named.all fun z => (numOf many z).isSome) = false from ha, if_neg Bool.false_ne_true]
      | true =>
      refine iteF ?_
      have ha' : ∀ z ∈ named, (numOf many z).isSome = true := fun z hz => List.all_eq_true.mp ha z hz
      have s12 := s1.trans s2
      have hp2 := s2 _ _ hp
      have hD2 := s2 _ _ hD'
      refine ⟨_, rfl, p, rfl, ⟨_, SqL.of hp2⟩, fun D2 hD2' => lc_mp named (walk_list (K := K) (a := p) (xs := named.map V.str) |> fun q => by rw [List.length_map] at q; exact q) hD2'
        (fun z => .int (((numOf many z).getD 0 : Nat) : Int)) (by omega) (fun H3 s3 => SqL.of (s3 _ _ hp2)) ?_ ?_⟩
      · rintro i z1 x H3 H4 hz s3 ⟨rfl, hx⟩ R hR
        rw [List.getElem?_map, hz] at hx
        obtain rfl : V.str z1 = x := Option.some.inj hx
        refine ⟨rfl, _, rfl, _, rfl, d, .int (((numOf many z1).getD 0 : Nat) : Int), rfl, ?_, hR _ (Same.refl _)⟩
        have g := DGet.k (k := Sum.inr z1) (s3 _ _ hD2)
        rw [valV_nums] at g
        have h1 := ha' z1 (List.mem_of_getElem? hz)
        cases e : numOf many z1 with
        | none => rw [e] at h1; cases h1
        | some k =>
          rw [e] at g
          exact g
      intro H3 s3 hT
      have ets : named.map (fun z => V.int (((numOf many z).getD 0 : Nat) : Int)) = ((named.filterMap (numOf many)).map Int.ofNat).map V.int := by
        clear hT s3 en et hnl hp hp2 hL
        induction named with
        | nil => rfl
        | cons z r ih =>
          have h1 := ha' z List.mem_cons_self
          have h2 := ih (by rw [List.all_eq_true]; exact fun y hy => ha' y (List.mem_cons_of_mem _ hy)) fun y hy => ha' y (List.mem_cons_of_mem _ hy)
          cases e : numOf many z with
          | none => rw [e] at h1; cases h1
          | some k =>
            rw [List.map_cons, h2, List.filterMap_cons, e]
            rfl
      rw [ets] at hT
      have hlt : ∀ k ∈ named.filterMap (numOf many), k < many := fun k hk => by
        obtain ⟨z, _, e⟩ := List.mem_filterMap.mp hk
        exact (numOf_some.mp e).1
      generalize htl : named.filterMap (numOf many) = ts at hT hlt
      have htl4 : ts.length ≤ 4000 := by
        rw [← htl]
        exact Nat.le_trans (List.length_filterMap_le _ _) hnl
      have etg : tgOf many named (decide (z = sEnd)) = if rises ts then some (ts.map some ++ if decide (z = sEnd) then [none] else []) else none := by
        unfold tgOf
        rw [show (named.all fun z => (numOf many z).isSome) = true from ha, if_pos rfl, htl]
      have hc60 : ∀ c : Nat, (∀ l : List Int, (∀ k ∈ ts.map Int.ofNat, k ∈ l) → c ≤ l.length) → c < 64 := fun c hc => by
        have q := hc ((List.range many).map Int.ofNat) fun k hk => by
          obtain ⟨j, hj, rfl⟩ := List.mem_map.mp hk
          exact List.mem_map.mpr ⟨j, List.mem_range.mpr (hlt j hj), rfl⟩
        rw [List.length_map, List.length_range] at q
        omega
      refine ⟨_, rfl, _, rfl, D2, ts.map Int.ofNat, rfl, SqL.of hT, by rw [List.length_map]; unfold scanBound; omega, fun pS c hpS hc => ?_⟩
      refine ⟨pS, _, c, rfl, upd_same, hc60 c hc, fun ns pn hs hmem hlen hpn => ?_⟩
      have nTS : D2 ≠ pS := ne_of_none hT hpS
      have nTn : D2 ≠ pn := fun e => by
        rw [← e, upd_ne nTS, hT] at hpn
        cases hpn
      have hT2 : (upd (upd H3 pS (SetO w pS (fun j => decide (j ∈ ts.map Int.ofNat)) c)) pn (.lst (ns.map V.int))) D2 = some (.lst ((ts.map Int.ofNat).map V.int)) := by
        rw [upd_ne nTn, upd_ne nTS]
        exact hT
      refine ⟨.list ((ts.map Int.ofNat).map PyData.int), .list (ns.map PyData.int), .lst (SqL.of hT2) (dp_ints _), .lst (SqL.of upd_same) (dp_ints _), shaped_ints _, shaped_ints _, _, rfl, ?_⟩
      rw [eqv_ints]
      have hrs := rises_set hs fun k => by rw [hmem k]; exact decide_eq_true_iff
      have sall : Same H (upd (upd H3 pS (SetO w pS (fun j => decide (j ∈ ts.map Int.ofNat)) c)) pn (.lst (ns.map V.int))) :=
        (s12.trans s3).trans ((same_new hpS).trans (same_new hpn))
      by_cases hri : rises ts = true
      case neg =>
        rw [decide_eq_false (fun e => hri (hrs.mp e))]
        refine iteT (none_of ?_ _ sall)
        rw [et, etg, if_neg hri]
      rw [decide_eq_true (hrs.mpr hri)]
      refine iteF ?_
      have etT : targetsT many (sArrow :: (rs ++ [z])) = some (ts.map some ++ if decide (z = sEnd) then [none] else []) := by rw [et, etg, if_pos hri]
      have ev : ∀ l : List Nat, (l.map Int.ofNat).map V.int = (l.map some).map tgV := fun l => by
        rw [List.map_map, List.map_map]
        rfl
      refine ⟨_, rfl, _, rfl, ?_⟩
      cases he : decide (z = sEnd) with
      | true =>
        rw [he] at etT
        refine iteT ⟨_, rfl, D2, _, rfl, .inr (SqL.of hT2), ?_, fun t ht => ?_⟩
        · rw [List.length_append, List.length_map, List.length_map, sizeLine_eq]
          show ts.length + 1 ≤ _
          omega
        · refine kS _ etT t _ (sall.trans (same_new ht)) ?_ ?_
          · exact sall.free ht
          · rw [upd_same, ev, List.map_append]
            rfl
      | false =>
        rw [he] at etT
        refine iteF ⟨_, rfl, D2, _, rfl, .inl ⟨SqL.of hT2, fun t ht => ?_⟩⟩
        refine kS _ etT t _ (sall.trans (same_new ht)) (sall.free ht) ?_
        rw [upd_same, ev, List.map_append]
        show _ = some (HO.tup (_ ++ []))
        rw [List.append_nil]
end
end Vf

set_option maxRecDepth 100000
set_option maxHeartbeats 8000000
namespace Vf
open PySem PySem.Spec PyProof.Rows L2
def NodeAt (H : Hp) (a : Addr) (n : Nd) : Prop := ∃ t, H a = some (.tup [.str n.word, .str n.cell, .ref t]) ∧ H t = some (.tup (n.tg.map tgV))
theorem NodeAt.same {H H' : Hp} {a : Addr} {n : Nd} (h : NodeAt H a n) (s : Same H H') : NodeAt H' a n := by
  obtain ⟨t, h1, h2⟩ := h
  exact ⟨t, s _ _ h1, s _ _ h2⟩
theorem cut_two {x y : V} {xs : List V} : cutV (x :: y :: xs) (some 2) none = xs := by
  unfold cutV
  have e : HT.sIx (x :: y :: xs).length 0 (some 2) = 2 := by
    show (if (2 : Int) < 0 then ((2 : Int) + ((xs.length + 2 : Nat) : Int)).toNat else min (2 : Int).toNat (xs.length + 2)) = 2
    rw [if_neg (by decide)]
    show min 2 (xs.length + 2) = 2
    omega
  rw [e, HT.sIx_none]
  simp
/-- no part is longer than the whole -/
theorem part_len {x y z : Str} (h : z ∈ Txt.split x y) : z.length ≤ x.length := by
  have e := StrLaws.join_split x y
  generalize Txt.split x y = l at h e
  rw [← e]
  clear e
  induction l with
  | nil => cases h
  | cons a r ih =>
    cases r with
    | nil =>
      rw [List.mem_singleton.mp h]
      exact Nat.le_refl _
    | cons b r =>
      show z.length ≤ (a ++ y ++ Str.join y (b :: r)).length
      rw [Str.length_append, Str.length_append]
      rcases List.mem_cons.mp h with rfl | h
      · omega
      · have := ih h
        omega
theorem nodeT_short {many : Nat} {row : Str} (h : (Txt.split row sSp).length < 2) : nodeT many row = none := by
  unfold nodeT
  match Txt.split row sSp, h with
  | [], _ => rfl
  | [_], _ => rfl
theorem nodeT_cons {many : Nat} {row w c : Str} {rest : List Str} (h : Txt.split row sSp = w :: c :: rest) :
    nodeT many row = if (w = sRead ∨ w = sWrite) ∧ isNameT c = true then (targetsT many rest).map fun t => ⟨w, c, t⟩ else none := by
  unfold nodeT
  rw [h]
section
variable {P : Program} {w : World} {K : PySem.W.Frag} {mg : Str → Option Value} {base : Heap}
def sp_node_of : Sp := fun vs H Q _ => ∃ (row : Str) (d : Addr) (many : Nat), vs = [.str row, .ref d] ∧ H d = some (.dK (numKvs many)) ∧ many ≤ 60 ∧ row.length ≤ 100000 ∧ (Txt.split row sSp).length ≤ 4000 ∧
  (nodeT many row = none → ∀ H', Same H H' → Q .non H') ∧ ∀ n, nodeT many row = some n → ∀ a H', Same H H' → NodeAt H' a n → Q (.ref a) H'
theorem ok_node_of {f : Addr} {fd : FuncData} (F : Fun K "_node_of" "_node_of" s_node_of f fd) (T : Txt0 K mg) (GN : OkF P w K mg base CX0 "is_name" p_is_name 1 sp_is_name) (GT : OkF P w K mg base CX0 "_targets_of" p_targets_of 1 (sp_targets_of K)) :
    FnOk P w K mg base CX0 2 f fd p_node_of sp_node_of := by
  refine F.ok sc_node_of (fun vs H Q E h => ?_) (fun cdv A outer s H vs Q E hr h => ?_)
  · obtain ⟨row, d, many, rfl, _⟩ := h
    rfl
  · obtain ⟨row, d, many, rfl, hD, hm, hl, hw, kN, kS⟩ := h
    obtain ⟨aW, eW, hW⟩ := T.words
    refine ⟨_, pss_cons (ps_set (i := 2) sc_node_of.nd rfl (Or.inl rfl) (pe_split (pv 0) pe_str))
      (pss_cons (ps_if (PW.pt (pw_or (pt_cmpR op_lt (pe_callB call_len_seq (by rfl) T.len PySem.boot_len (pa_cons (pv 2) pa_nil)) pe_int (nomark _))
          (pw_or (pt_cmpR op_notIn_seq (pe_ix ix_list (pv 2) pe_int (fun _ _ => rfl)) (pe_glob (v := .ref aW) rfl eW rfl) rfl)
          (pw_or1 (pt_not (pt_val (pe_fn GN hr rfl pass0 (pa_cons (pe_ix ix_list (pv 2) pe_int (fun _ _ => rfl)) pa_nil)))))))) (pss_one (ps_ret pe_non)) pss_nil)
      (pss_cons (ps_set (i := 3) sc_node_of.nd rfl (Or.inl rfl) (pe_fn GT hr rfl pass0 (pa_cons (pe_slice sl_list (pv 2) (po_some pe_int) po_none) (pa_cons (pv 1) pa_nil))))
      (pss_cons (ps_if (pt_cmpR op_isN (pv 3) pe_non (nomark _)) (pss_one (ps_ret pe_non)) pss_nil)
      (pss_one (ps_ret (pe_tup (pa_cons (pe_ix ix_list (pv 2) pe_int (fun _ _ => rfl)) (pa_cons (pe_ix ix_list (pv 2) pe_int (fun _ _ => rfl)) (pa_cons (pv 3) pa_nil))))))))), ?_⟩
    refine ⟨_, rfl, ⟨_, rfl⟩, _, sSp, rfl, rfl, (by decide +kernel), (by rw [sizeLine_eq]; omega), fun p hp => ?_⟩
    have s1 := same_new (o := .lst ((Txt.split row sSp).map V.str)) hp
    refine ⟨_, rfl, p, _, rfl, .inl (SqL.of upd_same), _, _, rfl, rfl, _, rfl, ?_⟩
    rw [List.length_map]
    by_cases h2 : (Txt.split row sSp).length < 2
    · rw [decide_eq_true (p := (((Txt.split row sSp).length : Nat) : Int) < 2) (by omega)]
      exact iteT (iteT (kN (nodeT_short h2) _ s1))
    rw [decide_eq_false (p := (((Txt.split row sSp).length : Nat) : Int) < 2) (by omega)]
    obtain ⟨w0, c, rest, hsp⟩ : ∃ w0 c rest, Txt.split row sSp = w0 :: c :: rest := by
      match Txt.split row sSp, h2 with
      | [], h => exact absurd (show 0 < 2 by decide) h
      | [_], h => exact absurd (show 1 < 2 by decide) h
      | a :: b :: r, _ => exact ⟨a, b, r, rfl⟩
    have hpl : (upd H p (.lst ((Txt.split row sSp).map V.str))) p = some (.lst ((w0 :: c :: rest).map V.str)) := by rw [upd_same, hsp]
    have en := nodeT_cons (many := many) hsp
    refine iteF ⟨_, rfl, p, _, (0 : Int), .str w0, rfl, rfl, SqL.of hpl, at_of (j := 0) rfl rfl, aW, _, rfl, .inr (hW _), rfl, rfl, _, rfl, ?_⟩
    have hin : inV (.str w0) [V.str sRead, V.str sWrite] = decide (w0 = sRead ∨ w0 = sWrite) := by
      by_cases e1 : w0 = sRead
      · subst e1
        rw [decide_eq_true (.inl rfl)]
        decide +kernel
      by_cases e2 : w0 = sWrite
      · subst e2
        rw [decide_eq_true (.inr rfl)]
        decide +kernel
      rw [decide_eq_false (by rintro (e | e); exact e1 e; exact e2 e)]
      show ([V.str sRead, V.str sWrite].any fun y => eqV y (.str w0)) = false
      rw [List.any_cons, List.any_cons, List.any_nil]
      have f1 : eqV (.str sRead) (.str w0) = false := decide_eq_false fun e => e1 e.symm
      have f2 : eqV (.str sWrite) (.str w0) = false := decide_eq_false fun e => e2 e.symm
      rw [f1, f2]
      rfl
    show if (if true = true then !inV (.str w0) [V.str sRead, V.str sWrite] else _) = true then _ else _
    rw [if_pos rfl, hin]
    by_cases hw0 : w0 = sRead ∨ w0 = sWrite
    case neg =>
      rw [decide_eq_false hw0]
      refine iteT (iteT (kN ?_ _ s1))
      rw [en, if_neg (fun h => hw0 h.1)]
    rw [decide_eq_true hw0]
    have hc : c.length ≤ 1000000 := by
      have := part_len (x := row) (y := sSp) (z := c) (by rw [hsp]; simp)
      omega
    refine iteF ⟨_, rfl, p, _, (1 : Int), .str c, rfl, rfl, SqL.of hpl, at_of (j := 1) rfl rfl, c, rfl, hc, fun H2 s2 => ?_⟩
    refine ⟨_, rfl, ?_⟩
    cases hnm : isNameT c with
    | false =>
      refine iteT (kN ?_ _ (s1.trans s2))
      rw [en, if_neg (fun h => by rw [hnm] at h; exact Bool.false_ne_true h.2)]
    | true =>
    rw [if_pos ⟨hw0, hnm⟩] at en
    have hp2 := s2 _ _ hpl
    refine iteF ⟨_, rfl, 2, rfl, p, _, rfl, SqL.of hp2, fun q hq => ?_⟩
    have s3 := same_new (o := .lst (cutV ((w0 :: c :: rest).map V.str) (some 2) none)) hq
    have s13 := (s1.trans s2).trans s3
    have hq3 : (upd H2 q (.lst (cutV ((w0 :: c :: rest).map V.str) (some 2) none))) q = some (.lst (rest.map V.str)) := by
      rw [upd_same, List.map_cons, List.map_cons, cut_two]
    have hlr : rest.length ≤ 4000 := by
      rw [hsp, List.length_cons, List.length_cons] at hw
      omega
    refine ⟨_, rfl, q, d, rest, many, rfl, SqL.of hq3, s13 _ _ hD, hlr, hm, fun eT H4 s4 => ?_, fun tg eT t H4 s4 ht0 ht => ?_⟩
    · refine ⟨_, rfl, rfl, _, rfl, iteT (kN ?_ _ (s13.trans s4))⟩
      rw [en, eT]
      rfl
    · have hp4 := (s3.trans s4) _ _ hp2
      refine ⟨_, rfl, rfl, _, rfl, iteF ⟨_, rfl, p, _, (0 : Int), .str w0, rfl, rfl, SqL.of hp4, at_of (j := 0) rfl rfl,
        _, rfl, p, _, (1 : Int), .str c, rfl, rfl, SqL.of hp4, at_of (j := 1) rfl rfl, _, rfl, (by show 3 ≤ sizeLine; decide), fun a ha => ?_⟩⟩
      refine kS ⟨w0, c, tg⟩ (by rw [en, eT]; rfl) a _ ((s13.trans s4).trans (same_new ha)) ⟨t, upd_same, ?_⟩
      rw [upd_ne (ne_of_none ht ha)]
      exact ht
end
end Vf

set_option maxRecDepth 100000
set_option maxHeartbeats 8000000
namespace Vf
open PySem PySem.Spec PyProof.Rows L2
/-- what stood at H1 stands at H, but for what is at p -/
def But (p : Addr) (H1 H : Hp) : Prop := ∀ b o, b ≠ p → H1 b = some o → H b = some o
theorem But.refl (p : Addr) (H : Hp) : But p H H := fun _ _ _ e => e
theorem But.then {p : Addr} {H1 H2 H3 : Hp} (a : But p H1 H2) (s : Same H2 H3) : But p H1 H3 := fun b o hb e => s b o (a b o hb e)
theorem But.trans {p : Addr} {H1 H2 H3 : Hp} (a : But p H1 H2) (s : But p H2 H3) : But p H1 H3 := fun b o hb e => s b o hb (a b o hb e)
theorem But.put {p : Addr} {H1 H2 : Hp} {o : HO} (a : But p H1 H2) : But p H1 (upd H2 p o) := fun b u hb e => by rw [upd_ne hb]; exact a b u hb e
theorem Same.but {p : Addr} {H1 H2 : Hp} (s : Same H1 H2) : But p H1 H2 := fun b o _ e => s b o e
theorem But.same {p : Addr} {H0 H1 H2 : Hp} (a : But p H1 H2) (s : Same H0 H1) (h : H0 p = none) : Same H0 H2 := fun b o e => a b o (ne_of_none e h) (s b o e)
theorem NodeAt.but {p : Addr} {H H' : Hp} {a : Addr} {n : Nd} (h : NodeAt H a n) (s : But p H H') (hp : ∃ xs, H p = some (.lst xs)) : NodeAt H' a n := by
  obtain ⟨t, h1, h2⟩ := h
  obtain ⟨xs, hp⟩ := hp
  exact ⟨t, s _ _ (ne_of h1 hp (by intro z; cases z)) h1, s _ _ (ne_of h2 hp (by intro z; cases z)) h2⟩
/-- a tuple of nodes -/
def NodesIn (H : Hp) (as : List Addr) (ns : List Nd) : Prop := as.length = ns.length ∧ ∀ (i : Nat) (a : Addr) (n : Nd), as[i]? = some a → ns[i]? = some n → NodeAt H a n
def NodesAt (H : Hp) (t : Addr) (ns : List Nd) : Prop := ∃ as : List Addr, H t = some (.tup (as.map V.ref)) ∧ NodesIn H as ns
theorem NodesIn.same {H H' : Hp} {as : List Addr} {ns : List Nd} (h : NodesIn H as ns) (s : Same H H') : NodesIn H' as ns :=
  ⟨h.1, fun i a n ha hn => (h.2 i a n ha hn).same s⟩
theorem NodesAt.same {H H' : Hp} {t : Addr} {ns : List Nd} (h : NodesAt H t ns) (s : Same H H') : NodesAt H' t ns := by
  obtain ⟨as, h1, h2⟩ := h
  exact ⟨as, s _ _ h1, h2.same s⟩
theorem nodesT_get {many : Nat} : ∀ {rs : List Str} {ns : List Nd}, nodesT many rs = some ns → rs.length = ns.length ∧ ∀ (i : Nat) (r : Str), rs[i]? = some r → ∃ n, ns[i]? = some n ∧ nodeT many r = some n
  | [], ns, h => by
    obtain rfl : [] = ns := Option.some.inj h
    exact ⟨rfl, fun i r h => by simp at h⟩
  | r :: rs, ns, h => by
    unfold nodesT at h
    cases e : nodeT many r with
    | none => rw [e] at h; cases h
    | some n =>
      rw [e] at h
      cases e2 : nodesT many rs with
      | none => rw [e2] at h; cases h
      | some ms =>
        rw [e2] at h
        obtain rfl : n :: ms = ns := Option.some.inj h
        obtain ⟨h1, h2⟩ := nodesT_get e2
        refine ⟨by rw [List.length_cons, List.length_cons, h1], fun i z hz => ?_⟩
        cases i with
        | zero =>
          obtain rfl : r = z := by simpa using hz
          exact ⟨n, rfl, e⟩
        | succ i =>
          obtain ⟨m, hm, hn⟩ := h2 i z (by simpa using hz)
          exact ⟨m, by simpa using hm, hn⟩
theorem cut_eight {xs : List V} : cutV xs none (some 8) = xs.take 8 := by
  unfold cutV
  have e : HT.sIx xs.length xs.length (some 8) = min 8 xs.length := by
    show (if (8 : Int) < 0 then ((8 : Int) + ((xs.length : Nat) : Int)).toNat else min (8 : Int).toNat xs.length) = _
    rw [if_neg (by decide)]
    rfl
  rw [e, HT.sIx_none, List.drop_zero, Nat.sub_zero]
  by_cases h : 8 ≤ xs.length
  · rw [Nat.min_eq_left h]
  · rw [Nat.min_eq_right (by omega), List.take_of_length_le (by omega), List.take_of_length_le (by omega)]
theorem put_new {kvs : List (Key × V)} {k : Key} {v : V} (h : k ∉ kvs.map (·.1)) : putK kvs k v = kvs ++ [(k, v)] := by
  refine putK_new _ ?_
  cases e : valV kvs k with
  | none => rfl
  | some x => exact absurd (valV_in e) h
section
variable {P : Program} {w : World} {K : PySem.W.Frag} {mg : Str → Option Value} {base : Heap}
def Fits (z : Str) : Prop := z.length ≤ 100000 ∧ ∀ r ∈ Txt.split z sNl, (Txt.split r sSp).length ≤ 4000
def sp_nodes_of : Sp := fun vs H Q _ => ∃ (z : Str) (ns : List Nd), vs = [.str z] ∧ Fits z ∧ parseT z = some ns ∧ ∀ t H', Same H H' → NodesAt H' t ns → Q (.ref t) H'
theorem ok_nodes_of {f : Addr} {fd : FuncData} (F : Fun K "_nodes_of" "_nodes_of" s_nodes_of f fd) (T : Txt0 K mg) (GN : OkF P w K mg base CX0 "_node_of" p_node_of 2 sp_node_of) :
    FnOk P w K mg base CX0 3 f fd p_nodes_of sp_nodes_of := by
  refine F.ok sc_nodes_of (fun vs H Q E h => ?_) (fun cdv A outer s H vs Q E hr h => ?_)
  · obtain ⟨z, ns, rfl, _⟩ := h
    rfl
  · obtain ⟨z, ns, rfl, ⟨hz, hw⟩, hp, k⟩ := h
    obtain ⟨t8, e8⟩ := T.most
    refine ⟨_, pss_cons (ps_if (pt_not (pt_val (pe_callB call_isi (by rfl) T.isinstance boot_isinstance (pa_cons (pv 0) (pa_cons (pe_bltn (by rfl) T.str boot_str (v := .ty "str") rfl) pa_nil))))) (pss_one ps_never) pss_nil)
      (pss_cons (ps_set (i := 1) sc_nodes_of.nd rfl (Or.inl rfl) (pe_split (pv 0) pe_str))
      (pss_cons (ps_setDc (i := 2) (own := [("number", 7)]) (g := gName 7) (tt := tYes) rfl sc_nodes_of.nd rfl rfl (sw_dict rfl rfl rfl (by decide +kernel))
          (pi_range1 (by rfl) T.range (pa_cons (pe_callB call_len_seq (by rfl) T.len PySem.boot_len (pa_cons (pv 1) pa_nil)) pa_nil)) (blkOk_by (N := n_nodes_of) (sc := defScope s_nodes_of) (by decide +kernel))
          (fun _ _ _ _ _ => pg_name (i := 7) sc_nodes_of.nd rfl (Or.inl rfl)) (fun _ _ _ _ _ => pts_nil)
          (fun _ _ _ _ _ => pe_callTy call_str_int (by rfl) T.str boot_str (pa_cons (pv 7) pa_nil)) (fun _ _ _ _ _ => pv 7))
      (pss_cons (ps_set (i := 3) sc_nodes_of.nd rfl (Or.inl rfl) (pe_lst pa_nil))
      (pss_cons (ps_for PassesOwn.never rfl (pi_enum (by rfl) T.enumerate (pa_cons (pe_slice sl_list (pv 1) po_none (po_some (pe_glob (v := .int 8) rfl e8 ⟨_, rfl⟩))) pa_nil))
          (pg_tup (by rfl) (pgs_cons (pg_name (i := 4) sc_nodes_of.nd rfl (Or.inl rfl)) (pgs_cons (pg_name (i := 5) sc_nodes_of.nd rfl (Or.inl rfl)) pgs_nil)))
        (pss_cons (ps_set (i := 6) sc_nodes_of.nd rfl (Or.inl rfl) (pe_fn GN (hr.mono (by decide)) rfl pass0 (pa_cons (pv 5) (pa_cons (pv 2) pa_nil))))
        (pss_cons (ps_if (pt_cmpR op_isN (pv 6) pe_non (nomark _)) (pss_one ps_never) pss_nil)
        (pss_one (ps_expr (pe_bm PySem.F.plainAttrs_list PySem.F.slot_list_append PySem.F.type_list_append mt_append (pv 3) (pa_cons (pv 6) pa_nil)))))))
      (pss_cons (ps_if (pt_cmpR op_gt (pe_callB call_len_seq (by rfl) T.len PySem.boot_len (pa_cons (pv 1) pa_nil)) (pe_glob (v := .int 8) rfl e8 ⟨_, rfl⟩) (nomark _)) (pss_one ps_never) pss_nil)
      (pss_one (ps_ret (pe_callTy call_tuple_of (by rfl) T.tuple (by decide +kernel) (pa_cons (pv 3) pa_nil))))))))), ?_⟩
    refine ⟨_, rfl, _, _, _, _, true, rfl, .ty _, .base (.str _), kit_ty (by decide +kernel), _, rfl, iteF ?_⟩
    refine ⟨_, rfl, ⟨_, rfl⟩, _, sNl, rfl, rfl, (by decide +kernel), (by rw [sizeLine_eq]; omega), fun p hpn => ?_⟩
    have s1 := same_new (o := .lst ((Txt.split z sNl).map V.str)) hpn
    unfold parseT at hp
    dsimp only at hp
    generalize hrows : Txt.split z sNl = rows at hp hw s1 ⊢
    have hr8 : rows.length ≤ 8 := by
      by_cases h8 : rows.length ≤ 8
      · exact h8
      · rw [if_neg h8] at hp
        cases hp
    rw [if_pos hr8] at hp
    obtain ⟨hlen, hget⟩ := nodesT_get hp
    have hrow : ∀ r ∈ rows, r.length ≤ 100000 := fun r hr' => by
      have := part_len (x := z) (y := sNl) (z := r) (by rw [hrows]; exact hr')
      omega
    refine ⟨_, rfl, p, _, rfl, .inl (SqL.of upd_same), _, rfl, (by rw [List.length_map]; omega), (by rw [List.length_map]; omega), fun d hd => ?_⟩
    rw [List.length_map, Int.toNat_natCast]
    refine dc_it walk_range (fun i H' => Same (upd H p (.lst (rows.map V.str))) H' ∧ H' d = some (.dK (numKvs i))) ⟨same_new hd, upd_same⟩ (fun _ _ _ _ => trivial) ?_ ?_
    · rintro i x H2 H3 hi ⟨s2, h2⟩ ⟨rfl, rfl⟩
      refine ⟨rfl, _, rfl, (0 + (i : Int)), rfl, ?_, _, rfl, numKvs i, Sum.inr (natS i), ?_, h2, ?_, ?_, ?_⟩
      · rw [Int.zero_add]
        show i.log2 < 1920
        exact Nat.lt_of_le_of_lt (Nat.log2_le_self i) (by omega)
      · rw [Int.zero_add]
        rfl
      · unfold numKvs
        rw [List.length_map, List.length_range, sizeLine_eq]
        omega
      · exact same_upd s2 hd
      · rw [upd_same, put_new]
        · show some (HO.dK (numKvs i ++ [(Sum.inr (natS i), V.int (0 + (i : Int)))])) = _
          unfold numKvs
          rw [List.range_succ, List.map_append, Int.zero_add]
          rfl
        · unfold numKvs
          rw [List.map_map]
          intro hm
          obtain ⟨j, hj, e⟩ := List.mem_map.mp hm
          have e' : natS j = natS i := Sum.inr.inj e
          have := natS_inj e'
          have := List.mem_range.mp hj
          omega
    rintro H2 ⟨s2, hd2⟩
    have s02 := s1.trans s2
    have hp2 := s2 _ _ (upd_same (H := H) (a := p) (o := .lst (rows.map V.str)))
    refine ⟨Nat.zero_le _, fun l hl => ?_⟩
    have hlD : d ≠ l := ne_of_none hd2 hl
    have hlP : p ≠ l := ne_of_none hp2 hl
    have hp3 : (upd H2 l (.lst [])) p = some (.lst (rows.map V.str)) := by rw [upd_ne hlP]; exact hp2
    refine ⟨_, rfl, 8, rfl, p, _, rfl, SqL.of hp3, fun q hq => ?_⟩
    rw [cut_eight, List.take_of_length_le (by rw [List.length_map]; exact hr8)]
    have hlq : l ≠ q := fun e => by
      rw [← e, upd_same] at hq
      cases hq
    have hpq : p ≠ q := ne_of_none hp3 hq
    have hdq : d ≠ q := ne_of_none (by rw [upd_ne hlD]; exact hd2) hq
    generalize hHL : upd (upd H2 l (.lst [])) q (.lst (rows.map V.str)) = HL
    have eq_q : HL q = some (.lst (rows.map V.str)) := by rw [← hHL, upd_same]
    have eq_l : HL l = some (.lst []) := by rw [← hHL, upd_ne hlq, upd_same]
    have eq_p : HL p = some (.lst (rows.map V.str)) := by rw [← hHL, upd_ne hpq]; exact hp3
    have eq_d : HL d = some (.dK (numKvs rows.length)) := by rw [← hHL, upd_ne hdq, upd_ne hlD]; exact hd2
    have sHL : Same H HL := by
      rw [← hHL]
      exact (s02.trans (same_new hl)).trans (same_new hq)
    have hl0 : H l = none := s02.free hl
    refine ⟨q, _, rfl, SqL.of eq_q, for_it (walk_enum (K := K) (a := q) (xs := rows.map V.str)) (fun i σ H' => ∃ (as : List Addr) (v4 v5 v6 v7 : Option V), σ = [some (.str z), some (.ref p), some (.ref d), some (.ref l), v4, v5, v6, v7] ∧
        But l HL H' ∧ H' l = some (.lst (as.map V.ref)) ∧ as.length = i ∧ ∀ (j : Nat) (a : Addr) (n : Nd), as[j]? = some a → ns[j]? = some n → NodeAt H' a n)
      ⟨[], none, none, none, none, rfl, But.refl _ _, eq_l, rfl, fun j a n h => by simp at h⟩ (fun i σ H' _ ⟨_, _, _, _, _, _, hb, _⟩ => SqL.of (hb _ _ hlq.symm eq_q)) ?_ ?_⟩
    · rintro i x σ H3 H4 hi ⟨as, v4, v5, v6, v7, rfl, hb, hla, hai, hna⟩ ⟨T1, x1, x2, rfl, hT1, rfl, hx1, hx2⟩
      rw [List.length_map] at hi
      obtain rfl : V.int (i : Nat) = x1 := Option.some.inj hx1
      have hri : rows[i]? = some rows[i] := List.getElem?_eq_getElem hi
      replace hx2 : (rows.map V.str)[i]? = some x2 := hx2
      rw [List.getElem?_map, hri] at hx2
      obtain rfl : V.str rows[i] = x2 := Option.some.inj hx2
      obtain ⟨n, hn1, hn2⟩ := hget i _ hri
      have hd4 : (upd H3 T1 (.tup [.int (i : Nat), .str rows[i]])) d = some (.dK (numKvs rows.length)) := same_new hT1 _ _ (hb _ _ hlD eq_d)
      refine ⟨T1, _, rfl, SqT.of upd_same, rfl, _, _, rfl, _, _, rfl, rfl, _, rfl, _, rfl, rows[i], d, rows.length, rfl, hd4, by omega, hrow _ (List.getElem_mem hi), hw _ (List.getElem_mem hi), fun e => ?_, fun n' en a H5 s5 hna5 => ?_⟩
      · rw [hn2] at e
        cases e
      · obtain rfl : n = n' := Option.some.inj (hn2.symm.trans en)
        have s35 := (same_new hT1).trans s5
        have hla5 := s35 _ _ hla
        refine ⟨_, rfl, rfl, _, rfl, iteF ⟨_, rfl, .inl ⟨rfl, _, SqL.of hla5⟩, _, rfl, l, _, _, rfl, rfl, hla5, ?_, ?_⟩⟩
        · rw [List.length_map, sizeLine_eq]
          omega
        · refine ⟨as ++ [a], _, _, _, _, rfl, (hb.then s35).put, by rw [upd_same, List.map_append]; rfl, by rw [List.length_append, hai]; rfl, fun j b m hj hm => ?_⟩
          have hbut : But l H5 (upd H5 l (.lst (as.map V.ref ++ [.ref a]))) := (But.refl l H5).put
          by_cases hj' : j < as.length
          · rw [List.getElem?_append_left hj'] at hj
            exact ((hna j b m hj hm).same s35).but hbut ⟨_, hla5⟩
          · have ej : j = as.length := by
              have := (List.getElem?_eq_some_iff.mp hj).1
              rw [List.length_append, List.length_singleton] at this
              omega
            subst ej
            rw [List.getElem?_append_right (Nat.le_refl _), Nat.sub_self] at hj
            obtain rfl : a = b := by simpa using hj
            rw [hai] at hm
            obtain rfl : n = m := Option.some.inj (hn1.symm.trans hm)
            exact hna5.but hbut ⟨_, hla5⟩
    · rintro σ H3 ⟨as, v4, v5, v6, v7, rfl, hb, hla, hai, hna⟩
      rw [List.length_map] at hai
      have hp5 := hb _ _ hlP eq_p
      refine ⟨_, rfl, p, _, rfl, .inl (SqL.of hp5), _, _, rfl, rfl, _, rfl, ?_⟩
      rw [List.length_map, decide_eq_false (p := (8 : Int) < ((rows.length : Nat) : Int)) (by omega)]
      refine iteF ⟨_, rfl, l, _, rfl, .inl ⟨SqL.of hla, fun t ht => ?_⟩⟩
      refine k t _ ((hb.same sHL hl0).trans (same_new ht)) ⟨as, upd_same, ?_⟩
      exact NodesIn.same ⟨by rw [hai, hlen], hna⟩ (same_new ht)
end
end Vf

set_option maxRecDepth 100000
set_option maxHeartbeats 8000000
namespace Vf
open PySem PySem.Spec PyProof.Rows L2
theorem pn_ne : ¬ (("nodes" : Str) = "_text") := by decide +kernel
def pflds (t : Addr) (z : Str) : List (Str × V) := [("nodes", V.ref t), ("_text", V.str z)]
theorem pflds_nodes (t : Addr) (z : Str) : (pflds t z).lookup ("nodes" : Str) = some (.ref t) := by
  unfold pflds
  rw [List.lookup_cons_self]
theorem pflds_text (t : Addr) (z : Str) : (pflds t z).lookup ("_text" : Str) = some (.str z) := by
  unfold pflds
  have e : (("_text" : Str) == ("nodes" : Str)) = false := by decide +kernel
  rw [List.lookup_cons, e]
  simp only [List.lookup_cons_self]
theorem pflds_put (t : Addr) (z : Str) : putF "_text" (.str z) (putF "nodes" (.ref t) []) = pflds t z := by
  show (if ("nodes" : Str) = "_text" then [(("nodes" : Str), V.str z)] else (("nodes" : Str), V.ref t) :: putF "_text" (.str z) []) = _
  rw [if_neg pn_ne]
  rfl
def ProgAt (C : Addr) (H : Hp) (p : Addr) (z : Str) (ns : List Nd) : Prop := ∃ dx t, H p = some (.ins C dx (pflds t z)) ∧ NodesAt H t ns
theorem ProgAt.same {C : Addr} {H H' : Hp} {p : Addr} {z : Str} {ns : List Nd} (h : ProgAt C H p z ns) (s : Same H H') : ProgAt C H' p z ns := by
  obtain ⟨dx, t, h1, h2⟩ := h
  exact ⟨dx, t, s _ _ h1, h2.same s⟩
structure TxtP (K : PySem.W.Frag) (mg : Str → Option Value) (C : Addr) : Prop where
  cl : Cls K C
  nN : NoAttr K C "nodes"
  nT : NoAttr K C "_text"
  mgC : mg "Program" = some (.ref C)
section
variable {P : Program} {w : World} {K : PySem.W.Frag} {mg : Str → Option Value} {base : Heap}
def sp_Program_init (C : Addr) : Sp := fun vs H Q _ => ∃ (p dx : Addr) (z : Str) (ns : List Nd), vs = [.ref p, .str z] ∧ H p = some (.ins C dx []) ∧ Fits z ∧ parseT z = some ns ∧
  ∀ t H', But p H H' → H' p = some (.ins C dx (pflds t z)) → NodesAt H' t ns → Q .non H'
theorem ok_Program_init {f C : Addr} {fd : FuncData} (F : Fun K "__init__" "Program.__init__" s_Program_init f fd) (T : TxtP K mg C) (GN : OkF P w K mg base CX0 "_nodes_of" p_nodes_of 3 sp_nodes_of) :
    FnOk P w K mg base CX0 4 f fd p_Program_init (sp_Program_init C) := by
  refine F.ok sc_Program_init (fun vs H Q E h => ?_) (fun cdv A outer s H vs Q E hr h => ?_)
  · obtain ⟨p, dx, z, ns, rfl, _⟩ := h
    rfl
  · obtain ⟨p, dx, z, ns, rfl, hp, hf, hps, k⟩ := h
    refine ⟨_, pss_cons (ps_fld (pv 0) (pe_fn GN hr rfl pass0 (pa_cons (pv 1) pa_nil)) rfl) (pss_one (ps_fld (pv 0) (pv 1) rfl)), ?_⟩
    refine ⟨_, rfl, z, ns, rfl, hf, hps, fun t H2 s2 hn => ?_⟩
    have hp2 := s2 _ _ hp
    refine ⟨_, rfl, p, C, dx, [], rfl, hp2, T.cl, T.nN, (by show 0 < 1000; decide), _, rfl, _, rfl, p, C, dx, _, rfl, upd_same, T.cl, T.nT, (by show 1 < 1000; decide), ?_⟩
    have hb : But p H2 (upd (upd H2 p (.ins C dx (putF "nodes" (.ref t) []))) p (.ins C dx (putF "_text" (.str z) (putF "nodes" (.ref t) [])))) := ((But.refl p H2).put).put
    refine k t _ ((Same.but s2).trans hb) (by rw [upd_same, pflds_put]) ?_
    obtain ⟨as, ht, hl, ha⟩ := hn
    refine ⟨as, hb _ _ (ne_of ht hp2 (by intro z; cases z)) ht, hl, fun i a n h1 h2 => ?_⟩
    obtain ⟨t', g1, g2⟩ := ha i a n h1 h2
    exact ⟨t', hb _ _ (ne_of g1 hp2 (by intro z; cases z)) g1, hb _ _ (ne_of g2 hp2 (by intro z; cases z)) g2⟩
def sp_parse (C : Addr) : Sp := fun vs H Q _ => ∃ (z : Str) (ns : List Nd), vs = [.str z] ∧ Fits z ∧ parseT z = some ns ∧ ∀ p H', Same H H' → H p = none → ProgAt C H' p z ns → Q (.ref p) H'
theorem ok_parse {f C fI : Addr} {fd fdI : FuncData} (F : Fun K "parse" "Program.parse" s_Program_parse f fd) (T : TxtP K mg C) (M : Mk K C fI) (GI : FnOk P w K mg base CX0 4 fI fdI p_Program_init (sp_Program_init C)) (bI : Binds K fdI p_Program_init []) :
    FnOk P w K mg base CX0 6 f fd p_Program_parse (sp_parse C) := by
  refine F.ok sc_Program_parse (fun vs H Q E h => ?_) (fun cdv A outer s H vs Q E hr h => ?_)
  · obtain ⟨z, ns, rfl, _⟩ := h
    rfl
  · obtain ⟨z, ns, rfl, hf, hps, k⟩ := h
    refine ⟨_, pss_one (ps_ret (pe_make M GI hr rfl T.mgC bI .nil pass0 (pa_cons (pv 0) pa_nil))), ?_⟩
    refine ⟨_, rfl, fun x dx hx hdx hne => ?_⟩
    have s0 : Same H (upd (upd H dx (.own x)) x (.ins C dx [])) := same_upd (same_new hdx) hx
    refine ⟨x, dx, z, ns, rfl, upd_same, hf, hps, fun t H' hb hp hn => ⟨rfl, ?_⟩⟩
    exact k x H' (hb.same s0 hx) hx ⟨dx, t, hp, hn⟩
end
end Vf

set_option maxRecDepth 100000
set_option maxHeartbeats 8000000
namespace Vf
open PySem PySem.Spec PyProof.Rows L2
structure TxtL (mg : Str → Option Value) : Prop where
  list : mg "list" = none
  max : mg "max" = none
  abs : mg "abs" = none
  int : mg "int" = none
/-- the draws at p -/
def FeedAt (H : Hp) (p : Addr) : Prop := ∃ d st : Int, H p = some (.lst [.int d, .int st]) ∧ 0 ≤ d ∧ 0 ≤ st
theorem FeedAt.same {H H' : Hp} {p : Addr} (h : FeedAt H p) (s : Same H H') : FeedAt H' p := by
  obtain ⟨d, st, h1, h2, h3⟩ := h
  exact ⟨d, st, s _ _ h1, h2, h3⟩
theorem cut_at {xs : List V} {k : Nat} : cutV xs (some (k : Int)) (some ((k : Int) + 1)) = (xs.drop k).take 1 := by
  unfold cutV
  have e : ((k : Int) + 1) = ((k + 1 : Nat) : Int) := rfl
  rw [e, HT.sIx_nat, HT.sIx_nat]
  by_cases h : k < xs.length
  · rw [Nat.min_eq_left (by omega), Nat.min_eq_left (by omega), Nat.add_sub_cancel_left]
  · rw [Nat.min_eq_right (by omega), Nat.min_eq_right (by omega), Nat.sub_self, List.take_zero, List.drop_of_length_le (by omega), List.take_nil]
section
variable {P : Program} {w : World} {K : PySem.W.Frag} {mg : Str → Option Value} {base : Heap}
def sp_law_feed (K : PySem.W.Frag) : Sp := fun vs H Q _ => ∃ (a : Addr) (ns : List Int) (k : Nat), vs = [.ref a, .int (k : Int)] ∧ SqL K H a (ns.map V.int) ∧ k ≤ 1000 ∧ ∀ p H', Same H H' → H p = none → FeedAt H' p → Q (.ref p) H'
theorem ok_law_feed {f : Addr} {fd : FuncData} (F : Fun K "_law_feed" "_law_feed" s_law_feed f fd) (T : TxtL mg) : FnOk P w K mg base CX0 1 f fd p_law_feed (sp_law_feed K) := by
  refine F.ok sc_law_feed (fun vs H Q E h => ?_) (fun cdv A outer s H vs Q E hr h => ?_)
  · obtain ⟨a, ns, k, rfl, _⟩ := h
    rfl
  · obtain ⟨a, ns, k, rfl, hS, hk, q⟩ := h
    refine ⟨_, pss_cons (ps_set (i := 2) sc_law_feed.nd rfl (Or.inl rfl) (pe_ix ix_list (pe_op op_cat (pe_callTy call_list_of (by rfl) T.list (by decide +kernel) (pa_cons (pe_slice sl_list (pv 0) (po_some (pv 1)) (po_some (pe_op op_add (pv 1) pe_int))) pa_nil))
          (pe_lst (pa_cons (pe_op op_add (pe_op op_mul pe_int (pv 1)) pe_int) pa_nil))) pe_int (fun _ _ => rfl)))
      (pss_cons (ps_set (i := 3) sc_law_feed.nd rfl (Or.inl rfl) (pe_callB (call_max2 rfl) (by rfl) T.max (by decide +kernel) (pa_cons pe_int (pa_cons (pe_op op_sub (pe_callB call_abs (by rfl) T.abs (by decide +kernel) (pa_cons (pv 2) pa_nil)) (pe_op op_pow pe_int pe_int)) pa_nil))))
      (pss_one (ps_ret (pe_lst (pa_cons (pv 3) (pa_cons (pe_op op_mod (pe_callTy call_int1 (by rfl) T.int (by decide +kernel) (pa_cons
          (pe_op op_add (pe_op op_add (pe_op op_mul (pe_op op_mod (pe_callTy call_int1 (by rfl) T.int (by decide +kernel) (pa_cons (pe_callB call_abs (by rfl) T.abs (by decide +kernel) (pa_cons (pv 2) pa_nil)) pa_nil)) pe_int) pe_int) (pe_op op_mul pe_int (pv 1))) pe_int) pa_nil)) pe_int) pa_nil)))))), ?_⟩
    refine ⟨_, rfl, _, rfl, k, rfl, _, rfl, k, 1, rfl, rfl, _, rfl, a, _, rfl, hS, fun p1 h1 => ?_⟩
    have s1 := same_new (o := .lst (cutV (ns.map V.int) (some (k : Int)) (some ((k : Int) + 1)))) h1
    refine ⟨p1, _, rfl, .inl (SqL.of upd_same), fun p2 h2 => ?_⟩
    have s2 := same_new (o := .lst (cutV (ns.map V.int) (some (k : Int)) (some ((k : Int) + 1)))) h2
    refine ⟨_, rfl, 71, k, rfl, rfl, .inl (by decide), _, _, rfl, rfl, (by show 1 ≤ sizeLine; decide), fun p3 h3 => ?_⟩
    have h23 : p2 ≠ p3 := fun e => by
      rw [← e, upd_same] at h3
      cases h3
    refine ⟨p2, p3, _, _, rfl, rfl, Eq.trans (upd_ne h23) upd_same, upd_same, ?_, fun p4 h4 => ?_⟩
    · rw [cut_at, List.length_take, sizeLine_eq]
      show min 1 _ + 1 ≤ _
      omega
    simp only [cut_at] at s1 s2 h3 h4 ⊢
    obtain ⟨sd, rest, hsd⟩ : ∃ (sd : Int) (rest : List V), (((ns.map V.int).drop k).take 1) ++ [V.int (71 * k + 23)] = V.int sd :: rest := by
      by_cases hkn : k < ns.length
      · refine ⟨ns[k], [V.int (71 * k + 23)], ?_⟩
        rw [List.drop_eq_getElem_cons (by rw [List.length_map]; exact hkn), List.getElem_map]
        rfl
      · refine ⟨71 * k + 23, [], ?_⟩
        rw [List.drop_of_length_le (by rw [List.length_map]; omega)]
        rfl
    refine ⟨p4, _, (0 : Int), .int sd, rfl, rfl, SqL.of upd_same, at_of (j := 0) rfl (by show (_ ++ _)[0]? = _; rw [hsd]; rfl), ?_⟩
    have pos64 : ∀ x : Int, -(2 ^ 64) < x % 1000003 ∧ x % 1000003 < 2 ^ 64 := fun x => by
      have h1 := Int.emod_nonneg x (by decide : (1000003 : Int) ≠ 0)
      have h2 := Int.emod_lt_of_pos x (by decide : (0 : Int) < 1000003)
      omega
    have z18 : (0 : Int) ≤ 18 ∧ (18 : Int) ≤ 1000000 ∧ (10 : Int).natAbs < 2 ^ 64 := by decide
    refine ⟨_, rfl, sd, rfl, 10, 18, rfl, rfl, z18, _, _, rfl, rfl, _, _, rfl, ?_⟩
    refine ⟨_, rfl, _, rfl, sd, rfl, .inl ⟨_, rfl, _, _, rfl, rfl, (by show (0 : Int) < 1000003; decide), _, _, rfl, rfl, .inl (pos64 _), _, rfl, 31, k, rfl, rfl, .inl (by decide), _, _, rfl, rfl, _, _, rfl, rfl,
      .inl ⟨_, rfl, _, _, rfl, rfl, (by show (0 : Int) < 1000033; decide), (by show 2 ≤ sizeLine; decide), fun p hp => ?_⟩⟩⟩
    refine q p _ ((((s1.trans s2).trans (same_new h3)).trans (same_new h4)).trans (same_new hp)) (Same.free (((s1.trans s2).trans (same_new h3)).trans (same_new h4)) hp) ⟨_, _, upd_same, ?_, Int.emod_nonneg _ (by decide)⟩
    split <;> omega
def sp_law_take : Sp := fun vs H Q _ => ∃ (p : Addr) (n : Nat), vs = [.ref p, .int (n : Int)] ∧ FeedAt H p ∧ 1 ≤ n ∧ n ≤ 1000000 ∧ ∀ (r : Nat) H', r < n → But p H H' → FeedAt H' p → Q (.int (r : Int)) H'
theorem ok_law_take {f : Addr} {fd : FuncData} (F : Fun K "_law_take" "_law_take" s_law_take f fd) (T : TxtL mg) : FnOk P w K mg base CX0 1 f fd p_law_take sp_law_take := by
  refine F.ok sc_law_take (fun vs H Q E h => ?_) (fun cdv A outer s H vs Q E hr h => ?_)
  · obtain ⟨p, n, rfl, _⟩ := h
    rfl
  · obtain ⟨p, n, rfl, ⟨d, st, hp, hd, hst⟩, h1, h2, k⟩ := h
    refine ⟨_, pss_cons (ps_if (pt_cmpR op_gt (pe_ix ix_list (pv 0) pe_int (fun _ _ => rfl)) pe_int (nomark _))
        (pss_cons (ps_set (i := 2) sc_law_take.nd rfl (Or.inl rfl) (pe_op op_mod (pe_callTy call_int1 (by rfl) T.int (by decide +kernel) (pa_cons (pe_ix ix_list (pv 0) pe_int (fun _ _ => rfl)) pa_nil)) (pv 1)))
        (pss_cons (ps_asg (pe_op op_fdivN (pe_ix ix_list (pv 0) pe_int (fun _ _ => rfl)) (pv 1)) (pg_sub (pv 0) pe_int set_list))
        (pss_one (ps_ret (pv 2))))) pss_nil)
      (pss_cons (ps_asg (pe_op op_mod (pe_callTy call_int1 (by rfl) T.int (by decide +kernel) (pa_cons (pe_op op_add (pe_op op_mul (pe_ix ix_list (pv 0) pe_int (fun _ _ => rfl)) pe_int) pe_int) pa_nil)) pe_int) (pg_sub (pv 0) pe_int set_list))
      (pss_one (ps_ret (pe_op op_mod (pe_callTy call_int1 (by rfl) T.int (by decide +kernel) (pa_cons (pe_op op_fdivN (pe_ix ix_list (pv 0) pe_int (fun _ _ => rfl)) pe_int) pa_nil)) (pv 1))))), ?_⟩
    refine ⟨_, rfl, p, _, (0 : Int), .int d, rfl, rfl, SqL.of hp, at_of (j := 0) rfl rfl, _, _, rfl, rfl, _, rfl, ?_⟩
    by_cases hd0 : 0 < d
    · rw [decide_eq_true hd0]
      refine iteT ⟨_, rfl, p, _, (0 : Int), .int d, rfl, rfl, SqL.of hp, at_of (j := 0) rfl rfl, .inl ⟨d, rfl, _, rfl, d, n, rfl, rfl, (by omega), ?_⟩⟩
      refine ⟨_, rfl, p, _, (0 : Int), .int d, rfl, rfl, SqL.of hp, at_of (j := 0) rfl rfl, _, rfl, d, n, rfl, rfl, ⟨by omega, by omega⟩, _, rfl, ?_⟩
      refine ⟨p, _, (0 : Int), 0, rfl, rfl, hp, rfl, ?_⟩
      refine ⟨_, rfl, ?_⟩
      have hm1 := Int.emod_nonneg d (b := (n : Int)) (by omega)
      have hm2 := Int.emod_lt_of_pos d (b := (n : Int)) (by omega)
      obtain ⟨r, hr⟩ : ∃ r : Nat, d % (n : Int) = (r : Int) := ⟨(d % (n : Int)).toNat, by omega⟩
      show Q (.int (d % (n : Int))) _
      rw [hr]
      refine k r _ (by omega) (But.refl p H).put ⟨d.fdiv n, st, upd_same, ?_, hst⟩
      exact Int.fdiv_nonneg hd (by omega)
    · rw [decide_eq_false hd0]
      refine iteF ⟨_, rfl, p, _, (1 : Int), .int st, rfl, rfl, SqL.of hp, at_of (j := 1) rfl rfl, _, _, rfl, rfl, .inr (by decide), _, _, rfl, rfl,
        .inl ⟨_, rfl, _, _, rfl, rfl, (by show (0 : Int) < 4294967311; decide), _, rfl, p, _, (1 : Int), 1, rfl, rfl, hp, rfl, ?_⟩⟩
      have hp2 : (upd H p (.lst ([V.int d, V.int st].set 1 (.int ((st * 69069 + 12345) % 4294967311))))) p = some (.lst [.int d, .int ((st * 69069 + 12345) % 4294967311)]) := upd_same
      have hst2 := Int.emod_nonneg (st * 69069 + 12345) (by decide : (4294967311 : Int) ≠ 0)
      refine ⟨_, rfl, p, _, (1 : Int), .int ((st * 69069 + 12345) % 4294967311), rfl, rfl, SqL.of hp2, at_of (j := 1) rfl rfl, ((st * 69069 + 12345) % 4294967311), 65536, rfl, rfl, ⟨by decide, by decide⟩, .inl ⟨_, rfl, _, rfl, _, (n : Int), rfl, rfl, by omega, ?_⟩⟩
      have hm1 := Int.emod_nonneg (((st * 69069 + 12345) % 4294967311).fdiv 65536) (b := (n : Int)) (by omega)
      have hm2 := Int.emod_lt_of_pos (((st * 69069 + 12345) % 4294967311).fdiv 65536) (b := (n : Int)) (by omega)
      obtain ⟨r, hr⟩ : ∃ r : Nat, (((st * 69069 + 12345) % 4294967311).fdiv 65536) % (n : Int) = (r : Int) := ⟨((((st * 69069 + 12345) % 4294967311).fdiv 65536) % (n : Int)).toNat, by omega⟩
      show Q (.int ((((st * 69069 + 12345) % 4294967311).fdiv 65536) % (n : Int))) _
      rw [hr]
      exact k r _ (by omega) (But.refl p H).put ⟨d, ((st * 69069 + 12345) % 4294967311), hp2, hd, hst2⟩
def sp_law_pick (K : PySem.W.Frag) : Sp := fun vs H Q _ => ∃ (p c : Addr) (xs : List V), vs = [.ref p, .ref c] ∧ FeedAt H p ∧ p ≠ c ∧ SqL K H c xs ∧ 1 ≤ xs.length ∧ xs.length ≤ 1000000 ∧
  ∀ (r : Nat) (v : V) H', xs[r]? = some v → But p H H' → FeedAt H' p → Q v H'
theorem SqL.but {K : PySem.W.Frag} {H H' : Hp} {a p : Addr} {xs : List V} (h : SqL K H a xs) (s : But p H H') (hn : a ≠ p) : SqL K H' a xs := by
  rcases h with (h | ⟨o, h⟩) | h
  · exact .inl (.inl (s _ _ hn h))
  · exact .inl (.inr ⟨o, s _ _ hn h⟩)
  · exact .inr h
theorem ok_law_pick {f : Addr} {fd : FuncData} (F : Fun K "_law_pick" "_law_pick" s_law_pick f fd) (T0 : Txt0 K mg) (GT : OkF P w K mg base CX0 "_law_take" p_law_take 1 sp_law_take) : FnOk P w K mg base CX0 2 f fd p_law_pick (sp_law_pick K) := by
  refine F.ok sc_law_pick (fun vs H Q E h => ?_) (fun cdv A outer s H vs Q E hr h => ?_)
  · obtain ⟨p, c, xs, rfl, _⟩ := h
    rfl
  · obtain ⟨p, c, xs, rfl, hp, hpc, hS, h1, h2, k⟩ := h
    refine ⟨_, pss_one (ps_ret (pe_ix ix_list (pv 1) (pe_fn GT hr rfl pass0 (pa_cons (pv 0) (pa_cons (pe_callB call_len_seq (by rfl) T0.len PySem.boot_len (pa_cons (pv 1) pa_nil)) pa_nil))) (fun _ _ => rfl))), ?_⟩
    refine ⟨_, rfl, _, rfl, _, rfl, c, xs, rfl, .inl hS, p, xs.length, rfl, hp, h1, h2, fun r H2 hr2 hb hp2 => ?_⟩
    exact ⟨c, xs, (r : Int), xs[r], rfl, rfl, Vf.SqL.but hS hb hpc.symm, at_of rfl (List.getElem?_eq_getElem hr2), k r _ H2 (List.getElem?_eq_getElem hr2) hb hp2⟩
end
end Vf

set_option maxRecDepth 100000
set_option maxHeartbeats 8000000
namespace Vf
open PySem PySem.Spec PyProof.Rows L2
theorem But.new {p l : Addr} {H H' : Hp} {o : HO} (b : But p H H') (h : H l = none) : But p H (upd H' l o) := fun c u hc e => by
  rw [upd_ne (ne_of_none e h)]
  exact b c u hc e
theorem FeedAt.put {H : Hp} {p l : Addr} {o : HO} (h : FeedAt H p) (hn : p ≠ l) : FeedAt (upd H l o) p := by
  obtain ⟨d, st, h1, h2, h3⟩ := h
  exact ⟨d, st, by rw [upd_ne hn]; exact h1, h2, h3⟩
theorem FeedAt.ne {H : Hp} {p l : Addr} (h : FeedAt H p) (hl : H l = none) : p ≠ l := by
  obtain ⟨d, st, h1, _⟩ := h
  exact ne_of_none h1 hl
def low (z : Str) : Prop := ∀ c ∈ z.cps.toList, 97 ≤ c ∧ c ≤ 122
theorem name_of_low {z : Str} (h : low z) (h1 : 1 ≤ z.length) (h2 : z.length ≤ 8) : isNameT z = true := by
  unfold isNameT
  rw [decide_eq_true h1, decide_eq_true h2, Bool.true_and, Bool.true_and, List.all_eq_true]
  intro c hc
  have := h c hc
  simpa using this
def sAbc : Str := "abcdefghijklmnopqrstuvwxyz"
theorem abc_low : low sAbc := fun c hc => by
  have q : (sAbc.cps.toList.all fun c => decide (97 ≤ c) && decide (c ≤ 122)) = true := by decide +kernel
  have := List.all_eq_true.mp q c hc
  simpa using this
section
variable {P : Program} {w : World} {K : PySem.W.Frag} {mg : Str → Option Value} {base : Heap}
def sp_law_names : Sp := fun vs H Q _ => ∃ p : Addr, vs = [.ref p] ∧ FeedAt H p ∧ ∀ (l : Addr) (nm : List Str) H', But p H H' → FeedAt H' p → H l = none → p ≠ l → H' l = some (.lst (nm.map V.str)) → nm ≠ [] → nm.length ≤ 8 → (∀ z ∈ nm, isNameT z = true) → Q (.ref l) H'
theorem ok_law_names {f : Addr} {fd : FuncData} (F : Fun K "_law_names" "_law_names" s_law_names f fd) (T0 : Txt0 K mg) (T : TxtL mg) (GT : OkF P w K mg base CX0 "_law_take" p_law_take 1 sp_law_take) (GP : OkF P w K mg base CX0 "_law_pick" p_law_pick 2 (sp_law_pick K)) :
    FnOk P w K mg base CX0 3 f fd p_law_names sp_law_names := by
  refine F.ok sc_law_names (fun vs H Q E h => ?_) (fun cdv A outer s H vs Q E hr h => ?_)
  · obtain ⟨p, rfl, _⟩ := h
    rfl
  · obtain ⟨p, rfl, hp, k⟩ := h
    have hr1 : Room 1 _ := hr.mono (by decide)
    refine ⟨_, pss_cons (ps_par (i := 1) (j := 2) rfl sc_law_names.nd rfl rfl (by decide) rfl rfl (pa_cons (pe_callTy (cr_listS rfl) (by rfl) T.list (by decide +kernel) (pa_cons pe_str pa_nil)) (pa_cons (pe_lst (pa_cons pe_str (pa_cons pe_str (pa_cons pe_str (pa_cons pe_str (pa_cons pe_str pa_nil)))))) pa_nil)) (by rfl))
      (pss_cons (ps_for PassesOwn.never rfl (pi_range1 (by rfl) T0.range (pa_cons pe_int pa_nil)) (pg_name (i := 3) sc_law_names.nd rfl (Or.inl rfl))
        (pss_cons (ps_set (i := 4) sc_law_names.nd rfl (Or.inl rfl) pe_str)
        (pss_cons (ps_for PassesOwn.never rfl (pi_range1 (by rfl) T0.range (pa_cons (pe_op op_add pe_int (pe_fn GT hr1 rfl pass0 (pa_cons (pv 0) (pa_cons pe_int pa_nil)))) pa_nil)) (pg_name (i := 5) sc_law_names.nd rfl (Or.inl rfl))
          (pss_one (ps_set (i := 4) sc_law_names.nd rfl (Or.inl rfl) (pe_op op_add_str (pv 4) (pe_fn GP hr rfl pass0 (pa_cons (pv 0) (pa_cons (pv 1) pa_nil)))))))
        (pss_one (ps_expr (pe_bm PySem.F.plainAttrs_list PySem.F.slot_list_append PySem.F.type_list_append mt_append (pv 2) (pa_cons (pv 4) pa_nil)))))))
      (pss_one (ps_ret (pe_slice sl_list (pv 2) (po_some (pe_fn GT hr1 rfl pass0 (pa_cons (pv 0) (pa_cons pe_int pa_nil)))) po_none)))), ?_⟩
    refine ⟨sAbc, rfl, (by decide +kernel), fun q hq => ⟨(by show 5 ≤ sizeLine; decide), fun l hl => ⟨_, _, rfl, ?_⟩⟩⟩
    have hpq : p ≠ q := hp.ne hq
    have hql : q ≠ l := fun e => by
      rw [← e, upd_same] at hl
      cases hl
    have hl0 : H l = none := by rw [upd_ne hql.symm] at hl; exact hl
    have hpl : p ≠ l := hp.ne hl0
    let nm0 : List Str := ["end", "read", "write", "x", "abcdefgh"]
    have hnm0 : ∀ z ∈ nm0, isNameT z = true := List.all_eq_true.mp (show nm0.all isNameT = true by decide +kernel)
    have hstart : ∃ H1, H1 = (upd (upd H q (HO.lst (sAbc.cps.toList.map fun c => V.str ⟨#[c]⟩))) l (.lst (nm0.map V.str))) := ⟨_, rfl⟩
    obtain ⟨H1, eH1⟩ := hstart
    have b1 : But p H H1 := by rw [eH1]; exact ((But.refl p H).new hq).new hl0
    have f1 : FeedAt H1 p := by rw [eH1]; exact (hp.put hpq).put hpl
    have q1 : H1 q = some (.lst (sAbc.cps.toList.map fun c => V.str ⟨#[c]⟩)) := by rw [eH1, upd_ne hql, upd_same]
    have l1 : H1 l = some (.lst (nm0.map V.str)) := by rw [eH1, upd_same]
    refine ⟨3, rfl, by decide, by decide, for_it (walk_range (lo := 0) (n := 3)) (fun i σ H' => ∃ (nm : List Str) (v3 v4 v5 : Option V), σ = [some (.ref p), some (.ref q), some (.ref l), v3, v4, v5] ∧ But p H H' ∧ FeedAt H' p ∧
        H' q = some (.lst (sAbc.cps.toList.map fun c => V.str ⟨#[c]⟩)) ∧ H' l = some (.lst (nm.map V.str)) ∧ nm.length = 5 + i ∧ ∀ z ∈ nm, isNameT z = true)
      ⟨nm0, none, none, none, rfl, eH1 ▸ b1, eH1 ▸ f1, eH1 ▸ q1, eH1 ▸ l1, rfl, hnm0⟩ (fun _ _ _ _ _ => trivial) ?_ ?_⟩
    · rintro i x σ H2 H3 hi ⟨nm, v3, v4, v5, rfl, b2, f2, q2, l2, hlen, hnm⟩ ⟨rfl, rfl⟩
      refine ⟨_, rfl, p, 8, rfl, f2, by decide, by decide, fun m H4 hm b4 f4 => ?_⟩
      refine ⟨1, m, rfl, rfl, _, rfl, by omega, by omega, ?_⟩
      have q4 := b4 _ _ hpq.symm q2
      have l4 := b4 _ _ hpl.symm l2
      have em : (1 + (m : Int)).toNat = m + 1 := by omega
      rw [em]
      refine for_it (walk_range (lo := 0) (n := m + 1)) (fun j σ H' => ∃ (v5 : Option V) (z : Str), σ = [some (.ref p), some (.ref q), some (.ref l), some (.int (0 + (i : Int))), some (.str z), v5] ∧ But p H4 H' ∧ FeedAt H' p ∧
          z.length = j ∧ low z) ⟨_, Str.ofString "", rfl, But.refl _ _, f4, rfl, fun c hc => by cases hc⟩ (fun _ _ _ _ _ => trivial) ?_ ?_
      · rintro j x σ H5 H6 hj ⟨v5, z, rfl, b5, f5, hz, hlow⟩ ⟨rfl, rfl⟩
        have q5 := b5 _ _ hpq.symm q4
        refine ⟨_, rfl, _, rfl, _, rfl, p, q, _, rfl, f5, hpq, SqL.of q5, ?_, ?_, fun r v H7 hv b7 f7 => ?_⟩
        · rw [List.length_map]
          decide +kernel
        · rw [List.length_map]
          decide +kernel
        · rw [List.getElem?_map] at hv
          cases hc : sAbc.cps.toList[r]? with
          | none => rw [hc] at hv; cases hv
          | some c =>
            rw [hc] at hv
            obtain rfl : V.str ⟨#[c]⟩ = v := Option.some.inj hv
            refine ⟨z, ⟨#[c]⟩, rfl, rfl, ?_, _, z ++ ⟨#[c]⟩, rfl, b5.trans b7, f7, ?_, ?_⟩
            · rw [hz, sizeLine_eq]
              show j + 1 ≤ _
              omega
            · rw [Str.length_append, hz]
              rfl
            · intro d hd
              have hd' : d ∈ z.cps.toList ++ [c] := by
                have e : (z ++ (⟨#[c]⟩ : Str)).cps.toList = z.cps.toList ++ [c] := by
                  show (z.cps ++ #[c]).toList = _
                  simp
                rw [← e]
                exact hd
              rcases List.mem_append.mp hd' with h | h
              · exact hlow d h
              · rw [List.mem_singleton.mp h]
                exact abc_low c (List.mem_of_getElem? hc)
      · rintro σ H5 ⟨v5, z, rfl, b5, f5, hz, hlow⟩
        have l5 := b5 _ _ hpl.symm l4
        have q5 := b5 _ _ hpq.symm q4
        refine ⟨_, rfl, .inl ⟨rfl, _, SqL.of l5⟩, _, rfl, l, _, _, rfl, rfl, l5, ?_, ?_⟩
        · rw [List.length_map, hlen, sizeLine_eq]
          omega
        · refine ⟨nm ++ [z], _, _, _, rfl, ((b2.trans b4).trans b5).new hl0, f5.put hpl, by rw [upd_ne hql]; exact q5, by rw [upd_same, List.map_append]; rfl, by rw [List.length_append, hlen]; rfl, fun y hy => ?_⟩
          rcases List.mem_append.mp hy with h | h
          · exact hnm y h
          · rw [List.mem_singleton.mp h]
            exact name_of_low hlow (by omega) (by omega)
    · rintro σ H2 ⟨nm, v3, v4, v5, rfl, b2, f2, q2, l2, hlen, hnm⟩
      refine ⟨_, rfl, _, rfl, p, 5, rfl, f2, by decide, by decide, fun r H3 hr3 b3 f3 => ?_⟩
      have l3 := b3 _ _ hpl.symm l2
      refine ⟨r, rfl, l, _, rfl, SqL.of l3, fun o ho => ?_⟩
      have ecut : cutV (nm.map V.str) (some (r : Int)) none = (nm.drop r).map V.str := by
        unfold cutV
        rw [HT.sIx_none, HT.sIx_nat, List.length_map, Nat.min_eq_left (by omega), ← List.map_drop, List.take_of_length_le]
        rw [List.length_map, List.length_drop]
        exact Nat.le_refl _
      have ho0 : H o = none := by
        cases e : H o with
        | none => rfl
        | some u =>
          by_cases hop : o = p
          · rw [hop] at ho
            obtain ⟨d, st, g, _⟩ := f3
            rw [g] at ho
            cases ho
          · rw [(b2.trans b3) _ _ hop e] at ho
            cases ho
      refine k o (nm.drop r) _ ((b2.trans b3).new ho0) (f3.put (hp.ne ho0)) ho0 (hp.ne ho0) (by rw [upd_same, ecut]) (fun e => ?_) (by rw [List.length_drop]; omega) fun z hz => hnm z (List.mem_of_mem_drop hz)
      have := List.drop_eq_nil_iff.mp e
      omega
end
end Vf

set_option maxRecDepth 100000
set_option maxHeartbeats 8000000
namespace Vf
open PySem PySem.Spec PyProof.Rows L2
def tgD : Option Nat → PyData
  | none => .none
  | some k => .int (k : Int)
theorem plain_tg : ∀ tg : List (Option Nat), plainAll (tg.map tgD) = true
  | [] => rfl
  | none :: r => by simp only [List.map_cons, tgD, plainAll, plainD, Bool.true_and, plain_tg r]
  | some _ :: r => by simp only [List.map_cons, tgD, plainAll, plainD, Bool.true_and, plain_tg r]
theorem depth_tg : ∀ tg : List (Option Nat), PyData.depthAll (tg.map tgD) = 0
  | [] => rfl
  | none :: r => by simp only [List.map_cons, tgD, PyData.depthAll, PyData.depth, depth_tg r, Nat.max_self]
  | some _ :: r => by simp only [List.map_cons, tgD, PyData.depthAll, PyData.depth, depth_tg r, Nat.max_self]
theorem dp_tg {K : PySem.W.Frag} {H : Hp} : ∀ tg : List (Option Nat), DpAll K H (tg.map tgV) (tg.map tgD)
  | [] => .nil
  | none :: r => .cons .non (dp_tg r)
  | some k :: r => .cons (.int k) (dp_tg r)
theorem tgD_inj : ∀ {a b : Option Nat}, tgD a = tgD b → a = b
  | none, none, _ => rfl
  | none, some _, h => by cases h
  | some _, none, h => by cases h
  | some a, some b, h => by
    have h' : (a : Int) = (b : Int) := PyData.int.inj h
    rw [Int.ofNat_inj.mp h']
theorem map_tgD_inj : ∀ {a b : List (Option Nat)}, a.map tgD = b.map tgD → a = b
  | [], [], _ => rfl
  | [], _ :: _, h => by cases h
  | _ :: _, [], h => by cases h
  | x :: a, y :: b, h => by
    rw [List.map_cons, List.map_cons] at h
    injection h with h1 h2
    rw [tgD_inj h1, map_tgD_inj h2]
theorem eqv_tg (a b : List (Option Nat)) : PyData.eqv (.tuple (a.map tgD)) (.tuple (b.map tgD)) = decide (a = b) :=
  eqv_dec (by simp only [plainD, plain_tg]) (by simp only [plainD, plain_tg]) ⟨fun h => map_tgD_inj (PyData.tuple.inj h), fun h => by rw [h]⟩
theorem shaped_tg (tg : List (Option Nat)) : SeqAt.shaped (.tuple (tg.map tgD)) = true :=
  shaped_of (by simp only [plainD, plain_tg]) (by simp only [PyData.depth, depth_tg]; decide)
theorem sum_le {l : List Str} {b : Nat} (h : ∀ z ∈ l, z.length ≤ b) : (l.map (·.length)).sum ≤ l.length * b := by
  induction l with
  | nil => exact Nat.zero_le _
  | cons a l ih =>
    have h1 := h a List.mem_cons_self
    have h2 := ih fun z hz => h z (List.mem_cons_of_mem _ hz)
    rw [List.map_cons, List.sum_cons, List.length_cons, Nat.succ_mul]
    omega
theorem join_le {y : Str} {l : List Str} {b : Nat} (h : ∀ z ∈ l, z.length ≤ b) : (Txt.join y l).length ≤ l.length * b + l.length * y.length := by
  rw [TL.join_eq]
  exact Nat.le_trans (StrLaws.join_length_le y l) (Nat.add_le_add_right (sum_le h) _)
theorem rises_le {many : Nat} : ∀ {ks : List Nat}, rises ks = true → (∀ k ∈ ks, k < many) → ks.length ≤ many := fun {ks} h hk => by
  have nd : ks.Nodup := ((rises_iff ks).mp h).imp fun q => Nat.ne_of_lt q
  have := nodup_len (m := List.range many) nd fun k h => List.mem_range.mpr (hk k h)
  rwa [List.length_range] at this
theorem GoodTg.len {many : Nat} {tg : List (Option Nat)} (g : GoodTg many tg) : tg.length ≤ many + 1 := by
  obtain ⟨_, ks, e, rfl, hr, hk⟩ := g
  have := rises_le hr hk
  rw [List.length_append, List.length_map]
  cases e
  · show ks.length + 0 ≤ _
    omega
  · show ks.length + 1 ≤ _
    omega
theorem GoodTg.lt {many : Nat} {tg : List (Option Nat)} (g : GoodTg many tg) {k : Nat} (h : some k ∈ tg) : k < many := by
  obtain ⟨_, ks, e, rfl, _, hk⟩ := g
  rcases List.mem_append.mp h with h | h
  · obtain ⟨j, hj, e⟩ := List.mem_map.mp h
    rw [← Option.some.inj e]
    exact hk j hj
  · cases e <;> simp at h
theorem natS_len {k : Nat} (h : k < 100) : (natS k).length ≤ 2 := by
  rw [TL.len_tl, tl_natS]
  exact TL.numL_len (by decide) (by simpa using h)
theorem part_le {many : Nat} {n : Nd} (g : GoodNd many n) (hm : many ≤ 60) (f : Bool) : ∀ z ∈ rowW f n, z.length ≤ 8 := fun z hz => by
  have hw : n.word.length ≤ 8 := by rcases g.word with e | e <;> rw [e] <;> decide +kernel
  have hc := (name_len g.cell).2
  unfold rowW at hz
  split at hz
  · rcases List.mem_cons.mp hz with rfl | hz
    · exact hw
    · rw [List.mem_singleton.mp hz]
      exact hc
  · rcases List.mem_cons.mp hz with rfl | hz
    · exact hw
    rcases List.mem_cons.mp hz with rfl | hz
    · exact hc
    rcases List.mem_cons.mp hz with rfl | hz
    · decide +kernel
    · obtain ⟨t, ht, rfl⟩ := List.mem_map.mp hz
      cases t with
      | none => show sEnd.length ≤ 8; decide +kernel
      | some k =>
        have := natS_len (k := k) (by have := g.tg.lt ht; omega)
        show (natS k).length ≤ 8
        omega
theorem rowW_len {many : Nat} {n : Nd} (g : GoodNd many n) (f : Bool) : (rowW f n).length ≤ many + 4 := by
  have := g.tg.len
  unfold rowW
  split
  · show 2 ≤ many + 4
    omega
  · rw [List.length_cons, List.length_cons, List.length_cons, List.length_map]
    omega
theorem rowS_le {many : Nat} {n : Nd} (g : GoodNd many n) (hm : many ≤ 60) (f : Bool) : (rowS f n).length ≤ 600 := by
  have h1 := join_le (y := sSp) (part_le g hm f)
  have h2 := rowW_len g f
  have h3 : sSp.length = 1 := by decide +kernel
  rw [h3] at h1
  have h4 : (rowW f n).length * 8 + (rowW f n).length * 1 ≤ 600 := by omega
  exact Nat.le_trans h1 h4
def sArr2 : Str := " -> "
theorem tl_inj {a b : Str} (h : TL.tl a = TL.tl b) : a = b := by
  cases a
  cases b
  simp only [TL.tl, Str.mk.injEq] at h ⊢
  exact Array.toList_inj.mp h
theorem row_bare {n : Nd} (h : n.tg = [none]) : n.word ++ sSp ++ n.cell = rowS false n := by
  refine tl_inj ?_
  unfold rowS rowW
  rw [if_pos ⟨rfl, h⟩, TL.join_eq, TL.tl_join, TL.tl_append, TL.tl_append]
  show _ = TL.tl n.word ++ (TL.tl sSp ++ TL.tl n.cell)
  rw [List.append_assoc]
theorem row_full {f : Bool} {n : Nd} (h : f = true ∨ n.tg ≠ [none]) (hne : n.tg ≠ []) : n.word ++ sSp ++ n.cell ++ sArr2 ++ Txt.join sSp (n.tg.map tgS) = rowS f n := by
  refine tl_inj ?_
  unfold rowS rowW
  rw [if_neg (by rintro ⟨h1, h2⟩; rcases h with h | h; rw [h1] at h; cases h; exact h h2), TL.join_eq, TL.join_eq, TL.tl_join, TL.tl_append, TL.tl_append, TL.tl_append, TL.tl_append, TL.tl_join]
  obtain ⟨t, r, e⟩ := List.exists_cons_of_ne_nil hne
  rw [e]
  show _ = TL.tl n.word ++ (TL.tl sSp ++ (TL.tl n.cell ++ (TL.tl sSp ++ (TL.tl sArrow ++ (TL.tl sSp ++ TL.joinL (TL.tl sSp) (((t :: r).map tgS).map TL.tl))))))
  have e2 : TL.tl sArr2 = TL.tl sSp ++ (TL.tl sArrow ++ TL.tl sSp) := by decide +kernel
  rw [e2]
  simp only [List.append_assoc]
theorem rows_of (f : Bool) : ∀ ns : List Nd, Rows (ns.map (rowS f)) ns
  | [] => .nil
  | _ :: ns => .cons f (rows_of f ns)
end Vf

set_option maxRecDepth 100000
set_option maxHeartbeats 8000000
namespace Vf
open PySem PySem.Spec PyProof.Rows L2
theorem tgS_text (k : Nat) : natS k = Str.ofString (toString (k : Int)) := rfl
theorem log2_small {k : Nat} (h : k < 1000) : (k : Int).natAbs.log2 < 1920 := by
  show k.log2 < 1920
  exact Nat.lt_of_le_of_lt (Nat.log2_le_self k) (by omega)
structure Good (ns : List Nd) : Prop where
  few : ns.length ≤ 8
  some : ns ≠ []
  all : ∀ n ∈ ns, GoodNd ns.length n
section
variable {P : Program} {w : World} {K : PySem.W.Frag} {mg : Str → Option Value} {base : Heap}
def sp_law_text : Sp := fun vs H Q _ => ∃ (t : Addr) (ns : List Nd), vs = [.ref t] ∧ NodesAt H t ns ∧ Good ns ∧ ∀ H', Same H H' → Q (.str (Txt.join sNl (ns.map (rowS false)))) H'
theorem ok_law_text {f : Addr} {fd : FuncData} (F : Fun K "_law_text" "_law_text" s_law_text f fd) (T0 : Txt0 K mg) : FnOk P w K mg base CX0 1 f fd p_law_text sp_law_text := by
  refine F.ok sc_law_text (fun vs H Q E h => ?_) (fun cdv A outer s H vs Q E hr h => ?_)
  · obtain ⟨t, ns, rfl, _⟩ := h
    rfl
  · obtain ⟨t, ns, rfl, ⟨as, ht, hin⟩, g, k⟩ := h
    refine ⟨_, pss_cons (ps_set (i := 1) sc_law_text.nd rfl (Or.inl rfl) (pe_lst pa_nil))
      (pss_cons (ps_for PassesOwn.never rfl (pi_tup (pv 0)) (pg_tup (by rfl) (pgs_cons (pg_name (i := 2) sc_law_text.nd rfl (Or.inl rfl)) (pgs_cons (pg_name (i := 3) sc_law_text.nd rfl (Or.inl rfl)) (pgs_cons (pg_name (i := 4) sc_law_text.nd rfl (Or.inl rfl)) pgs_nil))))
        (pss_cons (ps_set (i := 5) sc_law_text.nd rfl (Or.inl rfl) (pe_op op_add_str (pe_op op_add_str (pv 2) pe_str) (pv 3)))
        (C8.pss_cut (ps_if (pt_cmpR (op_neD hr.units) (pv 4) (pe_tup (pa_cons pe_non pa_nil)) (nomark _))
          (pss_one (ps_set (i := 5) sc_law_text.nd rfl (Or.inl rfl) (pe_op op_add_str (pe_op op_add_str (pv 5) pe_str)
            (pe_join pe_str (pe_lc (own := [("one", 6)]) (g := gName 6) (tt := tYes) rfl sc_law_text.nd (pi_tup (pv 4)) (blkOk_by (N := n_law_text) (sc := defScope s_law_text) (by decide +kernel))
              (fun _ _ _ _ _ => pg_name (i := 6) sc_law_text.nd rfl (Or.inl rfl)) (fun _ _ _ _ _ => pts_nil)
              (fun _ _ _ _ _ => pe_ifExp (pt_cmpR op_isN (pv 6) pe_non (nomark _)) pe_str (pe_callTy call_str_int (by rfl) T0.str boot_str (pa_cons (pv 6) pa_nil)))))))) pss_nil)
        (pss_one (ps_expr (pe_bm PySem.F.plainAttrs_list PySem.F.slot_list_append PySem.F.type_list_append mt_append (pv 1) (pa_cons (pv 5) pa_nil)))))))
      (pss_one (ps_ret (pe_join pe_str (pv 1))))), ?_⟩
    refine ⟨Nat.zero_le _, fun l hl => ?_⟩
    have hlt : t ≠ l := ne_of_none ht hl
    refine ⟨_, rfl, t, rfl, ⟨_, SqT.of (by rw [upd_ne hlt]; exact ht)⟩, for_it (walk_tup (K := K) (a := t) (xs := as.map V.ref)) (fun i σ H' => ∃ (v2 v3 v4 v5 v6 : Option V), σ = [some (.ref t), some (.ref l), v2, v3, v4, v5, v6] ∧ Same H H' ∧
        H' l = some (.lst (((ns.take i).map (rowS false)).map V.str))) ⟨none, none, none, none, none, rfl, same_new hl, upd_same⟩ (fun i σ H' _ ⟨_, _, _, _, _, _, s, _⟩ => SqT.of (s _ _ ht)) ?_ ?_⟩
    · rintro i x σ H2 H3 hi ⟨v2, v3, v4, v5, v6, rfl, s2, hl2⟩ ⟨rfl, hx⟩
      rw [List.length_map, hin.1] at hi
      have hni : ns[i]? = some ns[i] := List.getElem?_eq_getElem hi
      have hai : i < as.length := by rw [hin.1]; exact hi
      have hasi : as[i]? = some as[i] := List.getElem?_eq_getElem hai
      rw [List.getElem?_map, hasi] at hx
      obtain rfl : V.ref as[i] = x := Option.some.inj hx
      have gn := g.all _ (List.getElem_mem hi)
      have hn8 := g.few
      obtain ⟨t', g1, g2⟩ := (hin.2 i _ _ hasi hni).same s2
      generalize hn : ns[i] = n at *
      have hw8 : n.word.length ≤ 8 := part_le gn (by omega) true n.word (by unfold rowW; rw [if_neg (by rintro ⟨h, _⟩; cases h)]; simp)
      have hc8 := (name_len gn.cell).2
      have hsp : sSp.length = 1 := by decide +kernel
      refine ⟨as[i], _, rfl, SqT.of g1, rfl, _, _, rfl, _, _, rfl, _, _, rfl, rfl, _, rfl, n.word, sSp, rfl, rfl, (by rw [hsp, sizeLine_eq]; omega), _, rfl, n.word ++ sSp, n.cell, rfl, rfl, (by rw [Str.length_append, hsp, sizeLine_eq]; omega), ?_⟩
      refine ⟨fun σ H' => ∃ v6, σ = [some (.ref t), some (.ref l), some (.str n.word), some (.str n.cell), some (.ref t'), some (.str (rowS false n)), v6] ∧ Same H3 H', ?_, ?_⟩
      · refine ⟨_, rfl, (by show 1 ≤ sizeLine; decide), fun q hq => ⟨.tuple (n.tg.map tgD), .tuple ([none].map tgD), .tup (SqT.of (by rw [upd_ne (ne_of_none g2 hq)]; exact g2)) (dp_tg _), .tup (SqT.of upd_same) (dp_tg [none]), shaped_tg _, shaped_tg _, _, rfl, ?_⟩⟩
        rw [eqv_tg]
        by_cases ht0 : n.tg = [none]
        · rw [decide_eq_true ht0]
          exact iteF ⟨v6, by rw [← row_bare ht0]; rfl, same_new hq⟩
        · rw [decide_eq_false ht0]
          have g2' : (upd H3 q (.tup [.non])) t' = some (.tup (n.tg.map tgV)) := by rw [upd_ne (ne_of_none g2 hq)]; exact g2
          refine iteT ⟨_, rfl, n.word ++ sSp ++ n.cell, sArr2, rfl, rfl, ?_, ⟨_, rfl⟩, _, rfl, t', rfl, ⟨_, SqT.of g2'⟩, fun D hD => lc_mp n.tg (walk_tup (K := K) (a := t') (xs := n.tg.map tgV) |> fun z => by rw [List.length_map] at z; exact z) hD
            (fun o => .str (tgS o)) ?_ (fun H5 s5 => SqT.of (s5 _ _ g2')) ?_ ?_⟩
          · have e2 : sArr2.length = 4 := by decide +kernel
            rw [Str.length_append, Str.length_append, hsp, e2, sizeLine_eq]
            omega
          · have := gn.tg.len
            omega
          · rintro j o x H5 H6 ho s5 ⟨rfl, hx⟩ R hR
            rw [List.getElem?_map, ho] at hx
            obtain rfl : tgV o = x := Option.some.inj hx
            refine ⟨rfl, ?_⟩
            cases o with
            | none => exact ⟨_, rfl, rfl, _, rfl, iteT (hR _ (Same.refl _))⟩
            | some j =>
              have hj := gn.tg.lt (List.mem_of_getElem? ho)
              exact ⟨_, rfl, rfl, _, rfl, iteF ⟨_, rfl, (j : Int), rfl, log2_small (by omega), hR _ (Same.refl _)⟩⟩
          · intro H5 s5 hL
            have htl := gn.tg.len
            have hz : ∀ z ∈ n.tg.map tgS, z.length ≤ 8 := fun z hz => part_le gn (by omega) true z (by
              unfold rowW
              rw [if_neg (by rintro ⟨h, _⟩; cases h)]
              exact List.mem_cons_of_mem _ (List.mem_cons_of_mem _ (List.mem_cons_of_mem _ hz)))
            have hsum := sum_le hz
            rw [List.length_map] at hsum
            refine ⟨sSp, D, n.tg.map tgS, rfl, rfl, .inl (SqL.of (by rw [hL, List.map_map]; rfl)), ?_, n.word ++ sSp ++ n.cell ++ sArr2, Txt.join sSp (n.tg.map tgS), rfl, rfl, ?_, v6, ?_, (same_new hq).trans s5⟩
            · rw [hsp, List.length_map]
              omega
            · have h1 := join_le (y := sSp) hz
              have e2 : sArr2.length = 4 := by decide +kernel
              rw [List.length_map, hsp] at h1
              rw [Str.length_append, Str.length_append, Str.length_append, hsp, e2, sizeLine_eq]
              omega
            · rw [row_full (f := false) (.inr ht0) gn.tg.ne]
              rfl
      · rintro σ H4 ⟨v6', rfl, s4⟩
        have hl4 := s4 _ _ hl2
        refine ⟨_, rfl, .inl ⟨rfl, _, SqL.of hl4⟩, _, rfl, l, _, _, rfl, rfl, hl4, ?_, ?_⟩
        · rw [List.length_map, List.length_map, List.length_take, sizeLine_eq]
          omega
        · refine ⟨_, _, _, _, _, rfl, same_upd (s2.trans s4) hl, ?_⟩
          rw [upd_same, List.take_add_one, hni, List.map_append, List.map_append]
          rfl
    · rintro σ H2 ⟨v2, v3, v4, v5, v6, rfl, s2, hl2⟩
      rw [List.length_map, hin.1, List.take_length] at hl2
      have hz : ∀ z ∈ ns.map (rowS false), z.length ≤ 600 := fun z hz => by
        obtain ⟨n, hn, rfl⟩ := List.mem_map.mp hz
        exact rowS_le (g.all n hn) (by have := g.few; omega) false
      have hsum := sum_le hz
      have h8 := g.few
      rw [List.length_map] at hsum
      refine ⟨⟨_, rfl⟩, _, rfl, sNl, l, ns.map (rowS false), rfl, rfl, .inl (SqL.of hl2), ?_, k H2 s2⟩
      have e1 : sNl.length = 1 := by decide +kernel
      rw [e1, List.length_map]
      omega
end
end Vf

set_option maxRecDepth 100000
set_option maxHeartbeats 8000000
namespace Vf
open PySem PySem.Spec PyProof.Rows L2
def natV (ks : List Nat) : List V := ks.map fun (k : Nat) => V.int (k : Int)
theorem natV_int (ks : List Nat) : natV ks = (ks.map Int.ofNat).map V.int := by
  unfold natV
  rw [List.map_map]
  rfl
theorem natV_tg (ks : List Nat) : natV ks = (ks.map some).map tgV := by
  unfold natV
  rw [List.map_map]
  rfl
theorem inV_nat {k : Nat} {ks : List Nat} : inV (.int (k : Int)) (natV ks) = decide (k ∈ ks) := by
  unfold natV inV
  rw [List.any_map]
  induction ks with
  | nil => rfl
  | cons a r ih =>
    rw [List.any_cons, ih]
    by_cases h : a = k
    · subst h
      rw [decide_eq_true (p := a ∈ a :: r) List.mem_cons_self]
      have e : ((fun y => eqV y (.int (a : Int))) ∘ fun k : Nat => V.int (k : Int)) a = true := decide_eq_true rfl
      rw [e]
      rfl
    · have e : ((fun y => eqV y (.int (k : Int))) ∘ fun k : Nat => V.int (k : Int)) a = false := by
        show eqV (.int (a : Int)) (.int (k : Int)) = false
        exact decide_eq_false fun q => h (Int.ofNat_inj.mp q)
      rw [e, Bool.false_or]
      exact decide_eq_decide.mpr ⟨fun q => List.mem_cons_of_mem _ q, fun q => (List.mem_cons.mp q).resolve_left fun z => h z.symm⟩
theorem rises_ins {ks : List Nat} {k many : Nat} {ns : List Int} (h : rises ks = true) (hk : k ∉ ks) (hlt : ∀ j ∈ ks, j < many) (hkm : k < many) (hp : ns.Perm (ks.map Int.ofNat ++ [(k : Int)])) (hs : ns.Pairwise (· ≤ ·)) :
    ∃ ks' : List Nat, ns = ks'.map Int.ofNat ∧ rises ks' = true ∧ ∀ j ∈ ks', j < many := by
  have mem : ∀ x ∈ ns, ∃ j : Nat, x = (j : Int) ∧ (j ∈ ks ∨ j = k) := fun x hx => by
    rcases List.mem_append.mp (hp.mem_iff.mp hx) with q | q
    · obtain ⟨j, hj, rfl⟩ := List.mem_map.mp q
      exact ⟨j, rfl, .inl hj⟩
    · exact ⟨k, List.mem_singleton.mp q, .inr rfl⟩
  have e : ns = (ns.map Int.toNat).map Int.ofNat := by
    rw [List.map_map]
    conv => lhs; rw [← List.map_id ns]
    refine List.map_congr_left fun x hx => ?_
    obtain ⟨j, rfl, _⟩ := mem x hx
    rfl
  have nd : ns.Nodup := by
    refine hp.nodup_iff.mpr ?_
    have e2 : ks.map Int.ofNat ++ [(k : Int)] = (ks ++ [k]).map Int.ofNat := by rw [List.map_append]; rfl
    rw [e2]
    refine List.Pairwise.map _ (fun a b (q : a ≠ b) z => q (Int.ofNat_inj.mp z)) ?_
    refine List.nodup_append.mpr ⟨((rises_iff ks).mp h).imp fun q => Nat.ne_of_lt q, List.nodup_cons.mpr ⟨by simp, List.nodup_nil⟩, fun a ha b hb z => ?_⟩
    rw [List.mem_singleton.mp hb] at z
    exact hk (z ▸ ha)
  refine ⟨ns.map Int.toNat, e, ?_, fun j hj => ?_⟩
  · rw [rises_iff, List.pairwise_map]
    refine (hs.and nd).imp_of_mem fun {a b} ha hb q => ?_
    obtain ⟨i, rfl, _⟩ := mem a ha
    obtain ⟨j, rfl, _⟩ := mem b hb
    have q1 : (i : Int) ≤ j := q.1
    have q2 : (i : Int) ≠ j := q.2
    show i < j
    omega
  · obtain ⟨x, hx, rfl⟩ := List.mem_map.mp hj
    obtain ⟨i, rfl, hi⟩ := mem x hx
    rcases hi with hi | rfl
    · exact hlt i hi
    · exact hkm
theorem eqv_list_tg (a b : List (Option Nat)) : PyData.eqv (.list (a.map tgD)) (.list (b.map tgD)) = decide (a = b) :=
  eqv_dec (by simp only [plainD, plain_tg]) (by simp only [plainD, plain_tg]) ⟨fun h => map_tgD_inj (PyData.list.inj h), fun h => by rw [h]⟩
theorem shaped_list_tg (tg : List (Option Nat)) : SeqAt.shaped (.list (tg.map tgD)) = true :=
  shaped_of (by simp only [plainD, plain_tg]) (by simp only [PyData.depth, depth_tg]; decide)
/-- behind H, while only the draws at p have changed: the list at l holds the nodes ns, as told by as -/
structure Mid3 (H : Hp) (p l : Addr) (as : List Addr) (ns : List Nd) (H' : Hp) : Prop where
  b : But p H H'
  f : FeedAt H' p
  l : H' l = some (.lst (as.map V.ref))
  n : NodesIn H' as ns
theorem Mid3.but {H : Hp} {p l : Addr} {as : List Addr} {ns : List Nd} {H2 H3 : Hp} (m : Mid3 H p l as ns H2) (b : But p H2 H3) (f : FeedAt H3 p) (hpl : p ≠ l) : Mid3 H p l as ns H3 :=
  ⟨m.b.trans b, f, b _ _ hpl.symm m.l, m.n.1, fun i a n h1 h2 => (m.n.2 i a n h1 h2).but b (let ⟨_, _, e, _⟩ := m.f; ⟨_, e⟩)⟩
theorem Mid3.same {H : Hp} {p l : Addr} {as : List Addr} {ns : List Nd} {H2 H3 : Hp} (m : Mid3 H p l as ns H2) (s : Same H2 H3) (hpl : p ≠ l) : Mid3 H p l as ns H3 := m.but (Same.but s) (m.f.same s) hpl
/-- new behind what the draws alone have changed: new before -/
theorem But.free {p o : Addr} {H H' : Hp} (b : But p H H') (f : FeedAt H' p) (h : H' o = none) : H o = none := by
  cases e : H o with
  | none => rfl
  | some u =>
    by_cases hop : o = p
    · rw [hop] at h
      obtain ⟨d, st, g, _⟩ := f
      rw [g] at h
      cases h
    · rw [b _ _ hop e] at h
      cases h
section
variable {P : Program} {w : World} {K : PySem.W.Frag} {mg : Str → Option Value} {base : Heap}
def sp_law_nodes (K : PySem.W.Frag) : Sp := fun vs H Q _ => ∃ (p c : Addr) (nm : List Str) (most : Nat), vs = [.ref p, .ref c, .int (most : Int)] ∧ FeedAt H p ∧ p ≠ c ∧ SqL K H c (nm.map V.str) ∧ nm ≠ [] ∧ nm.length ≤ 8 ∧ (∀ z ∈ nm, isNameT z = true) ∧ 1 ≤ most ∧ most ≤ 8 ∧
  ∀ (t : Addr) (ns : List Nd) H', But p H H' → FeedAt H' p → H t = none → NodesAt H' t ns → Good ns → Q (.ref t) H'
theorem ok_law_nodes {f : Addr} {fd : FuncData} (F : Fun K "_law_nodes" "_law_nodes" s_law_nodes f fd) (T0 : Txt0 K mg) (T : TxtL mg) (GT : OkF P w K mg base CX0 "_law_take" p_law_take 1 sp_law_take) (GP : OkF P w K mg base CX0 "_law_pick" p_law_pick 2 (sp_law_pick K)) :
    FnOk P w K mg base CX0 3 f fd p_law_nodes (sp_law_nodes K) := by
  refine F.ok sc_law_nodes (fun vs H Q E h => ?_) (fun cdv A outer s H vs Q E hr h => ?_)
  · obtain ⟨p, c, nm, most, rfl, _⟩ := h
    rfl
  · obtain ⟨p, c, nm, most, rfl, hp, hpc, hS, hnm, hnm8, hnames, hm1, hm8, k⟩ := h
    have hr1 : Room 1 _ := hr.mono (by decide)
    refine ⟨_, pss_cons (ps_par (i := 3) (j := 4) rfl sc_law_nodes.nd rfl rfl (by decide) rfl rfl (pa_cons (pe_op op_add pe_int (pe_fn GT hr1 rfl pass0 (pa_cons (pv 0) (pa_cons (pv 2) pa_nil)))) (pa_cons (pe_lst pa_nil) pa_nil)) (by rfl))
      (pss_cons (ps_for PassesOwn.never rfl (pi_range1 (by rfl) T0.range (pa_cons (pv 3) pa_nil)) (pg_name (i := 5) sc_law_nodes.nd rfl (Or.inl rfl))
        (C8.pss_cut (ps_setLc (i := 6) (own := [("one", 8)]) (g := gName 8) rfl sc_law_nodes.nd rfl rfl (sw_true rfl rfl rfl (by decide +kernel)) (pi_range1 (by rfl) T0.range (pa_cons (pv 3) pa_nil)) (blkOk_by (N := n_law_nodes) (sc := defScope s_law_nodes) (by decide +kernel))
              (fun _ _ _ _ _ => pg_name (i := 8) sc_law_nodes.nd rfl (Or.inl rfl)) (fun _ _ _ _ _ => pts_one (pt_cmpR op_eq (pe_fn GT hr1 rfl pass0 (pa_cons (pv 0) (pa_cons pe_int pa_nil))) pe_int (nomark _)))
              (fun _ _ _ _ _ => pv 8))
        (C8.pss_cut (ps_if (PW.pt (pw_and (pt_cmpR op_eq (pe_fn GT hr1 rfl pass0 (pa_cons (pv 0) (pa_cons pe_int pa_nil))) pe_int (nomark _))
              (pw_and (pt_cmpR op_lt (pe_op op_add (pv 5) pe_int) (pv 3) (nomark _)) (pw_and1 (pt_cmpR op_notIn_seq (pe_op op_add (pv 5) pe_int) (pv 6) rfl)))))
            (pss_one (ps_set (i := 6) sc_law_nodes.nd rfl (Or.inl rfl) (pe_callB cr_sorted (by rfl) T0.sorted (by decide +kernel) (pa_cons (pe_op op_cat (pv 6) (pe_lst (pa_cons (pe_op op_add (pv 5) pe_int) pa_nil))) pa_nil)))) pss_nil)
        (C8.pss_cut (ps_if (PW.pt (pw_or (pt_cmpR (op_eqD hr.units) (pv 6) (pe_lst pa_nil) (nomark _)) (pw_or1 (pt_cmpR op_eq (pe_fn GT hr1 rfl pass0 (pa_cons (pv 0) (pa_cons pe_int pa_nil))) pe_int (nomark _)))))
            (pss_one (ps_set (i := 6) sc_law_nodes.nd rfl (Or.inl rfl) (pe_op op_cat (pv 6) (pe_lst (pa_cons pe_non pa_nil))))) pss_nil)
        (pss_cons (ps_set (i := 7) sc_law_nodes.nd rfl (Or.inl rfl) (pe_fn GP hr rfl pass0 (pa_cons (pv 0) (pa_cons (pe_lst (pa_cons pe_str (pa_cons pe_str (pa_cons pe_str pa_nil)))) pa_nil))))
        (pss_one (ps_expr (pe_bm PySem.F.plainAttrs_list PySem.F.slot_list_append PySem.F.type_list_append mt_append (pv 4) (pa_cons
          (pe_tup (pa_cons (pv 7) (pa_cons (pe_fn GP hr rfl pass0 (pa_cons (pv 0) (pa_cons (pe_callTy call_list_of (by rfl) T.list (by decide +kernel) (pa_cons (pv 1) pa_nil)) pa_nil))) (pa_cons (pe_callTy call_tuple_of (by rfl) T0.tuple (by decide +kernel) (pa_cons (pv 6) pa_nil)) pa_nil)))) pa_nil)))))))))
      (pss_one (ps_ret (pe_callTy call_tuple_of (by rfl) T0.tuple (by decide +kernel) (pa_cons (pv 4) pa_nil))))), ?_⟩
    refine ⟨_, rfl, _, rfl, p, most, rfl, hp, hm1, by omega, fun m H1 hm b1 f1 => ⟨1, m, rfl, rfl, Nat.zero_le _, fun l hl => ⟨_, _, rfl, ?_⟩⟩⟩
    have hl0 := b1.free f1 hl
    have hpl : p ≠ l := hp.ne hl0
    have em : (1 + (m : Int)).toNat = 1 + m := by omega
    refine ⟨_, rfl, _, rfl, by omega, by omega, ?_⟩
    rw [em]
    refine for_it (walk_range (lo := 0) (n := 1 + m)) (fun i σ H' => ∃ (as : List Addr) (ns : List Nd) (v5 v6 v7 v8 : Option V), σ = [some (.ref p), some (.ref c), some (.int (most : Int)), some (.int (1 + (m : Int))), some (.ref l), v5, v6, v7, v8] ∧
        Mid3 H p l as ns H' ∧ ns.length = i ∧ ∀ n ∈ ns, GoodNd (1 + m) n)
      ⟨[], [], none, none, none, none, rfl, ⟨b1.new hl0, f1.put hpl, upd_same, rfl, fun i a n h => by simp at h⟩, rfl, fun n h => by cases h⟩ (fun _ _ _ _ _ => trivial) ?_ ?_
    · rintro i x σ H2 H3 hi ⟨as, ns, v5, v6, v7, v8, rfl, md, hns, hgood⟩ ⟨rfl, rfl⟩
      refine ⟨fun σ H' => ∃ (q : Addr) (ks : List Nat) (v7 v8 : Option V), σ = [some (.ref p), some (.ref c), some (.int (most : Int)), some (.int (1 + (m : Int))), some (.ref l), some (.int (0 + (i : Int))), some (.ref q), v7, v8] ∧
        Mid3 H p l as ns H' ∧ H' q = some (.lst (natV ks)) ∧ p ≠ q ∧ l ≠ q ∧ rises ks = true ∧ ∀ k ∈ ks, k < 1 + m, ?_, ?_⟩
      · refine ⟨_, rfl, _, rfl, by omega, by omega, fun D hD => ?_⟩
        rw [em]
        have hpD : p ≠ D := md.f.ne hD
        have hlD : l ≠ D := ne_of_none md.l hD
        refine lc_it (walk_range (lo := 0) (n := 1 + m)) (fun j H' => But p H3 H' ∧ FeedAt H' p ∧ ∃ ks : List Nat, H' D = some (.lst (natV ks)) ∧ rises ks = true ∧ ks.length ≤ j ∧ ∀ k ∈ ks, k < j)
          ⟨(But.refl p H3).new hD, md.f.put hpD, [], upd_same, rfl, Nat.le_refl _, fun k h => by cases h⟩ (fun _ _ _ _ => trivial) ?_ ?_
        · rintro j x H4 H5 hj ⟨b4, f4, ks, hks, hri, hlen, hlt⟩ ⟨rfl, rfl⟩
          refine ⟨rfl, _, rfl, p, 4, rfl, f4, by decide, by decide, fun r H6 hr6 b6 f6 => ⟨rfl, _, rfl, ?_⟩⟩
          have hks6 := b6 _ _ hpD.symm hks
          by_cases hr0 : r = 0
          · subst hr0
            refine iteT ⟨_, rfl, natV ks, hks6, ?_, (b4.trans b6).new hD, f6.put hpD, ks ++ [j], ?_, ?_, ?_, ?_⟩
            · unfold natV
              rw [List.length_map, sizeLine_eq]
              omega
            · rw [upd_same]
              show some (HO.lst (natV ks ++ [.int (0 + (j : Int))])) = _
              rw [Int.zero_add]
              unfold natV
              rw [List.map_append]
              rfl
            · rw [rises_iff] at hri ⊢
              refine List.pairwise_append.mpr ⟨hri, List.pairwise_singleton _ _, fun a ha b hb => ?_⟩
              rw [List.mem_singleton.mp hb]
              exact hlt a ha
            · rw [List.length_append, List.length_singleton]
              omega
            · intro a ha
              rcases List.mem_append.mp ha with ha | ha
              · have := hlt a ha
                omega
              · rw [List.mem_singleton.mp ha]
                omega
          · rw [decide_eq_false (p := V.int (r : Int) = V.int 0) (fun e => hr0 (by have := V.int.inj e; omega))]
            exact iteF ⟨b4.trans b6, f6, ks, hks6, hri, by omega, fun a ha => by have := hlt a ha; omega⟩
        · rintro H4 ⟨b4, f4, ks, hks, hri, hlen, hlt⟩
          exact ⟨D, ks, v7, v8, rfl, md.but b4 f4 hpl, hks, hpD, hlD, hri, hlt⟩
      rintro σ H4 ⟨q, ks, v7', v8', rfl, md4, hq, hpq, hlq, hri, hlt⟩
      have hkl : ks.length ≤ 8 := by
        have := rises_le hri hlt
        omega
      refine ⟨fun σ H' => ∃ (q : Addr) (ks : List Nat) (v7 v8 : Option V), σ = [some (.ref p), some (.ref c), some (.int (most : Int)), some (.int (1 + (m : Int))), some (.ref l), some (.int (0 + (i : Int))), some (.ref q), v7, v8] ∧
        Mid3 H p l as ns H' ∧ H' q = some (.lst (natV ks)) ∧ p ≠ q ∧ l ≠ q ∧ rises ks = true ∧ ∀ k ∈ ks, k < 1 + m, ?_, ?_⟩
      · refine ⟨_, rfl, p, 2, rfl, md4.f, by decide, by decide, fun r H5 hr5 b5 f5 => ⟨rfl, _, rfl, ?_⟩⟩
        have md5 := md4.but b5 f5 hpl
        have hq5 := b5 _ _ hpq.symm hq
        by_cases hr0 : r = 0
        case neg =>
          rw [decide_eq_false (p := V.int (r : Int) = V.int 0) (fun e => hr0 (by have := V.int.inj e; omega))]
          exact iteF (iteF ⟨q, ks, v7', v8', rfl, md5, hq5, hpq, hlq, hri, hlt⟩)
        subst hr0
        refine iteT ⟨_, rfl, _, _, rfl, rfl, _, rfl, _, _, rfl, rfl, _, rfl, ?_⟩
        by_cases hi1 : 0 + (i : Int) + 1 < 1 + (m : Int)
        case neg =>
          rw [decide_eq_false hi1]
          exact iteF (iteF ⟨q, ks, v7', v8', rfl, md5, hq5, hpq, hlq, hri, hlt⟩)
        rw [decide_eq_true hi1]
        refine iteT ⟨_, rfl, _, _, rfl, rfl, _, rfl, q, _, rfl, .inl (SqL.of hq5), rfl, ?_, _, rfl, ?_⟩
        · unfold natV
          rw [List.all_map, List.all_eq_true]
          intro _ _
          rfl
        have ei : (0 + (i : Int) + 1) = ((i + 1 : Nat) : Int) := by omega
        show if (if true = true then !inV (.int (0 + (i : Int) + 1)) (natV ks) else _) = true then _ else _
        rw [if_pos rfl, ei, inV_nat]
        by_cases hmem : i + 1 ∈ ks
        · rw [decide_eq_true hmem]
          exact iteF (⟨q, ks, v7', v8', rfl, md5, hq5, hpq, hlq, hri, hlt⟩)
        rw [decide_eq_false hmem]
        refine iteT ⟨_, rfl, _, rfl, _, _, rfl, rfl, (by show 1 ≤ sizeLine; decide), fun o1 ho1 => ?_⟩
        have hqo : q ≠ o1 := ne_of_none hq5 ho1
        refine ⟨q, o1, natV ks, [.int (0 + (i : Int) + 1)], rfl, rfl, by rw [upd_ne hqo]; exact hq5, upd_same, ?_, fun o2 ho2 => ?_⟩
        · unfold natV
          rw [List.length_map, sizeLine_eq]
          show ks.length + 1 ≤ _
          omega
        refine ⟨o2, ks.map Int.ofNat ++ [((i + 1 : Nat) : Int)], rfl, SqL.of ?_, ?_, fun ns' o3 hperm hsort ho3 => ?_⟩
        · rw [upd_same, List.map_append, ← natV_int, ← ei]
          rfl
        · rw [List.length_append, List.length_map]
          show ks.length + 1 < 64
          omega
        obtain ⟨ks', rfl, hri', hlt'⟩ := rises_ins hri hmem hlt (by omega) hperm hsort
        have s53 := ((same_new (o := .lst [.int (0 + (i : Int) + 1)]) ho1).trans (same_new (o := .lst (natV ks ++ [.int (0 + (i : Int) + 1)])) ho2)).trans (same_new (o := .lst ((ks'.map Int.ofNat).map V.int)) ho3)
        have ho35 := Same.free ((same_new (o := .lst [.int (0 + (i : Int) + 1)]) ho1).trans (same_new (o := .lst (natV ks ++ [.int (0 + (i : Int) + 1)])) ho2)) ho3
        exact ⟨o3, ks', v7', v8', rfl, md5.same s53 hpl, by rw [upd_same, natV_int], md5.f.ne ho35, ne_of_none md5.l ho35, hri', hlt'⟩
      rintro σ H5 ⟨q5, ks5, v75, v85, rfl, md5, hq5, hpq5, hlq5, hri5, hlt5⟩
      have hkl5 : ks5.length ≤ 8 := by
        have := rises_le hri5 hlt5
        omega
      refine ⟨fun σ H' => ∃ (q : Addr) (tg : List (Option Nat)) (v7 v8 : Option V), σ = [some (.ref p), some (.ref c), some (.int (most : Int)), some (.int (1 + (m : Int))), some (.ref l), some (.int (0 + (i : Int))), some (.ref q), v7, v8] ∧
        Mid3 H p l as ns H' ∧ H' q = some (.lst (tg.map tgV)) ∧ p ≠ q ∧ l ≠ q ∧ GoodTg (1 + m) tg, ?_, ?_⟩
      · refine ⟨_, rfl, Nat.zero_le _, fun o1 ho1 => ?_⟩
        have s6 := same_new (o := .lst []) ho1
        have md6 := md5.same s6 hpl
        have hq6 := s6 _ _ hq5
        refine ⟨.list ((ks5.map some).map tgD), .list (([] : List (Option Nat)).map tgD), .lst (SqL.of (by rw [hq6, natV_tg])) (dp_tg _), .lst (SqL.of upd_same) (dp_tg []), shaped_list_tg _, shaped_list_tg _, _, rfl, ?_⟩
        rw [eqv_list_tg]
        have addNone : ∀ H7, Mid3 H p l as ns H7 → H7 q5 = some (.lst (natV ks5)) → ∀ o1 o2, H7 o1 = none → (upd H7 o1 (.lst [.non])) o2 = none → Mid3 H p l as ns (upd (upd H7 o1 (.lst [.non])) o2 (.lst (natV ks5 ++ [.non]))) ∧
            (upd (upd H7 o1 (.lst [.non])) o2 (.lst (natV ks5 ++ [.non]))) o2 = some (.lst ((ks5.map some ++ [none]).map tgV)) ∧ p ≠ o2 ∧ l ≠ o2 ∧ GoodTg (1 + m) (ks5.map some ++ [none]) := by
          intro H7 md7 hq7 o1 o2 ho1 ho2
          have ho27 := Same.free (same_new (o := .lst [.non]) ho1) ho2
          refine ⟨md7.same ((same_new ho1).trans (same_new ho2)) hpl, by rw [upd_same, List.map_append, natV_tg]; rfl, md7.f.ne ho27, ne_of_none md7.l ho27, by simp, ks5, true, rfl, hri5, hlt5⟩
        by_cases hk0 : ks5.map some = []
        · rw [decide_eq_true hk0]
          refine iteT (iteT ⟨_, rfl, (by show 1 ≤ sizeLine; decide), fun o2 ho2 => ⟨q5, o2, natV ks5, [.non], rfl, rfl, by rw [upd_ne (ne_of_none hq6 ho2)]; exact hq6, upd_same, ?_, fun o3 ho3 => ?_⟩⟩)
          · unfold natV
            rw [List.length_map, sizeLine_eq]
            show ks5.length + 1 ≤ _
            omega
          · obtain ⟨m1, m2, m3, m4, m5⟩ := addNone _ md6 hq6 o2 o3 ho2 ho3
            exact ⟨o3, ks5.map some ++ [none], v75, v85, rfl, m1, m2, m3, m4, m5⟩
        · rw [decide_eq_false hk0]
          refine iteF ⟨_, rfl, p, 4, rfl, md6.f, by decide, by decide, fun r H7 hr7 b7 f7 => ⟨rfl, _, rfl, ?_⟩⟩
          have md7 := md6.but b7 f7 hpl
          have hq7 := b7 _ _ hpq5.symm hq6
          by_cases hr0 : r = 0
          · subst hr0
            refine iteT ⟨_, rfl, (by show 1 ≤ sizeLine; decide), fun o2 ho2 => ⟨q5, o2, natV ks5, [.non], rfl, rfl, by rw [upd_ne (ne_of_none hq7 ho2)]; exact hq7, upd_same, ?_, fun o3 ho3 => ?_⟩⟩
            · unfold natV
              rw [List.length_map, sizeLine_eq]
              show ks5.length + 1 ≤ _
              omega
            · obtain ⟨m1, m2, m3, m4, m5⟩ := addNone _ md7 hq7 o2 o3 ho2 ho3
              exact ⟨o3, ks5.map some ++ [none], v75, v85, rfl, m1, m2, m3, m4, m5⟩
          · rw [decide_eq_false (p := V.int (r : Int) = V.int 0) (fun e => hr0 (by have := V.int.inj e; omega))]
            exact iteF (⟨q5, ks5.map some, v75, v85, rfl, md7, by rw [hq7, natV_tg], hpq5, hlq5, hk0, ks5, false, by simp, hri5, hlt5⟩)
      rintro σ H6 ⟨q6, tg, v76, v86, rfl, md6, hq6, hpq6, hlq6, hgt⟩
      refine ⟨_, rfl, (by show 3 ≤ sizeLine; decide), fun o1 ho1 => ?_⟩
      have s7 := same_new (o := .lst [.str "read", .str "write", .str "write"]) ho1
      refine ⟨p, o1, _, rfl, md6.f.same s7, md6.f.ne ho1, SqL.of upd_same, by decide, by decide, fun r v H8 hv b8 f8 => ?_⟩
      have md8 := (md6.same s7 hpl).but b8 f8 hpl
      have hq8 := b8 _ _ hpq6.symm (s7 _ _ hq6)
      obtain ⟨wd, rfl, hwd⟩ : ∃ wd : Str, v = .str wd ∧ (wd = sRead ∨ wd = sWrite) := by
        match r, hv with
        | 0, e => exact ⟨sRead, (Option.some.inj e).symm, .inl rfl⟩
        | 1, e => exact ⟨sWrite, (Option.some.inj e).symm, .inr rfl⟩
        | 2, e => exact ⟨sWrite, (Option.some.inj e).symm, .inr rfl⟩
        | _ + 3, e => cases e
      refine ⟨_, rfl, .inl ⟨rfl, _, SqL.of md8.l⟩, _, rfl, _, rfl, _, rfl, c, _, rfl, .inl (Vf.SqL.but hS md8.b hpc.symm), fun o2 ho2 => ?_⟩
      have s9 := same_new (o := .lst (nm.map V.str)) ho2
      refine ⟨p, o2, _, rfl, md8.f.same s9, md8.f.ne ho2, SqL.of upd_same, ?_, ?_, fun r2 v2 H9 hv2 b9 f9 => ?_⟩
      · rw [List.length_map]
        exact List.length_pos_iff.mpr hnm
      · rw [List.length_map]
        omega
      have md9 := (md8.same s9 hpl).but b9 f9 hpl
      have hq9 := b9 _ _ hpq6.symm (s9 _ _ hq8)
      obtain ⟨z, rfl, hz⟩ : ∃ z : Str, v2 = .str z ∧ z ∈ nm := by
        rw [List.getElem?_map] at hv2
        cases e : nm[r2]? with
        | none => rw [e] at hv2; cases hv2
        | some z =>
          rw [e] at hv2
          exact ⟨z, (Option.some.inj hv2).symm, List.mem_of_getElem? e⟩
      refine ⟨_, rfl, q6, _, rfl, .inl ⟨SqL.of hq9, fun t1 ht1 => ⟨(by show 3 ≤ sizeLine; decide), fun a ha => ?_⟩⟩⟩
      have s10 := (same_new (o := .tup (tg.map tgV)) ht1).trans (same_new (o := .tup [.str wd, .str z, .ref t1]) ha)
      have md10 := md9.same s10 hpl
      have hta : t1 ≠ a := fun e => by
        rw [← e, upd_same] at ha
        cases ha
      have hna : NodeAt (upd (upd H9 t1 (.tup (tg.map tgV))) a (.tup [.str wd, .str z, .ref t1])) a ⟨wd, z, tg⟩ := ⟨t1, upd_same, by rw [upd_ne hta, upd_same]⟩
      refine ⟨l, _, _, rfl, rfl, md10.l, ?_, ?_⟩
      · rw [List.length_map, md10.n.1, hns, sizeLine_eq]
        omega
      · refine ⟨as ++ [a], ns ++ [⟨wd, z, tg⟩], _, _, _, _, rfl, ⟨md10.b.new hl0, md10.f.put hpl, by rw [upd_same, List.map_append]; rfl, by rw [List.length_append, List.length_append, md10.n.1]; rfl, fun j b' n' hj hm' => ?_⟩, by rw [List.length_append, hns]; rfl, fun n' hn' => ?_⟩
        · have hbut : But l (upd (upd H9 t1 (.tup (tg.map tgV))) a (.tup [.str wd, .str z, .ref t1])) (upd (upd (upd H9 t1 (.tup (tg.map tgV))) a (.tup [.str wd, .str z, .ref t1])) l (.lst (as.map V.ref ++ [.ref a]))) := (But.refl _ _).put
          by_cases hj' : j < as.length
          · rw [List.getElem?_append_left hj'] at hj
            rw [List.getElem?_append_left (by rw [← md10.n.1]; exact hj')] at hm'
            exact (md10.n.2 j b' n' hj hm').but hbut ⟨_, md10.l⟩
          · have ej : j = as.length := by
              have := (List.getElem?_eq_some_iff.mp hj).1
              rw [List.length_append, List.length_singleton] at this
              omega
            subst ej
            rw [List.getElem?_append_right (Nat.le_refl _), Nat.sub_self] at hj
            rw [md10.n.1, List.getElem?_append_right (Nat.le_refl _), Nat.sub_self] at hm'
            obtain rfl : a = b' := by simpa using hj
            obtain rfl : (⟨wd, z, tg⟩ : Nd) = n' := by simpa using hm'
            exact hna.but hbut ⟨_, md10.l⟩
        · rcases List.mem_append.mp hn' with h | h
          · exact hgood n' h
          · rw [List.mem_singleton.mp h]
            exact ⟨hwd, hnames z hz, hgt⟩
    · rintro σ H2 ⟨as, ns, v5, v6, v7, v8, rfl, md, hns, hgood⟩
      refine ⟨_, rfl, l, _, rfl, .inl ⟨SqL.of md.l, fun t ht => ?_⟩⟩
      have ht0 := md.b.free md.f ht
      refine k t ns _ (md.b.new ht0) (md.f.put (hp.ne ht0)) ht0 ⟨as, upd_same, md.n.same (same_new ht)⟩ ⟨by omega, fun e => ?_, ?_⟩
      · rw [e] at hns
        have : 0 = 1 + m := hns
        omega
      · rw [hns]
        exact hgood
end
end Vf

set_option maxRecDepth 100000
set_option maxHeartbeats 8000000
namespace Vf
open PySem PySem.Spec PyProof.Rows L2
/-- what the text says of the class, for == and isinstance -/
structure TxtE (K : PySem.W.Frag) (C : Addr) : Prop where
  tyC : PySem.W.typeIn K (.ref C) = some (.type "type")
  clC : PySem.W.isClsIn K C = true
  ha : PySem.W.findIn K (.ref C) "__class__" = some (some (.builtin "object.__class__"))
  hn : PySem.W.specialIn K (.builtin "object.__class__") "__get__" = some (some (.builtin "getset_descriptor.__get__"))
  tk : PySem.W.takesIn K (.builtin "object.__class__") = some true
  obj : PySem.W.mroIn K C (.type "object") = some true
  sS : PySem.W.subIn K (.type "str") (.ref C) = some false
  sN : PySem.W.subIn K (.type "NoneType") (.ref C) = some false
  sI : PySem.W.subIn K (.type "int") (.ref C) = some false
  sT : PySem.W.subIn K (.type "tuple") (.ref C) = some false
  sL : PySem.W.subIn K (.type "list") (.ref C) = some false
theorem kit_self {K : PySem.W.Frag} {C : Addr} : PySem.W.kitOne K (.ref C) (.ref C) = some true := by
  unfold PySem.W.kitOne
  rw [if_pos (by simp)]
theorem kit_other {K : PySem.W.Frag} {C : Addr} {n : String} (T : TxtE K C) (h : PySem.W.subIn K (.type n) (.ref C) = some false) : PySem.W.kitOne K (.type n) (.ref C) = some false := by
  unfold PySem.W.kitOne
  rw [if_neg (by simp)]
  unfold PySem.W.kitCls
  dsimp only
  rw [if_pos ?_]
  · exact h
  · rw [T.tyC, show (PySem.W.clsIn K C).isSome = true from T.clC]
    rfl
theorem nf_self {K : PySem.W.Frag} {C : Addr} : PySem.W.notFirst K C (.ref C) = true := by simp [PySem.W.notFirst]
theorem nf_other {K : PySem.W.Frag} {C : Addr} {t : Value} (h : PySem.W.subIn K t (.ref C) = some false) : PySem.W.notFirst K C t = true := by simp [PySem.W.notFirst, h]
theorem ty_prog {K : PySem.W.Frag} {mg : Str → Option Value} {C : Addr} {H : Hp} {p : Addr} {z : Str} {ns : List Nd} (T : TxtE K C) (TP : TxtP K mg C) (h : ProgAt C H p z ns) : TyX K H (.ref p) (.ref C) := by
  obtain ⟨dx, t, h1, _⟩ := h
  exact .base (.ins h1 TP.cl T.ha T.hn T.tk T.obj)
section
variable {P : Program} {w : World} {K : PySem.W.Frag} {mg : Str → Option Value} {base : Heap}
def sp_Program_str (C : Addr) : Sp := fun vs H Q _ => ∃ (p : Addr) (z : Str) (ns : List Nd), vs = [.ref p] ∧ ProgAt C H p z ns ∧ Q (.str z) H
theorem ok_Program_str {f C : Addr} {fd : FuncData} (F : Fun K "__str__" "Program.__str__" s_Program_str f fd) (T0 : Txt0 K mg) (TP : TxtP K mg C) : FnOk P w K mg base CX0 1 f fd p_Program_str (sp_Program_str C) := by
  refine F.ok sc_Program_str (fun vs H Q E h => ?_) (fun cdv A outer s H vs Q E hr h => ?_)
  · obtain ⟨p, z, ns, rfl, _⟩ := h
    rfl
  · obtain ⟨p, z, ns, rfl, ⟨dx, t, hp, _⟩, k⟩ := h
    refine ⟨_, pss_one (ps_ret (pe_callTy SkE.call_str_str (by rfl) T0.str boot_str (pa_cons (pe_fld (pv 0) rfl) pa_nil))), ?_⟩
    exact ⟨_, rfl, p, C, dx, _, _, rfl, hp, TP.cl, TP.nT, pflds_text _ _, z, rfl, k⟩
def sp_Program_eq (K : PySem.W.Frag) (C : Addr) : Sp := fun vs H Q _ => ∃ (p : Addr) (z : Str) (ns : List Nd) (y : V), vs = [.ref p, y] ∧ ProgAt C H p z ns ∧
  ((∃ (q : Addr) (z2 : Str) (ns2 : List Nd), y = .ref q ∧ ProgAt C H q z2 ns2 ∧ Q (.bl (decide (z = z2))) H) ∨ ∃ n, TyX K H y (.type n) ∧ PySem.W.subIn K (.type n) (.ref C) = some false ∧ Q (.bl false) H)
theorem ok_Program_eq {f C : Addr} {fd : FuncData} (F : Fun K "__eq__" "Program.__eq__" s_Program_eq f fd) (T0 : Txt0 K mg) (TP : TxtP K mg C) (TE : TxtE K C) : FnOk P w K mg base CX0 1 f fd p_Program_eq (sp_Program_eq K C) := by
  refine F.ok sc_Program_eq (fun vs H Q E h => ?_) (fun cdv A outer s H vs Q E hr h => ?_)
  · obtain ⟨p, z, ns, y, rfl, _⟩ := h
    rfl
  · obtain ⟨p, z, ns, y, rfl, ⟨dx, t, hp, hn⟩, k⟩ := h
    refine ⟨_, pss_one (ps_ret (pe_and (pe_callB call_isi (by rfl) T0.isinstance boot_isinstance (pa_cons (pv 1) (pa_cons (pe_glob (v := .ref C) rfl TP.mgC rfl) pa_nil)))
      (pe_one (pe_cmpR op_eq (pe_fld (pv 0) rfl) (pe_fld (pv 1) rfl) (nomark _))))), ?_⟩
    rcases k with ⟨q, z2, ns2, rfl, pr2, k⟩ | ⟨n, ty, sub, k⟩
    · obtain ⟨dx2, t2, hq, _⟩ := id pr2
      refine ⟨_, rfl, _, _, _, _, true, rfl, .own C, ty_prog TE TP pr2, kit_self, true, rfl, iteT ?_⟩
      refine ⟨_, rfl, p, C, dx, _, _, rfl, hp, TP.cl, TP.nT, pflds_text _ _, _, rfl, q, C, dx2, _, _, rfl, hq, TP.cl, TP.nT, pflds_text _ _, rfl, ?_⟩
      have e : decide (V.str z = V.str z2) = decide (z = z2) := decide_eq_decide.mpr ⟨V.str.inj, fun e => by rw [e]⟩
      rw [← e] at k
      exact k
    · exact ⟨_, rfl, _, _, _, _, false, rfl, .own C, ty, kit_other TE sub, false, rfl, iteF k⟩
end
end Vf

set_option maxRecDepth 100000
set_option maxHeartbeats 8000000
namespace Vf
open PySem PySem.Spec PyProof.Rows L2
theorem SqL.same {K : PySem.W.Frag} {H H' : Hp} {a : Addr} {xs : List V} (h : SqL K H a xs) (s : Same H H') : SqL K H' a xs := by
  rcases h with (h | ⟨o, h⟩) | h
  · exact .inl (.inl (s _ _ h))
  · exact .inl (.inr ⟨o, s _ _ h⟩)
  · exact .inr h
theorem GoodTg.mono {a b : Nat} {tg : List (Option Nat)} (g : GoodTg a tg) (h : a ≤ b) : GoodTg b tg := by
  obtain ⟨ne, ks, e, e1, hr, hk⟩ := g
  exact ⟨ne, ks, e, e1, hr, fun k hk' => Nat.lt_of_lt_of_le (hk k hk') h⟩
theorem GoodNd.mono {a b : Nat} {n : Nd} (g : GoodNd a n) (h : a ≤ b) : GoodNd b n := ⟨g.word, g.cell, g.tg.mono h⟩
theorem fits_good {rs : List Str} {ns : List Nd} (h : Rows rs ns) (g : Good ns) : Fits (Txt.join sNl rs) := by
  have key : ∀ r ∈ rs, r.length ≤ 600 ∧ (Txt.split r sSp).length ≤ 4000 := by
    have ga := g.all
    have h8 := g.few
    generalize hm : ns.length = many at ga
    have hmany : many ≤ 8 := by omega
    clear hm g h8
    induction h with
    | nil => exact fun _ hr => nomatch hr
    | @cons n rs ns f _ ih =>
      intro r hr
      rcases List.mem_cons.mp hr with rfl | hr
      · have gn := ga n List.mem_cons_self
        refine ⟨rowS_le gn (by omega) f, ?_⟩
        rw [split_row gn f]
        have := rowW_len gn f
        omega
      · exact ih (fun y hy => ga y (List.mem_cons_of_mem _ hy)) r hr
  refine ⟨?_, fun r hr => ?_⟩
  · have := join_le (y := sNl) fun r hr => (key r hr).1
    have e : sNl.length = 1 := by decide +kernel
    rw [e, h.len] at this
    have := g.few
    omega
  · rw [split_rows h g.all g.some] at hr
    exact (key r hr).2
/-- Program.parse of a text that is right -/
theorem parse_goes {C : Addr} {rs : List Str} {ns : List Nd} {H : Hp} {Q : VK} {E : XK} (h : Rows rs ns) (g : Good ns) (k : ∀ p H', Same H H' → H p = none → ProgAt C H' p (Txt.join sNl rs) ns → Q (.ref p) H') : sp_parse C ([.str (Txt.join sNl rs)] ++ []) H Q E :=
  ⟨_, ns, rfl, fits_good h g, parse_good h g.some g.few g.all, k⟩
def ndD (n : Nd) : PyData := .tuple [.str n.word, .str n.cell, .tuple (n.tg.map tgD)]
def nodesD (ns : List Nd) : PyData := .tuple (ns.map ndD)
theorem ok_str {z : Str} (h2 : ∀ c ∈ TL.tl z, c < 1114112) : PyData.strOk z = true := by
  unfold PyData.strOk
  rw [← Array.all_toList, List.all_eq_true]
  intro c hc
  exact decide_eq_true (h2 c hc)
theorem ok_name {z : Str} (h : isNameT z = true) : PyData.strOk z = true := ok_str fun c hc => by
  have := name_signs h c hc
  omega
theorem ok_word {z : Str} (h : z = sRead ∨ z = sWrite) : PyData.strOk z = true := by
  rcases h with rfl | rfl <;> decide +kernel
theorem plain_nd {many : Nat} {n : Nd} (g : GoodNd many n) : plainD (ndD n) = true := by
  simp only [ndD, plainD, plainAll, ok_word g.word, ok_name g.cell, plain_tg, Bool.and_self]
theorem plain_nodes {many : Nat} : ∀ {ns : List Nd}, (∀ n ∈ ns, GoodNd many n) → plainAll (ns.map ndD) = true
  | [], _ => rfl
  | n :: ns, g => by
    simp only [List.map_cons, plainAll, plain_nd (g n List.mem_cons_self), plain_nodes fun z hz => g z (List.mem_cons_of_mem _ hz), Bool.and_self]
theorem depth_nd (n : Nd) : (ndD n).depth ≤ 2 := by
  simp only [ndD, PyData.depth, PyData.depthAll, depth_tg]
  decide
theorem depth_nodes : ∀ ns : List Nd, PyData.depthAll (ns.map ndD) ≤ 2
  | [] => by simp [PyData.depthAll]
  | n :: ns => by
    simp only [List.map_cons, PyData.depthAll]
    exact Nat.max_le.mpr ⟨depth_nd n, depth_nodes ns⟩
theorem ndD_inj {a b : Nd} (h : ndD a = ndD b) : a = b := by
  obtain ⟨w, c, t⟩ := a
  obtain ⟨w', c', t'⟩ := b
  simp only [ndD, PyData.tuple.injEq, List.cons.injEq, PyData.str.injEq, and_true] at h
  obtain ⟨rfl, rfl, h⟩ := h
  rw [map_tgD_inj h]
theorem map_ndD_inj : ∀ {a b : List Nd}, a.map ndD = b.map ndD → a = b
  | [], [], _ => rfl
  | [], _ :: _, h => by cases h
  | _ :: _, [], h => by cases h
  | x :: a, y :: b, h => by
    rw [List.map_cons, List.map_cons] at h
    injection h with h1 h2
    rw [ndD_inj h1, map_ndD_inj h2]
theorem eqv_nodes {ma mb : Nat} {a b : List Nd} (ga : ∀ n ∈ a, GoodNd ma n) (gb : ∀ n ∈ b, GoodNd mb n) : PyData.eqv (nodesD a) (nodesD b) = decide (a = b) :=
  eqv_dec (by simp only [nodesD, plainD, plain_nodes ga]) (by simp only [nodesD, plainD, plain_nodes gb]) ⟨fun h => map_ndD_inj (PyData.tuple.inj h), fun h => by rw [h]⟩
theorem shaped_nodes {many : Nat} {ns : List Nd} (g : ∀ n ∈ ns, GoodNd many n) : SeqAt.shaped (nodesD ns) = true :=
  shaped_of (by simp only [nodesD, plainD, plain_nodes g]) (by have := depth_nodes ns; simp only [nodesD, PyData.depth]; omega)
theorem eqv_nd {ma mb : Nat} {a b : Nd} (ga : GoodNd ma a) (gb : GoodNd mb b) : PyData.eqv (ndD a) (ndD b) = decide (a = b) :=
  eqv_dec (plain_nd ga) (plain_nd gb) ⟨ndD_inj, fun h => by rw [h]⟩
theorem shaped_nd {many : Nat} {n : Nd} (g : GoodNd many n) : SeqAt.shaped (ndD n) = true :=
  shaped_of (plain_nd g) (by have := depth_nd n; omega)
theorem dp_nd {K : PySem.W.Frag} {H : Hp} {a : Addr} {n : Nd} (h : NodeAt H a n) : Dp K H (.ref a) (ndD n) := by
  obtain ⟨t, h1, h2⟩ := h
  exact .tup (SqT.of h1) (.cons (.str _) (.cons (.str _) (.cons (.tup (SqT.of h2) (dp_tg _)) .nil)))
theorem dp_all {K : PySem.W.Frag} {H : Hp} : ∀ {as : List Addr} {ns : List Nd}, NodesIn H as ns → DpAll K H (as.map V.ref) (ns.map ndD)
  | [], [], _ => .nil
  | [], _ :: _, h => by cases h.1
  | _ :: _, [], h => by cases h.1
  | a :: as, n :: ns, h => .cons (dp_nd (h.2 0 a n rfl rfl)) (dp_all ⟨by simpa using h.1, fun i b m h1 h2 => h.2 (i + 1) b m h1 h2⟩)
theorem dp_nodes {K : PySem.W.Frag} {H : Hp} {t : Addr} {ns : List Nd} (h : NodesAt H t ns) : Dp K H (.ref t) (nodesD ns) := by
  obtain ⟨as, h1, h2⟩ := h
  exact .tup (SqT.of h1) (dp_all h2)
theorem pgood {rs : List Str} {ns : List Nd} (h : Rows rs ns) (g : Good ns) : parseT (Txt.join sNl rs) = some ns := parse_good h g.some g.few g.all
theorem FeedAt.lst {H : Hp} {p : Addr} (h : FeedAt H p) : ∃ xs, H p = some (.lst xs) := let ⟨_, _, e, _⟩ := h; ⟨_, e⟩
theorem NodesAt.but {p : Addr} {H H' : Hp} {t : Addr} {ns : List Nd} (h : NodesAt H t ns) (b : But p H H') (hp : ∃ xs, H p = some (.lst xs)) : NodesAt H' t ns := by
  obtain ⟨as, h1, h2, h3⟩ := h
  obtain ⟨xs, e⟩ := hp
  exact ⟨as, b _ _ (ne_of h1 e (by intro z; cases z)) h1, h2, fun i a n ha hn => (h3 i a n ha hn).but b ⟨xs, e⟩⟩
theorem ProgAt.but {C p : Addr} {H H' : Hp} {q : Addr} {z : Str} {ns : List Nd} (h : ProgAt C H q z ns) (b : But p H H') (hp : ∃ xs, H p = some (.lst xs)) : ProgAt C H' q z ns := by
  obtain ⟨dx, t, h1, h2⟩ := h
  obtain ⟨xs, e⟩ := hp
  exact ⟨dx, t, b _ _ (ne_of h1 e (by intro z; cases z)) h1, h2.but b ⟨xs, e⟩⟩
theorem words_ok {many : Nat} {n : Nd} (g : GoodNd many n) (hm : many ≤ 60) : ((rowW false n).map (·.length)).sum + (rowW false n).length * sSp.length ≤ 16777216 := by
  have h1 := sum_le (part_le g hm false)
  have h2 := rowW_len g false
  have h3 : sSp.length = 1 := by decide +kernel
  rw [h3]
  omega
theorem rows_ok {ns : List Nd} (g : Good ns) (f : Bool) : ((ns.map (rowS f)).map (·.length)).sum + (ns.map (rowS f)).length * sNl.length ≤ 16777216 := by
  have hz : ∀ z ∈ ns.map (rowS f), z.length ≤ 600 := fun z hz => by
    obtain ⟨n, hn, rfl⟩ := List.mem_map.mp hz
    exact rowS_le (g.all n hn) (by have := g.few; omega) f
  have h1 := sum_le hz
  have h8 := g.few
  rw [List.length_map] at h1 ⊢
  have h3 : sNl.length = 1 := by decide +kernel
  rw [h3]
  omega
def tJn (K : PySem.W.Frag) (to te : TE) : TE := tM1 (fun x xs H Q => ∃ a p, ∃ ys : List Str, x = .str a ∧ xs = [.ref p] ∧ (SqL K H p (ys.map V.str) ∨ SqT K H p (ys.map V.str)) ∧ (ys.map (·.length)).sum + ys.length * a.length ≤ 16777216 ∧ Q (.str (Txt.join a ys)) H) to te
theorem pe_joinK {X : Cx} (K : PySem.W.Frag) {o e : Expr} {to te : TE} {apos pos : Pos} (hK : X.K = K) (ho : PE X o to) (he : PE X e te) (hs : starEach [e] X.env = [(false, eval e X.env)] := by rfl) (hbase : attributeBase o "join" X.env (eval o X.env) = eval o X.env := by rfl) (hline : (apos.endLine == pos.line) = true := by rfl) :
    PE X (.Call (.Attribute o "join" apos) [e] [] pos) (tJn K to te) := by
  subst hK
  exact pe_join ho he hs hbase hline
theorem pe_fldK {X : Cx} (K : PySem.W.Frag) {e : Expr} {ta : TE} {f : Str} {pos : Pos} (hK : X.K = K) (he : PE X e ta) (hb : attributeBase e f X.env (eval e X.env) = eval e X.env) : PE X (.Attribute e f pos) (tFld K ta f) := by
  subst hK
  exact pe_fld he hb
section
variable {J : It} {n : Nat} {G : Hp → Prop} {Y : Nat → Hp → V → Hp → Prop}
/-- [.. for .. in ..], each value told by Pr -/
theorem lc_ad {α : Type} (l : List α) (w : Walk J l.length G Y) {g : TG} {te : TE} {vs : List Nat} {σ : L2.St} {H1 : Hp} {D : Addr} {Qd : Hp → Prop} (hD : H1 D = none) (Pr : α → V → Hp → Prop) (hn : l.length < 1000000) (hG : ∀ H, Same H1 H → G H)
    (hs : ∀ i a x H H', l[i]? = some a → Same H1 H → (∃ acc, H D = some (.lst acc)) → Y i H x H' → ∀ R : V → Hp → Prop, (∀ v H4, Same H H4 → (∀ H5, But D H4 H5 → Pr a v H5) → R v H4) →
      g x (wipe σ vs) H' fun σ2 H2 => wipe σ2 vs = wipe σ vs ∧ te σ2 H2 R)
    (hd : ∀ H (xs : List V), Same H1 H → H D = some (.lst xs) → xs.length = l.length → (∀ (i : Nat) (a : α) (v : V), l[i]? = some a → xs[i]? = some v → Pr a v H) → Qd H) :
    ∃ W : Nat → Nat → Hp → Prop, (∃ m, W 0 m (upd H1 D (.lst []))) ∧ ∀ i m H, W i m H →
      (J.stop i H ∧ Qd H) ∨ (J.go i H ∧ ∃ Nx : Hp → Prop, (∀ H', Nx H' → ∃ m', m' < m ∧ W (i + 1) m' H') ∧ ∀ x H', J.yld i H x H' → g x (wipe σ vs) H' fun σ2 H2 => wipe σ2 vs = wipe σ vs ∧ tYes σ2 H2 fun b H3 =>
        if b = true then te σ2 H3 fun y H4 => ∃ acc, H4 D = some (.lst acc) ∧ acc.length < sizeLine ∧ Nx (upd H4 D (.lst (acc ++ [y]))) else Nx H3) := by
  refine ⟨fun i m H => m = l.length - i ∧ i ≤ l.length ∧ Same H1 H ∧ ∃ xs : List V, H D = some (.lst xs) ∧ xs.length = i ∧ ∀ (j : Nat) (a : α) (v : V), l[j]? = some a → xs[j]? = some v → ∀ H5, But D H H5 → Pr a v H5, ⟨l.length, by simp, Nat.zero_le _, same_new hD, [], upd_same, rfl, fun j a v _ h => by simp at h⟩, ?_⟩
  rintro i m H ⟨rfl, hi, s, xs, hH, hxs, hp⟩
  by_cases hlt : i < l.length
  · have ha : l[i]? = some l[i] := List.getElem?_eq_getElem hlt
    refine .inr ⟨w.goes i H hlt (hG H s), fun H' => Same H1 H' ∧ ∃ xs : List V, H' D = some (.lst xs) ∧ xs.length = i + 1 ∧ ∀ (j : Nat) (a : α) (v : V), l[j]? = some a → xs[j]? = some v → ∀ H5, But D H' H5 → Pr a v H5, fun H' p => ⟨l.length - (i + 1), by omega, rfl, hlt, p⟩, fun x H' y => ?_⟩
    have q := hs i _ x H H' ha s ⟨xs, hH⟩ (w.yields i H x H' hlt (hG H s) y) (fun y H4 => ∃ acc, H4 D = some (.lst acc) ∧ acc.length < sizeLine ∧ Same H1 (upd H4 D (.lst (acc ++ [y]))) ∧ ∃ xs : List V, (upd H4 D (.lst (acc ++ [y]))) D = some (.lst xs) ∧ xs.length = i + 1 ∧ ∀ (j : Nat) (a : α) (v : V), l[j]? = some a → xs[j]? = some v → ∀ H5, But D (upd H4 D (.lst (acc ++ [y]))) H5 → Pr a v H5) ?_
    · exact q
    intro v H4 s4 hv
    have e4 := s4 D _ hH
    have b4 : But D H4 (upd H4 D (.lst (xs ++ [v]))) := (But.refl D H4).put
    refine ⟨xs, e4, by rw [sizeLine_eq]; omega, same_upd (s.trans s4) hD, xs ++ [v], upd_same, by rw [List.length_append, hxs]; rfl, fun j a u hj hu H5 b5 => ?_⟩
    by_cases hj' : j < xs.length
    · rw [List.getElem?_append_left hj'] at hu
      exact hp j a u hj hu H5 ((Same.but s4).trans (b4.trans b5))
    · have ej : j = xs.length := by
        have := (List.getElem?_eq_some_iff.mp hu).1
        rw [List.length_append, List.length_singleton] at this
        omega
      subst ej
      rw [List.getElem?_append_right (Nat.le_refl _), Nat.sub_self] at hu
      obtain rfl : v = u := by simpa using hu
      rw [hxs, ha] at hj
      obtain rfl : l[i] = a := Option.some.inj hj
      exact hv H5 (b4.trans b5)
  · have e : i = l.length := by omega
    subst e
    exact .inl ⟨w.stops H (hG H s), hd H xs s hH hxs fun j a v hj hv => hp j a v hj hv H (But.refl D H)⟩
end
end Vf

set_option maxRecDepth 100000
set_option maxHeartbeats 8000000
namespace Vf
open PySem PySem.Spec PyProof.Rows L2
theorem sh_tg {many : Nat} (hm : many ≤ 60) : ∀ {tg : List (Option Nat)}, (∀ k, some k ∈ tg → k < many) → shAll (tg.map tgD) = true
  | [], _ => rfl
  | none :: r, h => by
    simp only [List.map_cons, tgD, shAll, shD, Bool.true_and]
    exact sh_tg hm fun k hk => h k (List.mem_cons_of_mem _ hk)
  | some j :: r, h => by
    have hj := h j List.mem_cons_self
    simp only [List.map_cons, tgD, shAll, shD]
    rw [decide_eq_true (p := (0 : Int) ≤ (j : Int)) (by omega), decide_eq_true (p := (j : Int) < 1000000) (by omega), sh_tg hm fun k hk => h k (List.mem_cons_of_mem _ hk)]
    rfl
theorem wt_tg {many : Nat} (hm : many ≤ 60) : ∀ {tg : List (Option Nat)}, (∀ k, some k ∈ tg → k < many) → PyData.weightAll (tg.map tgD) ≤ 8 * tg.length
  | [], _ => by simp [PyData.weightAll]
  | none :: r, h => by
    simp only [List.map_cons, tgD, PyData.weightAll, PyData.weight, List.length_cons]
    have := wt_tg hm (tg := r) fun k hk => h k (List.mem_cons_of_mem _ hk)
    omega
  | some j :: r, h => by
    simp only [List.map_cons, tgD, PyData.weightAll, PyData.weight, List.length_cons]
    have h1 := wt_tg hm (tg := r) fun k hk => h k (List.mem_cons_of_mem _ hk)
    have hj := h j List.mem_cons_self
    have h2 : (if ((j : Int) == 0) = true then 0 else (j : Int).natAbs.log2 + 1) ≤ 7 := by
      split
      · omega
      · have h0 : j ≠ 0 := fun z => by simp_all
        have : j.log2 < 6 := (Nat.log2_lt h0).mpr (by omega)
        show j.log2 + 1 ≤ 7
        omega
    omega
theorem sh_nodes {many : Nat} (hm : many ≤ 60) : ∀ {ns : List Nd}, (∀ n ∈ ns, GoodNd many n) → shAll (ns.map ndD) = true
  | [], _ => rfl
  | n :: r, g => by
    have gn := g n List.mem_cons_self
    simp only [List.map_cons, ndD, shAll, shD, ok_word gn.word, ok_name gn.cell, sh_tg hm fun k hk => gn.tg.lt hk, Bool.and_self, Bool.true_and]
    exact sh_nodes hm fun z hz => g z (List.mem_cons_of_mem _ hz)
theorem wt_nodes {many : Nat} (hm : many ≤ 60) : ∀ {ns : List Nd}, (∀ n ∈ ns, GoodNd many n) → PyData.weightAll (ns.map ndD) ≤ 600 * ns.length
  | [], _ => by simp [PyData.weightAll]
  | n :: r, g => by
    have gn := g n List.mem_cons_self
    have h1 := wt_nodes hm (ns := r) fun z hz => g z (List.mem_cons_of_mem _ hz)
    have h2 := wt_tg hm (tg := n.tg) fun k hk => gn.tg.lt hk
    have h3 := gn.tg.len
    have h4 := part_le gn hm true n.word (by unfold rowW; rw [if_neg (by rintro ⟨h, _⟩; cases h)]; simp)
    have h5 := (name_len gn.cell).2
    have e4 : n.word.cps.size = n.word.length := rfl
    have e5 : n.cell.cps.size = n.cell.length := rfl
    simp only [List.map_cons, ndD, PyData.weightAll, PyData.weight, List.length_cons, e4, e5]
    omega
theorem show_nodes {ns : List Nd} (g : Good ns) : (nodesD ns).showable = true ∧ (nodesD ns).hasDict = false ∧ (nodesD ns).depth ≤ 64 ∧ (nodesD ns).shown.length ≤ sizeLine := by
  have few := g.few
  have sh : shD (nodesD ns) = true := by
    simp only [nodesD, shD]
    exact sh_nodes (by omega) g.all
  obtain ⟨h1, h2, _⟩ := sh_show _ sh
  refine ⟨h1, h2, ?_, shown_fits sh ?_⟩
  · have := depth_nodes ns
    simp only [nodesD, PyData.depth]
    omega
  · have := wt_nodes (by omega) g.all
    simp only [nodesD, PyData.weight]
    omega
def sZz : Str := "write zz"
def zzN : Nd := ⟨sWrite, "zz", [none]⟩
theorem zz_text : Txt.join sNl ([zzN].map (rowS false)) = sZz := by
  rw [List.map_singleton, show Txt.join sNl [rowS false zzN] = rowS false zzN from by rw [TL.join_eq]; rfl]
  refine tl_inj ?_
  unfold rowS rowW
  rw [if_pos ⟨rfl, rfl⟩, TL.join_eq, TL.tl_join]
  decide +kernel
theorem good_zz : Good [zzN] := ⟨by show 1 ≤ 8; decide, by simp, fun n hn => by
  rw [List.mem_singleton.mp hn]
  exact ⟨.inr rfl, by decide +kernel, by simp [zzN], [], true, rfl, rfl, fun k hk => by cases hk⟩⟩
section
variable {P : Program} {w : World} {K : PySem.W.Frag} {mg : Str → Option Value} {base : Heap}
theorem pflds_parse (t : Addr) (z : Str) : (pflds t z).lookup ("parse" : Str) = none := by
  unfold pflds
  have e1 : (("parse" : Str) == ("nodes" : Str)) = false := by decide +kernel
  have e2 : (("parse" : Str) == ("_text" : Str)) = false := by decide +kernel
  rw [List.lookup_cons, e1]
  simp only [List.lookup_cons, e2, List.lookup_nil]
def sp_right : Sp := fun vs H Q _ => ∃ (t : Addr) (rs : List Str) (ns : List Nd), vs = [.str (Txt.join sNl rs), .ref t] ∧ Rows rs ns ∧ Good ns ∧ NodesAt H t ns ∧ ∀ H', Same H H' → Q (.bl true) H'
theorem ok_right {f C gp pp fS fE : Addr} {mc : Value} {fd fdp fdS fdE : FuncData} (F : Fun K "_law_is_right" "_law_is_right" s_law_is_right f fd) (T0 : Txt0 K mg) (hrepr : mg "repr" = none) (TP : TxtP K mg C) (TE : TxtE K C)
    (RD : ClX.CRead K C mc) (SM : SMet K C mc "parse" pp gp) (SI : SInst K C "parse" pp gp) (PP : FnOk P w K mg base CX0 6 gp fdp p_Program_parse (sp_parse C)) (bP : Binds K fdp p_Program_parse [])
    (FS : FnOk P w K mg base CX0 1 fS fdS p_Program_str (sp_Program_str C)) (OS : OwnS K C fS fdS p_Program_str) (FE : FnOk P w K mg base CX0 1 fE fdE p_Program_eq (sp_Program_eq K C)) (OE : OwnC K C fE fdE p_Program_eq) :
    FnG P w K mg base CX0 7 f fd p_law_is_right sp_right := by
  refine Fun.okG F sc_law_is_right (fun vs H Q E h => ?_) (fun cdv A outer s H vs Q E hcm hr h => ?_)
  · obtain ⟨t, rs, ns, rfl, _⟩ := h
    rfl
  · obtain ⟨t, rs, ns, rfl, hrs, g, hn, k⟩ := h
    have hr3 : Room 3 _ := hr.mono (by decide)
    have hr2 : Room 2 _ := hr.mono (by decide)
    have hr1 : Room 1 _ := hr.mono (by decide)
    refine ⟨_, pss_cons (ps_set (i := 2) sc_law_is_right.nd rfl (Or.inl rfl) (pe_smeth (pe_glob (v := .ref C) rfl TP.mgC rfl) RD SM PP hr bP .nil pass0 (pa_cons (pv 0) pa_nil)))
      (pss_cons (ps_if (PW.pt (pw_or (pt_cmpR op_ne (pe_callTy (cr_strOwn (E := E0) FS OS hr3 pass0) (by rfl) T0.str boot_str (pa_cons (pv 2) pa_nil)) (pv 0) (nomark _))
          (pw_or1 (pt_cmpR op_ne (pe_callB (cr_repr hcm hr) (by rfl) hrepr boot_repr (pa_cons (pe_fld (pv 2) rfl) pa_nil)) (pe_callB (cr_repr hcm hr) (by rfl) hrepr boot_repr (pa_cons (pv 1) pa_nil)) (nomark _))))) (pss_one ps_never) pss_nil)
      (pss_cons (ps_if (PW.pt (pw_or (pt_cmpR (op_neD hr.units) (pe_fld (pe_sinst (pv 2) SI PP hr bP pass0 (pa_cons pe_str pa_nil)) rfl) (pe_tup (pa_cons (pe_tup (pa_cons pe_str (pa_cons pe_str (pa_cons (pe_tup (pa_cons pe_non pa_nil)) pa_nil)))) pa_nil)) (nomark _))
          (pw_or1 (pt_cmpR op_ne (pe_callTy (cr_strOwn (E := E0) FS OS hr3 pass0) (by rfl) T0.str boot_str (pa_cons (pe_sinst (pv 2) SI PP hr bP pass0 (pa_cons (pv 0) pa_nil)) pa_nil)) (pv 0) (nomark _))))) (pss_one ps_never) pss_nil)
      (pss_cons (ps_for PassesOwn.never rfl (pi_list (pe_lst (pa_cons (pv 0) (pa_cons pe_non (pa_cons pe_int (pa_cons (pe_fld (pv 2) rfl) (pa_cons (pe_lst (pa_cons (pv 2) pa_nil)) pa_nil))))))) (pg_name (i := 3) sc_law_is_right.nd rfl (Or.inl rfl))
        (pss_one (ps_if (PW.pt (pw_or (pt_cmpR (op_ownEq (E := E0) FE OE hr1 pass0) (pv 2) (pv 3) (nomark _)) (pw_or1 (pt_not (pt_cmpR (op_ownNe (E := E0) FE OE hr2 pass0) (pv 2) (pv 3) (nomark _)))))) (pss_one ps_never) pss_nil)))
      (pss_one (ps_ret pe_bl))))), ?_⟩
    refine ⟨rfl, _, rfl, _, ns, rfl, fits_good hrs g, pgood hrs g, fun p H2 s2 hp2 pr => ?_⟩
    obtain ⟨dx, t6, hp, hn6⟩ := id pr
    have hn2 := hn.same s2
    obtain ⟨sh, nod, dep, siz⟩ := show_nodes g
    refine ⟨_, rfl, p, dx, _, rfl, hp, p, _, ns, rfl, pr, _, rfl, _, rfl, rfl, _, rfl, ?_⟩
    rw [decide_eq_true (rfl : V.str (Txt.join sNl rs) = V.str (Txt.join sNl rs))]
    refine iteF ⟨_, rfl, p, C, dx, _, _, rfl, hp, TP.cl, TP.nN, pflds_nodes _ _, t6, nodesD ns, rfl, dp_nodes hn6, sh, nod, dep, siz, _, rfl, t, nodesD ns, rfl, dp_nodes hn2, sh, nod, dep, siz, rfl, _, rfl, ?_⟩
    rw [decide_eq_true (rfl : V.str (nodesD ns).shown = V.str (nodesD ns).shown)]
    refine iteF ?_
    -- other texts read by the same object
    have fz : Fits sZz := zz_text ▸ fits_good (rows_of false [zzN]) good_zz
    have pz : parseT sZz = some [zzN] := zz_text ▸ pgood (rows_of false [zzN]) good_zz
    refine ⟨_, rfl, p, dx, _, rfl, hp, pflds_parse _ _, sZz, [zzN], rfl, fz, pz, fun q H3 s3 hq0 prq => ?_⟩
    obtain ⟨dxq, tq, hq, hnq⟩ := prq
    refine ⟨q, C, dxq, _, _, rfl, hq, TP.cl, TP.nN, pflds_nodes _ _, (by show 1 ≤ sizeLine; decide), fun o1 ho1 => ⟨(by show 3 ≤ sizeLine; decide), fun o2 ho2 => ⟨(by show 1 ≤ sizeLine; decide), fun o3 ho3 => ?_⟩⟩⟩
    have z1 := same_new (o := .tup [.non]) ho1
    have z2 := same_new (o := .tup [.str sWrite, .str "zz", .ref o1]) ho2
    have z3 := same_new (o := .tup [.ref o2]) ho3
    have hzn : NodesAt (upd (upd (upd H3 o1 (.tup [.non])) o2 (.tup [.str sWrite, .str "zz", .ref o1])) o3 (.tup [.ref o2])) o3 [zzN] := by
      refine ⟨[o2], upd_same, rfl, fun i a n ha hn' => ?_⟩
      match i, ha, hn' with
      | 0, ha, hn' =>
        obtain rfl : o2 = a := Option.some.inj ha
        obtain rfl : zzN = n := Option.some.inj hn'
        exact ⟨o1, z3 _ _ upd_same, z3 _ _ (z2 _ _ upd_same)⟩
      | _ + 1, ha, _ => cases ha
    have z13 := (z1.trans z2).trans z3
    refine ⟨nodesD [zzN], nodesD [zzN], dp_nodes (hnq.same z13), dp_nodes hzn, shaped_nodes good_zz.all, shaped_nodes good_zz.all, _, rfl, ?_⟩
    rw [eqv_nodes good_zz.all good_zz.all, decide_eq_true (rfl : [zzN] = [zzN])]
    have s4 := s3.trans z13
    have hp4 := s4 _ _ hp
    refine iteF ⟨_, rfl, p, dx, _, rfl, hp4, pflds_parse _ _, _, rfl, _, ns, rfl, fits_good hrs g, pgood hrs g, fun q2 H5 s5 hq20 prq2 => ?_⟩
    obtain ⟨dxq2, tq2, hq2, _⟩ := id prq2
    refine ⟨q2, dxq2, _, rfl, hq2, q2, _, ns, rfl, prq2, _, rfl, _, rfl, rfl, _, rfl, ?_⟩
    rw [decide_eq_true (rfl : V.str (Txt.join sNl rs) = V.str (Txt.join sNl rs))]
    refine iteF ?_
    have s25 := s4.trans s5
    have hp5 := s25 _ _ hp
    have pr5 := pr.same s25
    obtain ⟨as, ht6, _⟩ := hn6.same s25
    refine ⟨_, rfl, _, rfl, p, C, dx, _, _, rfl, hp5, TP.cl, TP.nN, pflds_nodes _ _, _, rfl, (by show 1 ≤ sizeLine; decide), fun o4 ho4 => ⟨(by show 5 ≤ sizeLine; decide), fun o5 ho5 => ?_⟩⟩
    have y1 := same_new (o := .lst [.ref p]) ho4
    have y2 := same_new (o := .lst [.str (Txt.join sNl rs), .non, .int 0, .ref t6, .ref o4]) ho5
    generalize hH6 : upd (upd H5 o4 (.lst [.ref p])) o5 (.lst [.str (Txt.join sNl rs), .non, .int 0, .ref t6, .ref o4]) = H6
    have s56 : Same H5 H6 := hH6 ▸ y1.trans y2
    have h5 : H6 o5 = some (.lst [.str (Txt.join sNl rs), .non, .int 0, .ref t6, .ref o4]) := hH6 ▸ upd_same
    have h4 : H6 o4 = some (.lst [.ref p]) := hH6 ▸ y2 _ _ upd_same
    refine ⟨o5, rfl, ⟨_, SqL.of h5⟩, for_it (walk_list (K := K) (a := o5) (xs := [.str (Txt.join sNl rs), .non, .int 0, .ref t6, .ref o4])) (fun i σ H' => ∃ v3, σ = [some (.str (Txt.join sNl rs)), some (.ref t), some (.ref p), v3] ∧ Same H6 H')
      ⟨_, rfl, Same.refl _⟩ (fun i σ H' _ ⟨_, _, s⟩ => SqL.of (s _ _ h5)) ?_ ?_⟩
    · rintro i x σ H8 H7 hi ⟨v3, rfl, s7⟩ ⟨rfl, hx⟩
      have pr7 := (pr5.same s56).same s7
      obtain ⟨dx7, _, hp7, _⟩ := id pr7
      obtain ⟨n, ty, sub⟩ : ∃ n, TyX K H7 x (.type n) ∧ PySem.W.subIn K (.type n) (.ref C) = some false := by
        match i, hx with
        | 0, hx =>
          obtain rfl : V.str (Txt.join sNl rs) = x := Option.some.inj hx
          exact ⟨_, .base (.str _), TE.sS⟩
        | 1, hx =>
          obtain rfl : V.non = x := Option.some.inj hx
          exact ⟨_, .base .non, TE.sN⟩
        | 2, hx =>
          obtain rfl : V.int 0 = x := Option.some.inj hx
          exact ⟨_, .base (.int _), TE.sI⟩
        | 3, hx =>
          obtain rfl : V.ref t6 = x := Option.some.inj hx
          exact ⟨_, .base (.tup (s7 _ _ (s56 _ _ ht6))), TE.sT⟩
        | 4, hx =>
          obtain rfl : V.ref o4 = x := Option.some.inj hx
          exact ⟨_, .base (.lst (s7 _ _ h4)), TE.sL⟩
        | _ + 5, hx => cases hx
      refine ⟨_, rfl, _, rfl, p, dx7, _, .type n, rfl, hp7, ty, nf_other sub, p, _, ns, x, rfl, pr7, .inr ⟨n, ty, sub, false, rfl, _, rfl, iteF ?_⟩⟩
      refine ⟨_, rfl, _, rfl, p, dx7, _, .type n, rfl, hp7, ty, nf_other sub, p, _, ns, x, rfl, pr7, .inr ⟨n, ty, sub, false, rfl, _, rfl, iteF ?_⟩⟩
      exact ⟨_, rfl, s7⟩
    · rintro σ H7 ⟨v3, rfl, s7⟩
      exact k H7 (((s2.trans s25).trans s56).trans s7)
end
end Vf

set_option maxRecDepth 100000
set_option maxHeartbeats 8000000
namespace Vf
open PySem PySem.Spec PyProof.Rows L2
def sArrEnd : Str := " -> end"
theorem tl_arrow : TL.tl sArrow = [45, 62] := by decide +kernel
theorem rowS_same {n : Nd} (h : n.tg ≠ [none]) : rowS false n = rowS true n := by
  unfold rowS rowW
  rw [if_neg (fun z => h z.2), if_neg (fun z => by cases z.1)]
theorem arrow_in {many : Nat} {n : Nd} (g : GoodNd many n) (h : n.tg ≠ [none]) : Txt.contains (rowS false n) sArrow = true := by
  rw [contains_iff, ← row_full (f := false) (.inr h) g.tg.ne, TL.tl_append, TL.tl_append]
  have e : TL.tl sArr2 = TL.tl sSp ++ (TL.tl sArrow ++ TL.tl sSp) := by decide +kernel
  rw [e]
  exact ⟨TL.tl (n.word ++ sSp ++ n.cell) ++ TL.tl sSp, TL.tl sSp ++ TL.tl (Txt.join sSp (n.tg.map tgS)), by simp only [List.append_assoc]⟩
theorem arrow_out {many : Nat} {n : Nd} (g : GoodNd many n) (h : n.tg = [none]) : Txt.contains (rowS false n) sArrow = false := by
  cases e : Txt.contains (rowS false n) sArrow with
  | false => rfl
  | true =>
    obtain ⟨a, b, e2⟩ := contains_iff.mp e
    have hm : 45 ∈ TL.tl (rowS false n) := by
      rw [e2, tl_arrow]
      simp
    rw [← row_bare h, TL.tl_append, TL.tl_append] at hm
    rcases List.mem_append.mp hm with hm | hm
    · rcases List.mem_append.mp hm with hm | hm
      · rcases g.word with w | w <;> rw [w] at hm <;> revert hm <;> decide +kernel
      · rw [tl_sp] at hm
        revert hm
        decide
    · have := name_signs g.cell 45 hm
      omega
theorem row_end {n : Nd} (h : n.tg = [none]) : rowS false n ++ sArrEnd = rowS true n := by
  rw [← row_full (f := true) (.inl rfl) (by rw [h]; simp), ← row_bare h, h]
  refine tl_inj ?_
  simp only [TL.tl_append, TL.join_eq]
  have e : TL.tl sArrEnd = TL.tl sArr2 ++ TL.tl (Str.join sSp ([none].map tgS)) := by decide +kernel
  rw [e]
  simp only [List.append_assoc]
def PairAt (C : Addr) (H : Hp) (v : V) (e : Str × List Nd) : Prop := ∃ a p, v = .ref a ∧ H a = some (.tup [.str e.1, .ref p]) ∧ ProgAt C H p e.1 e.2
theorem PairAt.but {C q : Addr} {H H' : Hp} {v : V} {e : Str × List Nd} (h : PairAt C H v e) (b : But q H H') (hq : ∃ xs, H q = some (.lst xs)) : PairAt C H' v e := by
  obtain ⟨a, p, rfl, h1, h2⟩ := h
  exact ⟨a, p, rfl, b _ _ (ne_of h1 hq.choose_spec (by intro z; cases z)) h1, h2.but b hq⟩
def KeptAt (C : Addr) (H : Hp) (l : Addr) (zs : List (Str × List Nd)) : Prop := ∃ xs : List V, H l = some (.lst xs) ∧ xs.length = zs.length ∧ ∀ (i : Nat) (v : V) (e : Str × List Nd), xs[i]? = some v → zs[i]? = some e → PairAt C H v e
theorem KeptAt.but {C q l : Addr} {H H' : Hp} {zs : List (Str × List Nd)} (h : KeptAt C H l zs) (b : But q H H') (hq : ∃ xs, H q = some (.lst xs)) (hl : l ≠ q) : KeptAt C H' l zs := by
  obtain ⟨xs, h1, h2, h3⟩ := h
  exact ⟨xs, b _ _ hl h1, h2, fun i v e hv he => (h3 i v e hv he).but b hq⟩
theorem PairAt.same {C : Addr} {H H' : Hp} {v : V} {e : Str × List Nd} (h : PairAt C H v e) (s : Same H H') : PairAt C H' v e := by
  obtain ⟨a, p, rfl, h1, h2⟩ := h
  exact ⟨a, p, rfl, s _ _ h1, h2.same s⟩
theorem KeptAt.same {C l : Addr} {H H' : Hp} {zs : List (Str × List Nd)} (h : KeptAt C H l zs) (s : Same H H') : KeptAt C H' l zs := by
  obtain ⟨xs, h1, h2, h3⟩ := h
  exact ⟨xs, s _ _ h1, h2, fun i v e hv he => (h3 i v e hv he).same s⟩
/-- one more at the end -/
theorem KeptAt.more {C l : Addr} {H : Hp} {zs : List (Str × List Nd)} {xs : List V} {v : V} {e : Str × List Nd} (h : KeptAt C H l zs) (hl : H l = some (.lst xs)) (hv : PairAt C H v e) : KeptAt C (upd H l (.lst (xs ++ [v]))) l (zs ++ [e]) := by
  obtain ⟨xs', h1, h2, h3⟩ := h
  rw [hl] at h1
  obtain rfl : xs = xs' := by
    injection h1 with h1
    injection h1
  have b : But l H (upd H l (.lst (xs ++ [v]))) := (But.refl l H).put
  refine ⟨xs ++ [v], upd_same, by rw [List.length_append, List.length_append, h2]; rfl, fun i u d hu hd => ?_⟩
  by_cases hi : i < xs.length
  · rw [List.getElem?_append_left hi] at hu
    rw [List.getElem?_append_left (by rw [← h2]; exact hi)] at hd
    exact (h3 i u d hu hd).but b ⟨_, hl⟩
  · have ei : i = xs.length := by
      have := (List.getElem?_eq_some_iff.mp hu).1
      rw [List.length_append, List.length_singleton] at this
      omega
    subst ei
    rw [List.getElem?_append_right (Nat.le_refl _), Nat.sub_self] at hu
    rw [h2, List.getElem?_append_right (Nat.le_refl _), Nat.sub_self] at hd
    obtain rfl : v = u := by simpa using hu
    obtain rfl : e = d := by simpa using hd
    exact hv.but b ⟨_, hl⟩
/-- all but p and l stands -/
def Bt (p l : Addr) (H1 H : Hp) : Prop := ∀ b o, b ≠ p → b ≠ l → H1 b = some o → H b = some o
theorem Bt.refl (p l : Addr) (H : Hp) : Bt p l H H := fun _ _ _ _ e => e
theorem Bt.b1 {p l : Addr} {H1 H2 H3 : Hp} (a : Bt p l H1 H2) (b : But p H2 H3) : Bt p l H1 H3 := fun c o h1 h2 e => b c o h1 (a c o h1 h2 e)
theorem Bt.b2 {p l : Addr} {H1 H2 H3 : Hp} (a : Bt p l H1 H2) (b : But l H2 H3) : Bt p l H1 H3 := fun c o h1 h2 e => b c o h2 (a c o h1 h2 e)
theorem Bt.s {p l : Addr} {H1 H2 H3 : Hp} (a : Bt p l H1 H2) (b : Same H2 H3) : Bt p l H1 H3 := fun c o h1 h2 e => b c o (a c o h1 h2 e)
theorem FeedAt.but {p l : Addr} {H H' : Hp} (f : FeedAt H p) (b : But l H H') (h : p ≠ l) : FeedAt H' p := by
  obtain ⟨d, st, e, h1, h2⟩ := f
  exact ⟨d, st, b _ _ h e, h1, h2⟩
section
variable {P : Program} {w : World} {K : PySem.W.Frag} {mg : Str → Option Value} {base : Heap}
def sp_law (K : PySem.W.Frag) : Sp := fun vs H Q _ => ∃ (a : Addr) (ns : List Int), vs = [.ref a] ∧ SqL K H a (ns.map V.int) ∧ ns.length ≤ 63 ∧ ∀ H', Q (.bl true) H'
theorem ok_law {f C gp pp fE : Addr} {mc : Value} {fd fdp fdE : FuncData} (F : Fun K "law" "law" s_law f fd) (T0 : Txt0 K mg) (T : TxtL mg) (hmin : mg "min" = none) (TP : TxtP K mg C) (TE : TxtE K C)
    (GF : OkF P w K mg base CX0 "_law_feed" p_law_feed 1 (sp_law_feed K)) (GNm : OkF P w K mg base CX0 "_law_names" p_law_names 3 sp_law_names) (GNd : OkF P w K mg base CX0 "_law_nodes" p_law_nodes 3 (sp_law_nodes K))
    (GX : OkF P w K mg base CX0 "_law_text" p_law_text 1 sp_law_text) (GR : OkG P w K mg base CX0 "_law_is_right" p_law_is_right 7 sp_right)
    (RD : ClX.CRead K C mc) (SM : SMet K C mc "parse" pp gp) (PP : FnOk P w K mg base CX0 6 gp fdp p_Program_parse (sp_parse C)) (bP : Binds K fdp p_Program_parse [])
    (FE : FnOk P w K mg base CX0 1 fE fdE p_Program_eq (sp_Program_eq K C)) (OE : OwnC K C fE fdE p_Program_eq) :
    FnG P w K mg base CX0 8 f fd p_law (sp_law K) := by
  refine Fun.okG F sc_law (fun vs H Q E h => ?_) (fun cdv A outer s H vs Q E hcm hr h => ?_)
  · obtain ⟨a, ns, rfl, _⟩ := h
    rfl
  · obtain ⟨a, ns, rfl, hS, hn63, k⟩ := h
    have hr6 : Room 6 _ := hr.mono (by decide)
    have hr3 : Room 3 _ := hr.mono (by decide)
    have hr2 : Room 2 _ := hr.mono (by decide)
    have hr1 : Room 1 _ := hr.mono (by decide)
    refine ⟨_, pss_cons (ps_for PassesOwn.never rfl (pi_range1 (by rfl) T0.range (pa_cons (pe_callB (call_max2 rfl) (by rfl) T.max (by decide +kernel) (pa_cons pe_int (pa_cons (pe_callB (call_min2 rfl) (by rfl) hmin (by decide +kernel) (pa_cons pe_int (pa_cons (pe_callB call_len_seq (by rfl) T0.len PySem.boot_len (pa_cons (pv 0) pa_nil)) pa_nil))) pa_nil))) pa_nil)) (pg_name (i := 1) sc_law.nd rfl (Or.inl rfl))
        (pss_cons (ps_set (i := 2) sc_law.nd rfl (Or.inl rfl) (pe_fn GF hr1 rfl pass0 (pa_cons (pv 0) (pa_cons (pv 1) pa_nil))))
        (pss_cons (ps_set (i := 3) sc_law.nd rfl (Or.inl rfl) (pe_lst pa_nil))
        (pss_cons (ps_for PassesOwn.never rfl (pi_range1 (by rfl) T0.range (pa_cons pe_int pa_nil)) (pg_name (i := 4) sc_law.nd rfl (Or.inl rfl))
          (pss_cons (ps_set (i := 5) sc_law.nd rfl (Or.inl rfl) (pe_fn GNd hr3 rfl pass0 (pa_cons (pv 2) (pa_cons (pe_fn GNm hr3 rfl pass0 (pa_cons (pv 2) pa_nil)) (pa_cons pe_int pa_nil)))))
          (pss_cons (ps_set (i := 6) sc_law.nd rfl (Or.inl rfl) (pe_fn GX hr1 rfl pass0 (pa_cons (pv 5) pa_nil)))
          (pss_cons (ps_set (i := 7) sc_law.nd rfl (Or.inl rfl) (pe_split (pv 6) pe_str))
          (pss_cons (ps_set (i := 8) sc_law.nd rfl (Or.inl rfl) (pe_join pe_str (pe_lc (own := [("row", 14)]) (g := gName 14) (tt := tYes) rfl sc_law.nd (pi_list (pv 7)) (blkOk_by (N := n_law) (sc := defScope s_law) (by decide +kernel))
              (fun _ _ _ _ _ => pg_name (i := 14) sc_law.nd rfl (Or.inl rfl)) (fun _ _ _ _ _ => pts_nil)
              (fun _ _ _ _ _ => pe_ifExp (pt_cmpR op_inT pe_str (pv 14) rfl) (pv 14) (pe_op op_add_str (pv 14) pe_str)))))
          (pss_one (ps_for PassesOwn.never rfl (pi_tup (pe_tup (pa_cons (pv 6) (pa_cons (pv 8) pa_nil)))) (pg_name (i := 9) sc_law.nd rfl (Or.inl rfl))
            (pss_cons (ps_if (pt_not (pt_val (pe_fnG GR hcm hr rfl pass0 (pa_cons (pv 9) (pa_cons (pv 5) pa_nil))))) (pss_one ps_never) pss_nil)
            (pss_one (ps_expr (pe_bm PySem.F.plainAttrs_list PySem.F.slot_list_append PySem.F.type_list_append mt_append (pv 3) (pa_cons
              (pe_tup (pa_cons (pv 9) (pa_cons (pe_smeth (pe_glob (v := .ref C) rfl TP.mgC rfl) RD SM PP hr6 bP .nil pass0 (pa_cons (pv 9) pa_nil)) pa_nil))) pa_nil))))))))))))
        (pss_one (ps_for PassesOwn.never rfl (pi_list (pv 3)) (pg_tup (by rfl) (pgs_cons (pg_name (i := 10) sc_law.nd rfl (Or.inl rfl)) (pgs_cons (pg_name (i := 11) sc_law.nd rfl (Or.inl rfl)) pgs_nil)))
          (pss_one (ps_for PassesOwn.never rfl (pi_list (pv 3)) (pg_tup (by rfl) (pgs_cons (pg_name (i := 12) sc_law.nd rfl (Or.inl rfl)) (pgs_cons (pg_name (i := 13) sc_law.nd rfl (Or.inl rfl)) pgs_nil)))
            (pss_one (ps_if (PW.pt (pw_or (pt_cmpR op_ne (pe_cmpR (op_ownEq (E := E0) FE OE hr1 pass0) (pv 11) (pv 13) (nomark _)) (pe_cmpR op_eq (pv 10) (pv 12) (nomark _)) (nomark _))
              (pw_or1 (pt_cmpR op_ne (pe_cmpR (op_ownNe (E := E0) FE OE hr2 pass0) (pv 11) (pv 13) (nomark _)) (pe_cmpR op_ne (pv 10) (pv 12) (nomark _)) (nomark _))))) (pss_one ps_never) pss_nil))))))))))
      (pss_one (ps_ret pe_bl)), ?_⟩
    refine ⟨_, rfl, a, _, rfl, .inl hS, _, _, rfl, _, _, rfl, ?_⟩
    rw [List.length_map]
    obtain ⟨M, hM, hM5⟩ : ∃ M : Nat, (if (if ((ns.length : Nat) : Int) < 5 then ((ns.length : Nat) : Int) else 5) > 1 then (if ((ns.length : Nat) : Int) < 5 then ((ns.length : Nat) : Int) else 5) else 1) = (M : Int) ∧ M ≤ 5 := by
      by_cases h1 : ((ns.length : Nat) : Int) < 5
      · rw [if_pos h1]
        by_cases h2 : ((ns.length : Nat) : Int) > 1
        · rw [if_pos h2]
          exact ⟨ns.length, rfl, by omega⟩
        · rw [if_neg h2]
          exact ⟨1, rfl, by decide⟩
      · rw [if_neg h1]
        exact ⟨5, rfl, by decide⟩
    rw [hM]
    refine ⟨_, rfl, by omega, by omega, ?_⟩
    rw [Int.toNat_natCast]
    refine for_it (walk_range (lo := 0) (n := M)) (fun i σ H' => ∃ (v1 v2 v3 v4 v5 v6 v7 v8 v9 v10 v11 v12 v13 v14 : Option V), σ = [some (.ref a), v1, v2, v3, v4, v5, v6, v7, v8, v9, v10, v11, v12, v13, v14] ∧ Same H H')
      ⟨none, none, none, none, none, none, none, none, none, none, none, none, none, none, rfl, Same.refl _⟩ (fun _ _ _ _ _ => trivial) ?_ ?_
    · rintro i x σ H2 H3 hi ⟨v1, v2, v3, v4, v5, v6, v7, v8, v9, v10, v11, v12, v13, v14, rfl, s2⟩ ⟨rfl, rfl⟩
      refine ⟨_, rfl, _, rfl, a, ns, i, (by show [V.ref a, V.int (0 + (i : Int))] = _; rw [Int.zero_add]), Vf.SqL.same hS s2, by omega, fun p Hf sf hp0 ff => ?_⟩
      refine ⟨Nat.zero_le _, fun kl hkl => ?_⟩
      have hpk : p ≠ kl := ff.ne hkl
      generalize hH4 : upd Hf kl (.lst []) = H4
      have f4 : FeedAt H4 p := hH4 ▸ ff.put hpk
      have k4 : KeptAt C H4 kl [] := hH4 ▸ ⟨[], upd_same, rfl, fun j v e hv => by simp at hv⟩
      have s4 : Same H3 H4 := hH4 ▸ sf.trans (same_new hkl)
      have hkl0 : H3 kl = none := sf.free hkl
      refine ⟨5, rfl, by omega, by omega, ?_⟩
      refine for_it (walk_range (lo := 0) (n := 5)) (fun t σ H' => ∃ (v4 v5 v6 v7 v8 v9 v10 v11 v12 v13 v14 : Option V) (zs : List (Str × List Nd)), σ = [some (.ref a), some (.int (0 + (i : Int))), some (.ref p), some (.ref kl), v4, v5, v6, v7, v8, v9, v10, v11, v12, v13, v14] ∧
          Bt p kl H4 H' ∧ FeedAt H' p ∧ KeptAt C H' kl zs ∧ zs.length = 2 * t)
        ⟨v4, v5, v6, v7, v8, v9, v10, v11, v12, v13, v14, [], rfl, Bt.refl _ _ _, f4, k4, rfl⟩ (fun _ _ _ _ _ => trivial) ?_ ?_
      · clear v4 v5 v6 v7 v8 v9 v10 v11 v12 v13 v14
        rintro t x σ H5 H5' ht ⟨v4, v5, v6, v7, v8, v9, v10, v11, v12, v13, v14, zs, rfl, b5, f5, k5, hzs⟩ ⟨rfl, rfl⟩
        refine ⟨_, rfl, _, rfl, p, rfl, f5, fun l nm H6 b6 f6 hl hpl hnl hne h8 hnames => ?_⟩
        refine ⟨p, l, nm, 8, rfl, f6, hpl, SqL.of hnl, hne, h8, hnames, by decide, by decide, fun t7 nd H7 b7 f7 ht7 hnd g => ?_⟩
        refine ⟨_, rfl, t7, nd, rfl, hnd, g, fun H8 s8 => ?_⟩
        have few := g.few
        refine ⟨_, rfl, ⟨_, rfl⟩, _, sNl, rfl, rfl, (by decide +kernel), (by have := (fits_good (rows_of false nd) g).1; rw [sizeLine_eq]; omega), fun q hq => ?_⟩
        rw [split_rows (rows_of false nd) g.all g.some]
        have s9 := same_new (o := .lst ((nd.map (rowS false)).map V.str)) hq
        refine ⟨⟨_, rfl⟩, _, rfl, q, rfl, ⟨_, SqL.of upd_same⟩, fun D hD => lc_mp nd (walk_list (K := K) (a := q) (xs := (nd.map (rowS false)).map V.str) |> fun z => by rw [List.length_map, List.length_map] at z; exact z) hD
            (fun n => .str (rowS true n)) (by omega) (fun H5 s5 => SqL.of (s5 _ _ upd_same)) ?_ ?_⟩
        · rintro j n x H H' hj s ⟨rfl, hx⟩ R hR
          rw [List.getElem?_map, List.getElem?_map, hj] at hx
          obtain rfl : V.str (rowS false n) = x := Option.some.inj hx
          have gn := g.all n (List.mem_of_getElem? hj)
          refine ⟨rfl, _, rfl, sArrow, rowS false n, rfl, rfl, _, rfl, ?_⟩
          by_cases hb : n.tg = [none]
          · rw [arrow_out gn hb]
            have hl := rowS_le gn (by omega) false
            refine iteF ⟨_, rfl, _, sArrEnd, rfl, rfl, ?_, ?_⟩
            · have : sArrEnd.length = 7 := by decide +kernel
              rw [this, sizeLine_eq]
              omega
            · rw [row_end hb]
              exact hR _ (Same.refl _)
          · rw [arrow_in gn hb]
            refine iteT ⟨_, rfl, ?_⟩
            rw [rowS_same hb]
            exact hR _ (Same.refl _)
        intro H10 s10 hD10
        refine ⟨sNl, D, nd.map (rowS true), rfl, rfl, .inl (SqL.of (by rw [hD10, List.map_map]; rfl)), rows_ok g true, ?_⟩
        have s810 := s8.trans (s9.trans s10)
        have b58 := (b6.trans b7).trans (Same.but s810)
        have f10 := (f7.same s8).same (s9.trans s10)
        have k10 := k5.but b58 f5.lst hpk.symm
        have hnd10 := hnd.same s810
        have b10 := b5.b1 b58
        refine ⟨_, rfl, _, rfl, (by show 2 ≤ sizeLine; decide), fun T2 hT2 => ?_⟩
        have s11 := same_new (o := .tup [.str (Txt.join sNl (nd.map (rowS false))), .str (Txt.join sNl (nd.map (rowS true)))]) hT2
        generalize hH11 : upd H10 T2 (.tup [.str (Txt.join sNl (nd.map (rowS false))), .str (Txt.join sNl (nd.map (rowS true)))]) = H11 at s11 ⊢
        have hT11 : H11 T2 = some (.tup [.str (Txt.join sNl (nd.map (rowS false))), .str (Txt.join sNl (nd.map (rowS true)))]) := hH11 ▸ upd_same
        have k11 := k10.same s11
        refine ⟨T2, rfl, ⟨_, SqT.of hT11⟩, for_it (walk_tup (K := K) (a := T2) (xs := [.str (Txt.join sNl (nd.map (rowS false))), .str (Txt.join sNl (nd.map (rowS true)))])) (fun j σ H' => ∃ (v9' : Option V) (zs : List (Str × List Nd)), σ = [some (.ref a), some (.int (0 + (i : Int))), some (.ref p), some (.ref kl), some (.int (0 + (t : Int))), some (.ref t7), some (.str (Txt.join sNl (nd.map (rowS false)))), some (.ref q), some (.str (Txt.join sNl (nd.map (rowS true)))), v9', v10, v11, v12, v13, v14] ∧
            But kl H11 H' ∧ KeptAt C H' kl zs ∧ zs.length = 2 * t + j) ⟨v9, zs, rfl, But.refl _ _, k11, hzs⟩ (fun j σ H' _ ⟨_, _, _, b, k', _⟩ => SqT.of (b _ _ (fun z => by
              obtain ⟨xs, e, _⟩ := k11
              rw [z, e] at hT11
              cases hT11) hT11)) ?_ ?_⟩
        · rintro j x σ H12' H12 hj ⟨v9', zs', rfl, b12, k12, hzs'⟩ ⟨rfl, hx⟩
          obtain ⟨fl, rfl⟩ : ∃ fl, x = V.str (Txt.join sNl (nd.map (rowS fl))) := by
            match j, hx with
            | 0, hx => exact ⟨false, (Option.some.inj hx).symm⟩
            | 1, hx => exact ⟨true, (Option.some.inj hx).symm⟩
            | _ + 2, hx => cases hx
          have hkl11 : ∃ xs, H11 kl = some (.lst xs) := let ⟨xs, e, _⟩ := k11; ⟨xs, e⟩
          have hnd12 := (hnd10.same s11).but b12 hkl11
          refine ⟨_, rfl, _, rfl, t7, nd.map (rowS fl), nd, rfl, rows_of fl nd, g, hnd12, fun H13 s13 => ⟨_, rfl, iteF ?_⟩⟩
          obtain ⟨xs, hxs, hlx, _⟩ := id (k12.same s13)
          refine ⟨_, rfl, .inl ⟨rfl, _, SqL.of hxs⟩, _, rfl, rfl, _, rfl, _, nd, rfl, fits_good (rows_of fl nd) g, pgood (rows_of fl nd) g, fun pj H14 s14 hpj prj => ⟨(by show 2 ≤ sizeLine; decide), fun aj haj => ?_⟩⟩
          have s15 := same_new (o := .tup [.str (Txt.join sNl (nd.map (rowS fl))), .ref pj]) haj
          have s1315 := (s13.trans s14).trans s15
          have hxs' := s15 _ _ (s14 _ _ hxs)
          have hj2 : j < 2 := hj
          refine ⟨kl, xs, _, rfl, rfl, hxs', (by rw [hlx, hzs', sizeLine_eq]; omega), ?_⟩
          refine ⟨_, zs' ++ [(Txt.join sNl (nd.map (rowS fl)), nd)], rfl, (b12.trans (Same.but s1315)).put, (k12.same s1315).more hxs' ⟨aj, pj, rfl, upd_same, prj.same s15⟩, by rw [List.length_append, hzs']; rfl⟩
        · rintro σ H12 ⟨v9', zs', rfl, b12, k12, hzs'⟩
          exact ⟨_, _, _, _, _, _, _, _, _, _, _, zs', rfl, (b10.s s11).b2 b12, (f10.same s11).but b12 hpk, k12, hzs'⟩
      · rintro σ H5 ⟨v4', v5', v6', v7', v8', v9', v10', v11', v12', v13', v14', zs, rfl, b5, f5, k5, hzs⟩
        have s35 : Same H3 H5 := fun b o e => b5 b o (ne_of_none e hp0) (ne_of_none e hkl0) (s4 b o e)
        obtain ⟨xs, hxs, hlx, hall⟩ := id k5
        refine ⟨_, rfl, kl, rfl, ⟨_, SqL.of hxs⟩, for_it (walk_list (K := K) (a := kl) (xs := xs)) (fun j σ H' => ∃ (v10 v11 v12 v13 : Option V), σ = [some (.ref a), some (.int (0 + (i : Int))), some (.ref p), some (.ref kl), v4', v5', v6', v7', v8', v9', v10, v11, v12, v13, v14'] ∧ Same H5 H')
          ⟨_, _, _, _, rfl, Same.refl _⟩ (fun j σ H' _ ⟨_, _, _, _, _, s⟩ => SqL.of (s _ _ hxs)) ?_ ?_⟩
        · rintro j x σ H6' H6 hj ⟨v10, v11, v12, v13, rfl, s6⟩ ⟨rfl, hx⟩
          have hje : zs[j]? = some (zs[j]'(by omega)) := List.getElem?_eq_getElem (by omega)
          generalize zs[j]'(by omega) = e1 at hje
          obtain ⟨a1, p1, rfl, h1, pr1⟩ := hall j x e1 hx hje
          refine ⟨a1, _, rfl, SqT.of (s6 _ _ h1), rfl, _, _, rfl, _, _, rfl, rfl, _, rfl, kl, rfl, ⟨_, SqL.of (s6 _ _ hxs)⟩, for_it (walk_list (K := K) (a := kl) (xs := xs)) (fun m σ H' => ∃ (v12 v13 : Option V), σ = [some (.ref a), some (.int (0 + (i : Int))), some (.ref p), some (.ref kl), v4', v5', v6', v7', v8', v9', some (.str e1.1), some (.ref p1), v12, v13, v14'] ∧ Same H5 H')
            ⟨_, _, rfl, s6⟩ (fun m σ H' _ ⟨_, _, _, s⟩ => SqL.of (s _ _ hxs)) ?_ ?_⟩
          · rintro m x σ H7' H7 hm ⟨v12, v13, rfl, s7⟩ ⟨rfl, hx⟩
            have hme : zs[m]? = some (zs[m]'(by omega)) := List.getElem?_eq_getElem (by omega)
            generalize zs[m]'(by omega) = e2 at hme
            obtain ⟨a2, p2, rfl, h2, pr2⟩ := hall m x e2 hx hme
            have q1 := pr1.same s7
            have q2 := pr2.same s7
            obtain ⟨dx, _, hp1, _⟩ := id q1
            have ety := ty_prog TE TP q2
            refine ⟨a2, _, rfl, SqT.of (s7 _ _ h2), rfl, _, _, rfl, _, _, rfl, rfl, ?_⟩
            refine ⟨_, rfl, _, rfl, p1, dx, _, .ref C, rfl, hp1, ety, nf_self, p1, _, _, .ref p2, rfl, q1, .inl ⟨p2, _, _, rfl, q2, _, rfl, ?_⟩⟩
            refine ⟨_, rfl, _, rfl, rfl, rfl, _, rfl, ?_⟩
            have es : decide (V.str e1.1 = V.str e2.1) = decide (e1.1 = e2.1) := decide_eq_decide.mpr ⟨V.str.inj, fun z => by rw [z]⟩
            have ev : (!decide (V.bl (decide (e1.1 = e2.1) != false) = V.bl (decide (V.str e1.1 = V.str e2.1)))) = false := by
              rw [es]
              cases decide (e1.1 = e2.1) <;> rfl
            have ev2 : (!decide (V.bl (decide (e1.1 = e2.1) != true) = V.bl (!decide (V.str e1.1 = V.str e2.1)))) = false := by
              rw [es]
              cases decide (e1.1 = e2.1) <;> rfl
            rw [ev]
            refine iteF ⟨_, rfl, _, rfl, p1, dx, _, .ref C, rfl, hp1, ety, nf_self, p1, _, _, .ref p2, rfl, q1, .inl ⟨p2, _, _, rfl, q2, _, rfl, ?_⟩⟩
            refine ⟨_, rfl, _, rfl, rfl, rfl, _, rfl, ?_⟩
            rw [ev2]
            exact iteF (⟨_, _, rfl, s7⟩)
          · rintro σ H7 ⟨v12, v13, rfl, s7⟩
            exact ⟨_, _, _, _, rfl, s7⟩
        · rintro σ H6 ⟨v10, v11, v12, v13, rfl, s6⟩
          exact ⟨_, _, _, _, _, _, _, _, _, _, _, _, _, _, rfl, s2.trans (s35.trans s6)⟩
    · rintro σ H2 ⟨v1, v2, v3, v4, v5, v6, v7, v8, v9, v10, v11, v12, v13, v14, rfl, s2⟩
      exact k H2
end
end Vf

set_option maxRecDepth 100000
set_option maxHeartbeats 8000000
namespace Vf
open PySem PySem.Spec PyProof.Rows L2 ClX
theorem all_mk {l : PySem.W.OpenLaw} {w : World} {K : PySem.W.Frag} {h : Heap} {mg : Str → Option Value} {fa C pp aW : Addr} {rest : List Value} (X : K.In h) (G : h.Ns mainGlobals mg) (hfa : mg "law" = some (.ref fa))
    {f1 f2 f3 f4 f5 f6 f7 f8 f9 f10 f11 f12 f13 f14 f15 f16 : Addr} {od1 an1 od2 an2 od3 an3 od4 an4 od5 an5 od6 an6 od7 an7 od8 an8 od9 an9 od10 an10 od11 an11 od12 an12 od13 an13 od14 an14 od15 an15 od16 an16 odW : Option Addr} {sl1 sl2 sl3 sl4 sl5 sl6 sl7 sl8 sl9 sl10 sl11 sl12 sl13 sl14 sl15 sl16 slW : Array (Option Value)} {oc1 kV1 dc1 pm1 cd1 ct1 oc2 kV2 dc2 pm2 cd2 ct2 oc3 kV3 dc3 pm3 cd3 ct3 oc4 kV4 dc4 pm4 cd4 ct4 oc5 kV5 dc5 pm5 cd5 ct5 oc6 kV6 dc6 pm6 cd6 ct6 oc7 kV7 dc7 pm7 cd7 ct7 oc8 kV8 dc8 pm8 cd8 ct8 oc9 kV9 dc9 pm9 cd9 ct9 oc10 kV10 dc10 pm10 cd10 ct10 oc11 kV11 dc11 pm11 cd11 ct11 oc12 kV12 dc12 pm12 cd12 ct12 oc13 kV13 dc13 pm13 cd13 ct13 oc14 kV14 dc14 pm14 cd14 ct14 oc15 kV15 dc15 pm15 cd15 ct15 oc16 kV16 dc16 pm16 cd16 ct16 : Value} {t1 t2 t3 t4 : Tok} {xA xE : Str} {itsW : Array Value} {nW : Nat}
    (aC : PySem.W.nsIn K mainGlobals "Program" = some (some (.ref C)))
    (a1 : PySem.W.nsIn K mainGlobals "is_name" = some (some (.ref f1)))
    (l1 : K.lookup f1 = some ⟨oc1, od1, .func (PySem.W.fnOf "is_name" "is_name" (defArgs s_is_name) (defBody s_is_name) (defScope s_is_name) .none kV1 dc1 pm1 an1 cd1 ct1), sl1⟩) (c1 : PySem.W.codeIn K cd1 "is_name" = true) (k1 : PySem.W.keepIn K (.ref f1) = true)
    (a2 : PySem.W.nsIn K mainGlobals "_nodes_of" = some (some (.ref f2)))
    (l2 : K.lookup f2 = some ⟨oc2, od2, .func (PySem.W.fnOf "_nodes_of" "_nodes_of" (defArgs s_nodes_of) (defBody s_nodes_of) (defScope s_nodes_of) .none kV2 dc2 pm2 an2 cd2 ct2), sl2⟩) (c2 : PySem.W.codeIn K cd2 "_nodes_of" = true) (k2 : PySem.W.keepIn K (.ref f2) = true)
    (a3 : PySem.W.nsIn K mainGlobals "_node_of" = some (some (.ref f3)))
    (l3 : K.lookup f3 = some ⟨oc3, od3, .func (PySem.W.fnOf "_node_of" "_node_of" (defArgs s_node_of) (defBody s_node_of) (defScope s_node_of) .none kV3 dc3 pm3 an3 cd3 ct3), sl3⟩) (c3 : PySem.W.codeIn K cd3 "_node_of" = true) (k3 : PySem.W.keepIn K (.ref f3) = true)
    (a4 : PySem.W.nsIn K mainGlobals "_targets_of" = some (some (.ref f4)))
    (l4 : K.lookup f4 = some ⟨oc4, od4, .func (PySem.W.fnOf "_targets_of" "_targets_of" (defArgs s_targets_of) (defBody s_targets_of) (defScope s_targets_of) .none kV4 dc4 pm4 an4 cd4 ct4), sl4⟩) (c4 : PySem.W.codeIn K cd4 "_targets_of" = true) (k4 : PySem.W.keepIn K (.ref f4) = true)
    (a5 : PySem.W.nsIn K mainGlobals "_law_feed" = some (some (.ref f5)))
    (l5 : K.lookup f5 = some ⟨oc5, od5, .func (PySem.W.fnOf "_law_feed" "_law_feed" (defArgs s_law_feed) (defBody s_law_feed) (defScope s_law_feed) .none kV5 dc5 pm5 an5 cd5 ct5), sl5⟩) (c5 : PySem.W.codeIn K cd5 "_law_feed" = true) (k5 : PySem.W.keepIn K (.ref f5) = true)
    (a6 : PySem.W.nsIn K mainGlobals "_law_take" = some (some (.ref f6)))
    (l6 : K.lookup f6 = some ⟨oc6, od6, .func (PySem.W.fnOf "_law_take" "_law_take" (defArgs s_law_take) (defBody s_law_take) (defScope s_law_take) .none kV6 dc6 pm6 an6 cd6 ct6), sl6⟩) (c6 : PySem.W.codeIn K cd6 "_law_take" = true) (k6 : PySem.W.keepIn K (.ref f6) = true)
    (a7 : PySem.W.nsIn K mainGlobals "_law_pick" = some (some (.ref f7)))
    (l7 : K.lookup f7 = some ⟨oc7, od7, .func (PySem.W.fnOf "_law_pick" "_law_pick" (defArgs s_law_pick) (defBody s_law_pick) (defScope s_law_pick) .none kV7 dc7 pm7 an7 cd7 ct7), sl7⟩) (c7 : PySem.W.codeIn K cd7 "_law_pick" = true) (k7 : PySem.W.keepIn K (.ref f7) = true)
    (a8 : PySem.W.nsIn K mainGlobals "_law_nodes" = some (some (.ref f8)))
    (l8 : K.lookup f8 = some ⟨oc8, od8, .func (PySem.W.fnOf "_law_nodes" "_law_nodes" (defArgs s_law_nodes) (defBody s_law_nodes) (defScope s_law_nodes) .none kV8 dc8 pm8 an8 cd8 ct8), sl8⟩) (c8 : PySem.W.codeIn K cd8 "_law_nodes" = true) (k8 : PySem.W.keepIn K (.ref f8) = true)
    (a9 : PySem.W.nsIn K mainGlobals "_law_text" = some (some (.ref f9)))
    (l9 : K.lookup f9 = some ⟨oc9, od9, .func (PySem.W.fnOf "_law_text" "_law_text" (defArgs s_law_text) (defBody s_law_text) (defScope s_law_text) .none kV9 dc9 pm9 an9 cd9 ct9), sl9⟩) (c9 : PySem.W.codeIn K cd9 "_law_text" = true) (k9 : PySem.W.keepIn K (.ref f9) = true)
    (a10 : PySem.W.nsIn K mainGlobals "_law_names" = some (some (.ref f10)))
    (l10 : K.lookup f10 = some ⟨oc10, od10, .func (PySem.W.fnOf "_law_names" "_law_names" (defArgs s_law_names) (defBody s_law_names) (defScope s_law_names) .none kV10 dc10 pm10 an10 cd10 ct10), sl10⟩) (c10 : PySem.W.codeIn K cd10 "_law_names" = true) (k10 : PySem.W.keepIn K (.ref f10) = true)
    (a11 : PySem.W.nsIn K mainGlobals "_law_is_right" = some (some (.ref f11)))
    (l11 : K.lookup f11 = some ⟨oc11, od11, .func (PySem.W.fnOf "_law_is_right" "_law_is_right" (defArgs s_law_is_right) (defBody s_law_is_right) (defScope s_law_is_right) .none kV11 dc11 pm11 an11 cd11 ct11), sl11⟩) (c11 : PySem.W.codeIn K cd11 "_law_is_right" = true) (k11 : PySem.W.keepIn K (.ref f11) = true)
    (a12 : PySem.W.nsIn K mainGlobals "law" = some (some (.ref f12)))
    (l12 : K.lookup f12 = some ⟨oc12, od12, .func (PySem.W.fnOf "law" "law" (defArgs s_law) (defBody s_law) (defScope s_law) .none kV12 dc12 pm12 an12 cd12 ct12), sl12⟩) (c12 : PySem.W.codeIn K cd12 "law" = true) (k12 : PySem.W.keepIn K (.ref f12) = true)
    (a13 : PySem.W.findIn K (.ref C) "__init__" = some (some (.ref f13))) (i13 : PySem.W.isFn K (.ref f13) = true)
    (l13 : K.lookup f13 = some ⟨oc13, od13, .func (PySem.W.fnOf "__init__" "Program.__init__" (defArgs s_Program_init) (defBody s_Program_init) (defScope s_Program_init) .none kV13 dc13 pm13 an13 cd13 ct13), sl13⟩) (c13 : PySem.W.codeIn K cd13 "Program.__init__" = true) (k13 : PySem.W.keepIn K (.ref f13) = true)
    (tyC : PySem.W.typeIn K (.ref C) = some (.type "type")) (rd : PySem.W.readsIn K C (.type "type") = true) (ga : PySem.W.specialIn K (.ref C) "__getattribute__" = some (some (.builtin "type.__getattribute__")))
    (fc : PySem.W.findCls K (.ref C) (.type "type") "parse" = some (.get (.builtin "staticmethod.__get__") (.ref pp) .none (.ref C))) (a14 : PySem.W.recIn K pp "staticmethod" = some (.ref f14 :: rest))
    (l14 : K.lookup f14 = some ⟨oc14, od14, .func (PySem.W.fnOf "parse" "Program.parse" (defArgs s_Program_parse) (defBody s_Program_parse) (defScope s_Program_parse) .none kV14 dc14 pm14 an14 cd14 ct14), sl14⟩) (c14 : PySem.W.codeIn K cd14 "Program.parse" = true) (k14 : PySem.W.keepIn K (.ref f14) = true)
    (a15 : PySem.W.findIn K (.ref C) "__str__" = some (some (.ref f15))) (i15 : PySem.W.isFn K (.ref f15) = true)
    (l15 : K.lookup f15 = some ⟨oc15, od15, .func (PySem.W.fnOf "__str__" "Program.__str__" (defArgs s_Program_str) (defBody s_Program_str) (defScope s_Program_str) .none kV15 dc15 pm15 an15 cd15 ct15), sl15⟩) (c15 : PySem.W.codeIn K cd15 "Program.__str__" = true) (k15 : PySem.W.keepIn K (.ref f15) = true)
    (a16 : PySem.W.findIn K (.ref C) "__eq__" = some (some (.ref f16))) (i16 : PySem.W.isFn K (.ref f16) = true)
    (l16 : K.lookup f16 = some ⟨oc16, od16, .func (PySem.W.fnOf "__eq__" "Program.__eq__" (defArgs s_Program_eq) (defBody s_Program_eq) (defScope s_Program_eq) .none kV16 dc16 pm16 an16 cd16 ct16), sl16⟩) (c16 : PySem.W.codeIn K cd16 "Program.__eq__" = true) (k16 : PySem.W.keepIn K (.ref f16) = true)
    (pg : PySem.W.plainGet K C Str.empty = true) (hd : PySem.W.hasDictIn K C = true) (po : PySem.W.plainOver K C = true) (sa : PySem.W.findIn K (.ref C) "__setattr__" = some (some (.builtin "object.__setattr__"))) (mk : PySem.W.makesIn K C = true) (kc : PySem.W.keepIn K (.ref C) = true)
    (clC : PySem.W.isClsIn K C = true) (hac : PySem.W.findIn K (.ref C) "__class__" = some (some (.builtin "object.__class__"))) (hnc : PySem.W.specialIn K (.builtin "object.__class__") "__get__" = some (some (.builtin "getset_descriptor.__get__"))) (tkc : PySem.W.takesIn K (.builtin "object.__class__") = some true)
    (ob : PySem.W.mroIn K C (.type "object") = some true) (ne : PySem.W.findIn K (.ref C) "__ne__" = some (some (.builtin "object.__ne__"))) (sS : PySem.W.subIn K (.type "str") (.ref C) = some false) (sN : PySem.W.subIn K (.type "NoneType") (.ref C) = some false) (sI : PySem.W.subIn K (.type "int") (.ref C) = some false) (sT : PySem.W.subIn K (.type "tuple") (.ref C) = some false) (sL : PySem.W.subIn K (.type "list") (.ref C) = some false)
    (ap : PySem.W.findIn K (.ref C) "parse" = some (some (.ref pp))) (tp : PySem.W.typeIn K (.ref pp) = some (.type "staticmethod")) (gp : PySem.W.specialIn K (.ref pp) "__get__" = some (some (.builtin "staticmethod.__get__"))) (kp : PySem.W.takesIn K (.ref pp) = some false)
    (nN : PySem.W.findIn K (.ref C) "nodes" = some none) (nT : PySem.W.findIn K (.ref C) "_text" = some none)
    (cL : PySem.W.nsIn K mainGlobals "LONGEST_NAME" = some (some (.int 8 t1))) (cM : PySem.W.nsIn K mainGlobals "MOST_NODES" = some (some (.int 8 t2))) (cA : PySem.W.nsIn K mainGlobals "ARROW" = some (some (.str xA t3))) (cE : PySem.W.nsIn K mainGlobals "END" = some (some (.str xE t4)))
    (cW : PySem.W.nsIn K mainGlobals "WORDS" = some (some (.ref aW))) (lW : K.lookup aW = some ⟨.type "tuple", odW, .seq itsW nW, slW⟩)
    (z1 : PySem.W.nsIn K mainGlobals "len" = some none) (z2 : PySem.W.nsIn K mainGlobals "isinstance" = some none) (z3 : PySem.W.nsIn K mainGlobals "all" = some none) (z4 : PySem.W.nsIn K mainGlobals "str" = some none) (z5 : PySem.W.nsIn K mainGlobals "range" = some none) (z6 : PySem.W.nsIn K mainGlobals "enumerate" = some none) (z7 : PySem.W.nsIn K mainGlobals "set" = some none) (z8 : PySem.W.nsIn K mainGlobals "sorted" = some none) (z9 : PySem.W.nsIn K mainGlobals "tuple" = some none) (z10 : PySem.W.nsIn K mainGlobals "list" = some none) (z11 : PySem.W.nsIn K mainGlobals "max" = some none) (z12 : PySem.W.nsIn K mainGlobals "abs" = some none) (z13 : PySem.W.nsIn K mainGlobals "int" = some none) (z14 : PySem.W.nsIn K mainGlobals "min" = some none) (z15 : PySem.W.nsIn K mainGlobals "repr" = some none)
    (hA : xA = sArrow) (hE : xE = sEnd) (vW : Vals [V.str sRead, V.str sWrite] itsW.toList) :
    ∃ fd : FuncData, (∀ (s : Shared) (v : Value), BindsTo s fd ⟨[v], []⟩ [("script", v)]) ∧ ∀ base : Heap, K.In base → base.Ns mainGlobals mg → FnG l.prog w K mg base CX0 8 fa fd ["script"] (sp_law K) := by
  have e := hfa.symm.trans (PySem.W.mg_of X G a12)
  cases e
  subst hA hE
  have hz : itsW.size ≤ sizeLine := by
    have h2 := vW.length
    have e : itsW.toList.length = itsW.size := Array.length_toList
    rw [← e, ← h2, sizeLine_eq]
    decide
  have T0 : Txt0 K mg := ⟨(PySem.W.mg_none_of X G z1), (PySem.W.mg_none_of X G z2), (PySem.W.mg_none_of X G z3), (PySem.W.mg_none_of X G z4), ⟨t1, PySem.W.mg_of X G cL⟩, ⟨t2, PySem.W.mg_of X G cM⟩, ⟨t3, PySem.W.mg_of X G cA⟩, ⟨t4, PySem.W.mg_of X G cE⟩, ⟨aW, PySem.W.mg_of X G cW, fun _ => .inr ⟨_, itsW, nW, lW, rfl, rfl, hz, vW⟩⟩, (PySem.W.mg_none_of X G z5), (PySem.W.mg_none_of X G z6), (PySem.W.mg_none_of X G z7), (PySem.W.mg_none_of X G z8), (PySem.W.mg_none_of X G z9)⟩
  have T : TxtL mg := ⟨(PySem.W.mg_none_of X G z10), (PySem.W.mg_none_of X G z11), (PySem.W.mg_none_of X G z12), (PySem.W.mg_none_of X G z13)⟩
  have TP : TxtP K mg C := ⟨⟨pg, hd, po, sa⟩, nN, nT, PySem.W.mg_of X G aC⟩
  have F1 := fun_mk (st := s_is_name) l1 c1 k1
  have b1 := F1.binds (ps := p_is_name) fun _ _ _ _ _ _ us hl => match us, hl with | [_], _ => rfl
  have F2 := fun_mk (st := s_nodes_of) l2 c2 k2
  have b2 := F2.binds (ps := p_nodes_of) fun _ _ _ _ _ _ us hl => match us, hl with | [_], _ => rfl
  have F3 := fun_mk (st := s_node_of) l3 c3 k3
  have b3 := F3.binds (ps := p_node_of) fun _ _ _ _ _ _ us hl => match us, hl with | [_, _], _ => rfl
  have F4 := fun_mk (st := s_targets_of) l4 c4 k4
  have b4 := F4.binds (ps := p_targets_of) fun _ _ _ _ _ _ us hl => match us, hl with | [_, _], _ => rfl
  have F5 := fun_mk (st := s_law_feed) l5 c5 k5
  have b5 := F5.binds (ps := p_law_feed) fun _ _ _ _ _ _ us hl => match us, hl with | [_, _], _ => rfl
  have F6 := fun_mk (st := s_law_take) l6 c6 k6
  have b6 := F6.binds (ps := p_law_take) fun _ _ _ _ _ _ us hl => match us, hl with | [_, _], _ => rfl
  have F7 := fun_mk (st := s_law_pick) l7 c7 k7
  have b7 := F7.binds (ps := p_law_pick) fun _ _ _ _ _ _ us hl => match us, hl with | [_, _], _ => rfl
  have F8 := fun_mk (st := s_law_nodes) l8 c8 k8
  have b8 := F8.binds (ps := p_law_nodes) fun _ _ _ _ _ _ us hl => match us, hl with | [_, _, _], _ => rfl
  have F9 := fun_mk (st := s_law_text) l9 c9 k9
  have b9 := F9.binds (ps := p_law_text) fun _ _ _ _ _ _ us hl => match us, hl with | [_], _ => rfl
  have F10 := fun_mk (st := s_law_names) l10 c10 k10
  have b10 := F10.binds (ps := p_law_names) fun _ _ _ _ _ _ us hl => match us, hl with | [_], _ => rfl
  have F11 := fun_mk (st := s_law_is_right) l11 c11 k11
  have b11 := F11.binds (ps := p_law_is_right) fun _ _ _ _ _ _ us hl => match us, hl with | [_, _], _ => rfl
  have F12 := fun_mk (st := s_law) l12 c12 k12
  have b12 := F12.binds (ps := p_law) fun _ _ _ _ _ _ us hl => match us, hl with | [_], _ => rfl
  have F13 := fun_mk (st := s_Program_init) l13 c13 k13
  have b13 := F13.binds (ps := p_Program_init) fun _ _ _ _ _ _ us hl => match us, hl with | [_, _], _ => rfl
  have F14 := fun_mk (st := s_Program_parse) l14 c14 k14
  have b14 := F14.binds (ps := p_Program_parse) fun _ _ _ _ _ _ us hl => match us, hl with | [_], _ => rfl
  have F15 := fun_mk (st := s_Program_str) l15 c15 k15
  have b15 := F15.binds (ps := p_Program_str) fun _ _ _ _ _ _ us hl => match us, hl with | [_], _ => rfl
  have F16 := fun_mk (st := s_Program_eq) l16 c16 k16
  have b16 := F16.binds (ps := p_Program_eq) fun _ _ _ _ _ _ us hl => match us, hl with | [_, _], _ => rfl
  refine ⟨PySem.W.fnOf "law" "law" (defArgs s_law) (defBody s_law) (defScope s_law) .none kV12 dc12 pm12 an12 cd12 ct12, fun s v => .of_eq rfl, fun base _ _ => ?_⟩
  have G1 : OkF l.prog w K mg base CX0 "is_name" p_is_name 1 sp_is_name := ⟨f1, _, PySem.W.mg_of X G a1, k1, b1, ok_is_name F1 T0⟩
  have G2 : OkF l.prog w K mg base CX0 "_targets_of" p_targets_of 1 (sp_targets_of K) := ⟨f4, _, PySem.W.mg_of X G a4, k4, b4, ok_targets_of F4 T0⟩
  have G3 : OkF l.prog w K mg base CX0 "_node_of" p_node_of 2 sp_node_of := ⟨f3, _, PySem.W.mg_of X G a3, k3, b3, ok_node_of F3 T0 G1 G2⟩
  have G4 : OkF l.prog w K mg base CX0 "_nodes_of" p_nodes_of 3 sp_nodes_of := ⟨f2, _, PySem.W.mg_of X G a2, k2, b2, ok_nodes_of F2 T0 G3⟩
  have G5 : OkF l.prog w K mg base CX0 "_law_feed" p_law_feed 1 (sp_law_feed K) := ⟨f5, _, PySem.W.mg_of X G a5, k5, b5, ok_law_feed F5 T⟩
  have G6 : OkF l.prog w K mg base CX0 "_law_take" p_law_take 1 sp_law_take := ⟨f6, _, PySem.W.mg_of X G a6, k6, b6, ok_law_take F6 T⟩
  have G7 : OkF l.prog w K mg base CX0 "_law_pick" p_law_pick 2 (sp_law_pick K) := ⟨f7, _, PySem.W.mg_of X G a7, k7, b7, ok_law_pick F7 T0 G6⟩
  have G8 : OkF l.prog w K mg base CX0 "_law_names" p_law_names 3 sp_law_names := ⟨f10, _, PySem.W.mg_of X G a10, k10, b10, ok_law_names F10 T0 T G6 G7⟩
  have G9 : OkF l.prog w K mg base CX0 "_law_nodes" p_law_nodes 3 (sp_law_nodes K) := ⟨f8, _, PySem.W.mg_of X G a8, k8, b8, ok_law_nodes F8 T0 T G6 G7⟩
  have G10 : OkF l.prog w K mg base CX0 "_law_text" p_law_text 1 sp_law_text := ⟨f9, _, PySem.W.mg_of X G a9, k9, b9, ok_law_text F9 T0⟩
  have GI := ok_Program_init (P := l.prog) (w := w) (base := base) F13 TP G4
  have PP := ok_parse F14 TP ⟨mk, a13, i13, kc⟩ GI b13
  have TE : TxtE K C := ⟨tyC, clC, hac, hnc, tkc, ob, sS, sN, sI, sT, sL⟩
  have FS := ok_Program_str (P := l.prog) (w := w) (base := base) F15 T0 TP
  have FE := ok_Program_eq (P := l.prog) (w := w) (base := base) F16 T0 TP TE
  have OE : OwnC K C f16 _ p_Program_eq := ⟨a16, i16, ne, ob, b16⟩
  have SI : SInst K C "parse" pp f14 := ⟨pg, clC, ap, tp, gp, kp, by decide +kernel, ⟨rest, a14⟩, k14⟩
  have GR : OkG l.prog w K mg base CX0 "_law_is_right" p_law_is_right 7 sp_right := ⟨f11, _, PySem.W.mg_of X G a11, k11, b11, ok_right F11 T0 (PySem.W.mg_none_of X G z15) TP TE ⟨rd, ga⟩ ⟨fc, ⟨rest, a14⟩, k14⟩ SI PP b14 FS ⟨a15, i15, b15⟩ FE OE⟩
  exact ok_law F12 T0 T (PySem.W.mg_none_of X G z14) TP TE G5 G8 G9 G10 GR ⟨rd, ga⟩ ⟨fc, ⟨rest, a14⟩, k14⟩ PP b14 FE OE
theorem walk {l : PySem.W.OpenLaw} {q : Program} {loose : List Str} {XP : (Str → Option Value) → Heap → Prop} {YP : World → Heap → Prop} {d : DefRec} {K : Params → PySem.W.Frag} (hn : l.most = some 63) (hdf : d.params.defaults = [])
    (hY : ∀ (w : World) (h : Heap), YP w h → (K w.params).In h)
    (F : ∀ (w : World) (mg : Str → Option Value) (fa : Addr) (h : Heap), (K w.params).In h → h.Ns mainGlobals mg → mg d.name = some (.ref fa) →
      ∃ fd : FuncData, (∀ (s : Shared) (u : Value), BindsTo s fd ⟨[u], []⟩ [("script", u)]) ∧ ∀ base : Heap, (K w.params).In base → base.Ns mainGlobals mg → FnG l.prog w (K w.params) mg base CX0 8 fa fd ["script"] (sp_law (K w.params))) :
    PySem.W.WalkO q loose XP YP l.row.toRowW d [] (fun f vs => PySem.call f vs) :=
  walk_ofG (n := 63) (k := 8) (x := "script") (CX := fun _ => CX0) (sp := fun w => sp_law (K w.params)) hn (by decide) hdf ⟨rfl, by decide, by decide⟩ hY F (fun _ _ a ns hl _ hS => ⟨a, ns, rfl, hS, hl, fun _ => rfl⟩) fun _ _ _ _ _ z => z
end Vf

open PySem PySem.W PyProof.Rows
set_option maxRecDepth 100000 in
set_option maxHeartbeats 0 in
theorem PySem.Challenge.cw_sharedlines_k10_programs_read_holds : PySem.Challenge.rw_sharedlines_k10_programs_read.Holds := by
  w_on; o_law; k_head; (case hw => w_witness2)
  k_fill
  refine Vf.walk (l := PySem.Challenge.rw_sharedlines_k10_programs_read) rfl rfl (fun w h Y => PySem.W.kIn_of Y) ?F
  case F =>
    intro w mg fa h KX G hmg
    refine' Vf.all_mk KX G hmg ?aC ?a1 ?l1 ?c1 ?k1 ?a2 ?l2 ?c2 ?k2 ?a3 ?l3 ?c3 ?k3 ?a4 ?l4 ?c4 ?k4 ?a5 ?l5 ?c5 ?k5 ?a6 ?l6 ?c6 ?k6 ?a7 ?l7 ?c7 ?k7 ?a8 ?l8 ?c8 ?k8 ?a9 ?l9 ?c9 ?k9 ?a10 ?l10 ?c10 ?k10 ?a11 ?l11 ?c11 ?k11 ?a12 ?l12 ?c12 ?k12 ?a13 ?i13 ?l13 ?c13 ?k13 ?tyC ?rd ?ga ?fc ?a14 ?l14 ?c14 ?k14 ?a15 ?i15 ?l15 ?c15 ?k15 ?a16 ?i16 ?l16 ?c16 ?k16 ?pg ?hd ?po ?sa ?mk ?kc ?clC ?hac ?hnc ?tkc ?ob ?ne ?sS ?sN ?sI ?sT ?sL ?ap ?tp ?gp ?kp ?nN ?nT ?cL ?cM ?cA ?cE ?cW ?lW ?z1 ?z2 ?z3 ?z4 ?z5 ?z6 ?z7 ?z8 ?z9 ?z10 ?z11 ?z12 ?z13 ?z14 ?z15 ?hA ?hE ?vW
    (case aC => k_is); (case a1 => k_is); (case l1 => k_is); (case c1 => k_is); (case k1 => k_is); (case a2 => k_is)
    (case l2 => k_is); (case c2 => k_is); (case k2 => k_is); (case a3 => k_is); (case l3 => k_is); (case c3 => k_is)
    (case k3 => k_is); (case a4 => k_is); (case l4 => k_is); (case c4 => k_is); (case k4 => k_is); (case a5 => k_is)
    (case l5 => k_is); (case c5 => k_is); (case k5 => k_is); (case a6 => k_is); (case l6 => k_is); (case c6 => k_is)
    (case k6 => k_is); (case a7 => k_is); (case l7 => k_is); (case c7 => k_is); (case k7 => k_is); (case a8 => k_is)
    (case l8 => k_is); (case c8 => k_is); (case k8 => k_is); (case a9 => k_is); (case l9 => k_is); (case c9 => k_is)
    (case k9 => k_is); (case a10 => k_is); (case l10 => k_is); (case c10 => k_is); (case k10 => k_is); (case a11 => k_is)
    (case l11 => k_is); (case c11 => k_is); (case k11 => k_is); (case a12 => k_is); (case l12 => k_is); (case c12 => k_is)
    (case k12 => k_is); (case a13 => k_is); (case i13 => k_is); (case l13 => k_is); (case c13 => k_is); (case k13 => k_is)
    (case tyC => k_is); (case rd => k_is); (case ga => k_is); (case fc => k_is); (case a14 => k_is); (case l14 => k_is)
    (case c14 => k_is); (case k14 => k_is); (case a15 => k_is); (case i15 => k_is); (case l15 => k_is); (case c15 => k_is)
    (case k15 => k_is); (case a16 => k_is); (case i16 => k_is); (case l16 => k_is); (case c16 => k_is); (case k16 => k_is)
    (case pg => k_is); (case hd => k_is); (case po => k_is); (case sa => k_is); (case mk => k_is); (case kc => k_is)
    (case clC => k_is); (case hac => k_is); (case hnc => k_is); (case tkc => k_is); (case ob => k_is); (case ne => k_is)
    (case sS => k_is); (case sN => k_is); (case sI => k_is); (case sT => k_is); (case sL => k_is); (case ap => k_is)
    (case tp => k_is); (case gp => k_is); (case kp => k_is); (case nN => k_is); (case nT => k_is); (case cL => k_is)
    (case cM => k_is); (case cA => k_is); (case cE => k_is); (case cW => k_is); (case lW => k_is); (case z1 => k_is)
    (case z2 => k_is); (case z3 => k_is); (case z4 => k_is); (case z5 => k_is); (case z6 => k_is); (case z7 => k_is)
    (case z8 => k_is); (case z9 => k_is); (case z10 => k_is); (case z11 => k_is); (case z12 => k_is); (case z13 => k_is)
    (case z14 => k_is); (case z15 => k_is)
    (case hA => decide +kernel); (case hE => decide +kernel)
    case vW => exact .cons ⟨_, rfl⟩ (.cons ⟨_, rfl⟩ .nil)
#print axioms PySem.Challenge.cw_sharedlines_k10_programs_read_holds
