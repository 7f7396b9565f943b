import PyProof.Rows.All
import Wide.All
import OpenK.AllK
import Wide.FinOn
import Lean
import PyProof.EqAt
import PyProof.EqKinds
import PyProof.TupleCall
import PyProof.NeKinds
import PyProof.ConsumeWalk
import PyProof.ReprRoads
import PyProof.ReprLen
import PyProof.ZipIter
import PyProof.Draws
import PyProof.ListMulRoad
import PyProof.FactsAll.tuple_2
import PyProof.RaisesMany
import PyProof.ExcClass2
import OpenK.KOwn
import PyProof.ExcBaseAll.ValueError
import PyProof.RulesAs
import KE.KTryMore
import KE.KLam
import KE.KIsNot
import PyProof.ExcArgsOwn
import PyProof.ExcAttrAll.ValueError
import PySem.Challenge.RW_platerest_k03_fractions_refused
set_option Elab.async false
set_option linter.all false
set_option maxRecDepth 100000
namespace L2
open PySem PySem.W PyProof.Rows
def topRunT (tb : String → Option Builtin) (p : Program) (w : World) (n0 : Nat) (ann : Option Value) : Nat → SharedT → Thread → Option SharedT
  | 0, _, _ => none
  | n + 1, s, t => match through t with
    | true => some s
    | false => match stepOk n0 ann t with
      | false => none
      | true => match stepT (denote tb) p w s t with
        | some (s', t') => topRunT tb p w n0 ann n s' t'
        | none => none
theorem topRun_of {tb : String → Option Builtin} {p : Program} {w : World} {n0 : Nat} {ann : Option Value} : ∀ {n : Nat} {s s' : SharedT} {t : Thread}, topRunT tb p w n0 ann n s t = some s' → topRun tb p w n0 ann n s.abs t = some s'.abs
  | 0, _, _, _, h => by cases h
  | n + 1, s, s', t, h => by
    unfold topRunT at h
    unfold topRun
    cases he : through t with
    | true => rw [he] at h; cases h; rfl
    | false =>
      rw [he] at h
      cases hk : stepOk n0 ann t with
      | false => rw [hk] at h; cases h
      | true =>
        rw [hk] at h
        cases hs : stepT (denote tb) p w s t with
        | none => rw [hs] at h; cases h
        | some r => obtain ⟨s2, t2⟩ := r; rw [hs] at h; rw [stepT_spec hs]; exact topRun_of h
def btOf : List Obj → Nat → BT → BT
  | [], _, t => t
  | o :: os, n, t => btOf os (n + 1) (t.ins n o)
theorem left_of_run {p q : Program} {loose : List Str} {Xt : Shared → Bool} {α : Type} {Yf : Shared → α} {Ya : World → α} {N : Nat} {g0 : Bool} {T0 : Params → BT} {n0 : Nat} {life : Life} {ann : Option Value}
    (e : opening p = plainProg p.main.scope.names) (hN : Nat.ble 600 N = true) (f : ∀ s, fenceModules? p s = some s)
    (h0 : ∀ P, absHeap (T0 P) n0 life = boot_heap P)
    (size : ∀ P, ((boot_heap P).isNs mainGlobals, (boot_heap P).objs.size, (boot_heap P).nsMap mainGlobals "__annotations__") = (true, n0, ann))
    (run : ∀ (w : World) (os : OsState), (topRunT treeTable p w n0 ann N ⟨T0 w.params, n0, life, Array.mk [], boot_drawn, boot_toks, os⟩ (topStub p)).map (fun s => ((staticsOk (importedModules p.main.body) (boot_heap w.params) s.abs.heap && namesBound p s.abs.heap && gensDone s.abs && laidKept (boot_heap w.params) s.abs.heap), openSeen q loose (importedModules p.main.body) Xt g0 s.abs, Yf s.abs)) = some (true, openGood q loose, Ya w)) : LeftO p q loose Xt Yf Ya N g0 := fun w => by
  obtain ⟨⟨h, gs, d, k, os⟩, e1, e2⟩ := Option.map_eq_some_iff.mp (boot_open e hN f w)
  obtain ⟨rfl, rfl, rfl, rfl⟩ : h = boot_heap w.params ∧ gs = Array.mk [] ∧ d = boot_drawn ∧ k = boot_toks := by simpa using e2
  obtain ⟨z1, z2, z3⟩ : _ ∧ _ ∧ _ := by simpa only [Prod.mk.injEq] using size w.params
  obtain ⟨s, r1, r2⟩ := Option.map_eq_some_iff.mp (run w os)
  obtain ⟨l1, l2, l3⟩ : _ ∧ _ ∧ _ := by simpa only [Prod.mk.injEq] using r2
  have r := topRun_of r1
  have ha : SharedT.abs ⟨T0 w.params, n0, life, Array.mk [], boot_drawn, boot_toks, os⟩ = ⟨boot_heap w.params, Array.mk [], boot_drawn, boot_toks, os⟩ := by
    unfold SharedT.abs
    rw [h0]
  rw [ha] at r
  have t : topFrom treeTable p w N ⟨boot_heap w.params, Array.mk [], boot_drawn, boot_toks, os⟩ = some s.abs := by
    unfold topFrom
    dsimp only
    rw [z1, z2, z3, r]
    show (match staticsOk (importedModules p.main.body) (boot_heap w.params) s.abs.heap && namesBound p s.abs.heap && gensDone s.abs && laidKept (boot_heap w.params) s.abs.heap with | true => _ | false => _) = _
    rw [l1]
  unfold openEnds
  rw [e1]
  show (topFrom treeTable p w N _).map _ = _
  rw [t]
  exact congrArg some (Prod.ext l2 l3)
lay_quick L2.topRunT
end L2
namespace L2
open PySem PySem.W PyProof.Rows
theorem run_of_parts {p q : Program} {loose : List Str} {Xt : Shared → Bool} {α : Type} {Yf : Shared → α} {Ya : World → α} {g0 : Bool} {R : World → OsState → Option SharedT}
    (h1 : ∀ w os, (R w os).map (fun s => (staticsOk (importedModules p.main.body) (boot_heap w.params) s.abs.heap && namesBound p s.abs.heap && gensDone s.abs && laidKept (boot_heap w.params) s.abs.heap)) = some true)
    (h2 : ∀ w os, (R w os).map (fun s => openSeen q loose (importedModules p.main.body) Xt g0 s.abs) = some (openGood q loose))
    (h3 : ∀ w os, (R w os).map (fun s => Yf s.abs) = some (Ya w)) (w : World) (os : OsState) :
    (R w os).map (fun s => ((staticsOk (importedModules p.main.body) (boot_heap w.params) s.abs.heap && namesBound p s.abs.heap && gensDone s.abs && laidKept (boot_heap w.params) s.abs.heap), openSeen q loose (importedModules p.main.body) Xt g0 s.abs, Yf s.abs)) = some (true, openGood q loose, Ya w) := by
  have a := h1 w os
  have b := h2 w os
  have c := h3 w os
  cases e : R w os with
  | none => rw [e] at a; cases a
  | some s =>
    rw [e] at a b c
    exact congrArg some (Prod.ext (Option.some.inj a) (Prod.ext (Option.some.inj b) (Option.some.inj c)))
noncomputable abbrev bootT (P : Params) : BT := btOf (boot_heap P).objs.toList 0 .nil
noncomputable def topK (p : Program) (N : Nat) (w : World) (os : OsState) : Option SharedT := topRunT treeTable p w 11 (some (.ref 6)) N ⟨bootT w.params, 11, {}, Array.mk [], boot_drawn, boot_toks, os⟩ (topStub p)
theorem boot_abs : ∀ P, absHeap (bootT P) 11 {} = boot_heap P := fun P => by kernel_rfl
theorem boot_size : ∀ P, ((boot_heap P).isNs mainGlobals, (boot_heap P).objs.size, (boot_heap P).nsMap mainGlobals "__annotations__") = (true, 11, some (.ref 6)) := fun P => by kernel_rfl
def looseOf (p : Program) (names : List Str) : List Str := ((p.main.body.flatMap bindsAtTop).filter fun x => !startupNames.contains x && !names.contains x).eraseDups
end L2

namespace My
open PySem PySem.W PyProof.Rows L2
noncomputable abbrev pw : Program := PySem.Challenge.pw_platerest_k03_fractions_refused
noncomputable abbrev rr : OpenRow := OpenLaw.row PySem.Challenge.rw_platerest_k03_fractions_refused
noncomputable abbrev qq : Program := view pw [62]
noncomputable abbrev ll : List Str := looseOf pw ["law"]
set_option maxRecDepth 1000000
set_option maxHeartbeats 0
theorem ws : OpenLaw.wellSaid PySem.Challenge.rw_platerest_k03_fractions_refused = true := by kernel_rfl
theorem h1 : ∀ w os, (topK pw 13688 w os).map (fun s => (staticsOk (importedModules pw.main.body) (boot_heap w.params) s.abs.heap && namesBound pw s.abs.heap && gensDone s.abs && laidKept (boot_heap w.params) s.abs.heap)) = some true := fun w os => by
  unfold topK topStub
  rw [PySem.W.Fast.te4652649595001227023, PySem.W.Fast.te14364793385576792824, PySem.W.Fast.te17154629097778926822, PySem.W.Fast.te12822647523644345616]
  kernel_rfl
theorem h2 : ∀ w os, (topK pw 13688 w os).map (fun s => openSeen qq ll (importedModules pw.main.body) (fun s => xlAt qq [] s && recOk (RowW.records (OpenRow.toRowW rr)) s) true s.abs) = some (openGood qq ll) := fun w os => by
  unfold topK topStub
  rw [PySem.W.Fast.te4652649595001227023, PySem.W.Fast.te14364793385576792824, PySem.W.Fast.te17154629097778926822, PySem.W.Fast.te12822647523644345616, PySem.W.Fast.te4187177175401517315]
  kernel_rfl
end My
noncomputable section
set_option Elab.async false
set_option linter.all false
set_option maxRecDepth 100000
namespace L2
open PySem PySem.Spec PyProof.Rows
abbrev Key:=Sum Int Str
def keyIs:Key→Value→Bool
 | .inl k,v=>Value.isInt k v
 | .inr x,v=>Value.isStrOf x v
def keyH (w:World):Key→Int
 | .inl k=>hashInt k
 | .inr x=>hashStr w x
theorem keyIs_shape:∀ {k:Key} {v:Value},keyIs k v=true→(∃ i t,k=Sum.inl i∧v=Value.int i t)∨(∃ x t,k=Sum.inr x∧v=Value.str x t)
 | .inl i,v,h=>by
   obtain ⟨t,e⟩:=Value.isInt_shape (k:=i) (v:=v) h
   exact .inl ⟨i,t,rfl,e⟩
 | .inr x,v,h=>by
   obtain ⟨t,e⟩:=Value.isStrOf_shape (x:=x) (v:=v) h
   exact .inr ⟨x,t,rfl,e⟩
theorem key_ll (a b:Int):decide ((Sum.inl a:Key)=Sum.inl b)=(a == b):=by
 by_cases e:a=b
 · subst e; simp
 · have h:¬ (Sum.inl a:Key)=Sum.inl b:=fun q=>e (Sum.inl.inj q)
   rw [decide_eq_false h]
   exact (beq_eq_false_iff_ne.mpr e).symm
theorem key_rr (a b:Str):decide ((Sum.inr a:Key)=Sum.inr b)=decide (a=b):=by
 by_cases e:a=b
 · subst e; simp
 · have h:¬ (Sum.inr a:Key)=Sum.inr b:=fun q=>e (Sum.inr.inj q)
   rw [decide_eq_false h,decide_eq_false e]
theorem key_lr (a:Int) (b:Str):decide ((Sum.inl a:Key)=Sum.inr b)=false:=decide_eq_false (fun q=>nomatch q)
theorem key_rl (a:Str) (b:Int):decide ((Sum.inr a:Key)=Sum.inl b)=false:=decide_eq_false (fun q=>nomatch q)
def mixKind (prog:Program) (w:World):PySem.KeyKind prog w Key where
 is:=keyIs
 hash:=keyH w
 inj:=fun v a b ha hb=>by
  rcases keyIs_shape ha with ⟨i,t,rfl,rfl⟩ | ⟨x,t,rfl,rfl⟩
  · rcases keyIs_shape hb with ⟨j,u,rfl,e⟩ | ⟨y,u,rfl,e⟩
    · injection e with e1 _; rw [e1]
    · exact nomatch e
  · rcases keyIs_shape hb with ⟨j,u,rfl,e⟩ | ⟨y,u,rfl,e⟩
    · exact nomatch e
    · injection e with e1 _; rw [e1]
 byValue:=fun k v h=>by
  rcases keyIs_shape h with ⟨i,t,rfl,rfl⟩ | ⟨x,t,rfl,rfl⟩ <;> rfl
 pyHash:=fun hv h=>by
  rcases keyIs_shape hv with ⟨i,t,rfl,rfl⟩ | ⟨x,t,rfl,rfl⟩
  · exact wpAny_pyHash_int h
  · exact wpAny_pyHash_str h
 eqBool:=fun hu hv h=>by
  rcases keyIs_shape hu with ⟨i,t,rfl,rfl⟩ | ⟨x,t,rfl,rfl⟩
  · rcases keyIs_shape hv with ⟨j,u,rfl,rfl⟩ | ⟨y,u,rfl,rfl⟩
    · rw [key_ll] at h; exact wpAny_eqBool_int h
    · rw [key_lr] at h; exact SeqAt.EqAt.int_str i t y u _ _ _ _ h
  · rcases keyIs_shape hv with ⟨j,u,rfl,rfl⟩ | ⟨y,u,rfl,rfl⟩
    · rw [key_rl] at h; exact SeqAt.EqAt.str_int x t j u _ _ _ _ h
    · rw [key_rr] at h; exact wpAny_eqBool_str h
 «strs»:=fun k x t v h=>by
  rcases keyIs_shape h with ⟨i,u,rfl,e⟩ | ⟨y,u,rfl,e⟩
  · exact nomatch e
  · injection e with e1 _
    subst e1
    cases v <;> rfl
end L2
namespace L2
open PySem PySem.Spec PyProof.Rows
inductive V where
 | non | bl (b:Bool) | int (i:Int) | str (x:Str) | byt (b:Array UInt8) | flt (b:UInt64) | ref (a:Addr) | ty (n:String)
 deriving DecidableEq
def RelV:V→Value→Prop
 | .non,u=>u=Value.none
 | .bl b,u=>u=Value.bool b
 | .int i,u=>∃ t,u=Value.int i t
 | .str x,u=>∃ t,u=Value.str x t
 | .byt b,u=>∃ t,u=Value.bytes b t
 | .flt b,u=>∃ t,u=Value.float b t
 | .ref a,u=>u=Value.ref a
 | .ty n,u=>u=Value.type n
abbrev Vals:List V→List Value→Prop:=Paired RelV
theorem Vals.length {xs:List V} {us:List Value} (r:Vals xs us):xs.length=us.length:=Paired.length r
theorem Vals.get:∀ {xs:List V} {us:List Value} {i:Nat} {x:V},Vals xs us→xs[i]? = some x→∃ u,us[i]? = some u∧RelV x u
 | _,_,_,_,.nil,e=>by simp at e
 | _,_,0,_,.cons r _,e=>by simp at e; subst e; exact ⟨_,rfl,r⟩
 | _,_,i+1,x,.cons _ t,e=>by
   obtain ⟨u,h1,h2⟩:=Vals.get (i:=i) (x:=x) t (by simpa using e)
   exact ⟨u,by simpa using h1,h2⟩
theorem Vals.set {x:V} {u:Value} (r:RelV x u):∀ {xs:List V} {us:List Value} (i:Nat),Vals xs us→Vals (xs.set i x) (us.set i u)
 | _,_,_,.nil=>.nil
 | _,_,0,.cons _ t=>.cons r t
 | _,_,i+1,.cons q t=>.cons q (Vals.set r i t)
theorem Vals.append:∀ {xs ys:List V} {us ws:List Value},Vals xs us→Vals ys ws→Vals (xs++ys) (us++ws)
 | _,_,_,_,.nil,s=>s
 | _,_,_,_,.cons r t,s=>.cons r (Vals.append t s)
theorem Vals.take:∀ {xs:List V} {us:List Value} (n:Nat),Vals xs us→Vals (xs.take n) (us.take n)
 | _,_,0,_=>.nil
 | _,_,_+1,.nil=>.nil
 | _,_,n+1,.cons r t=>.cons r (Vals.take n t)
theorem Vals.drop:∀ {xs:List V} {us:List Value} (n:Nat),Vals xs us→Vals (xs.drop n) (us.drop n)
 | _,_,0,r=>r
 | _,_,_+1,.nil=>.nil
 | _,_,n+1,.cons _ t=>Vals.drop n t
def RelO:Option V→Option Value→Prop
 | some v,some u=>RelV v u
 | none,none=>True
 | _,_=>False
def KV {κ:Type}:List (κ×V)→List (κ×Value)→Prop:=Paired fun (p:κ×V) (q:κ×Value)=>p.1=q.1∧RelV p.2 q.2
def kV:Key→V
 | .inl i=>.int i
 | .inr x=>.str x
inductive HO where
 | lst (xs:List V)
 | tup (xs:List V)
 | dK (kvs:List (Key×V)) | dT (kvs:List (List Key×V))
 | set (S:Int→Bool) (n:Nat)
 | ins (C dx:Addr) (fs:List (Str×V))
 | own (x:Addr)
 | xd (fs:List (Str×V))
 | met (f x:Addr)
 | rng (lo hi:Int)
 | frz (o:Obj) (u:HO)
 | tbl (ps:Array Value)
 | ext (φ:Heap→Prop)
abbrev Hp:=Addr→Option HO
def upd (H:Hp) (a:Addr) (o:HO):Hp:=fun b=>if b=a then some o else H b
theorem upd_same {H:Hp} {a:Addr} {o:HO}:upd H a o a=some o:=by unfold upd; rw [if_pos rfl]
theorem upd_ne {H:Hp} {a b:Addr} {o:HO} (h:b≠a):upd H a o b=H b:=by unfold upd; rw [if_neg h]
theorem ne_of {H:Hp} {a b:Addr} {o u:HO} (h:H a=some o) (h':H b=some u) (d:o≠u):a≠b:=by
 intro e; subst e; rw [h] at h'; exact d (Option.some.inj h')
theorem ne_of_none {H:Hp} {a b:Addr} {o:HO} (h:H a=some o) (h':H b=none):a≠b:=by
 intro e; subst e; rw [h] at h'; cases h'
section
variable (P:Program) (w:World)
def ObjOk (H:Hp) (h:Heap) (a:Addr):HO→Prop
 | .lst xs=>xs.length≤sizeLine∧∃ (its:List Value) (n:Nat),Vals xs its∧h.get? a=some { cls:=.type "list",data:=.seq its.toArray n }
 | .tup xs=>xs.length≤sizeLine∧∃ its:List Value,Vals xs its∧IsTup h a its.toArray
 | .dK kvs=>kvs.length≤sizeLine∧(a == sysModules)=false∧∃ vs,KV kvs vs∧h.DictOf (mixKind P w) a vs
 | .dT kvs=>kvs.length≤sizeLine∧(a == sysModules)=false∧∃ xs:List (List Key×Addr×Value),
    Paired (fun (p:List Key×V) (q:List Key×Addr×Value)=>p.1=q.1∧H q.2.1=some (.tup (p.1.map kV))∧RelV p.2 q.2.2) kvs xs ∧
    ∃ o es ep,h.get? a=some o∧o.ExactDict∧o.data=.dict es ep∧es.toList=xs.map (entryOfKey (tupleKind (mixKind P w)))∧(xs.map (·.1)).Nodup
 | .set S n=>h.SetOf (intKind P w) a S n
 | .ins C dx fs=>H dx=some (.own a)∧fs.length≤1000∧dx≠a∧h.get? a=some (PySem.W.instObj C dx) ∧
    ∃ mA,h.Ns1 dx mA∧(∀ f,RelO (fs.lookup f) (mA f))∧PySem.Within mA (fs.map (·.1))
 | .own _=>∃ o,h.get? a=some o
 | .xd fs=>∃ mA,h.Ns1 a mA∧∀ f,RelO (fs.lookup f) (mA f)
 | .rng lo hi=>∃ t u v,h.get? a=some { cls:=.type "range",data:=.fields #[.int lo t,.int hi u,.int 1 v] }
 | .frz o u=>h.get? a=some o∧ObjOk H h a u
 | .tbl ps=>h.get? a=some { cls:=.none,data:=.fields ps }
 | .met f x=>h.get? a=some (PySem.W.methodObj (.ref f) (.ref x))
 | .ext φ=>φ h∧(∃ o,h.get? a=some o)∧∀ h1 h2:Heap,φ h1→(∀ o,h1.get? a=some o→h2.get? a=some o)→φ h2
def HOk (H:Hp) (h:Heap):Prop:=∀ a o,H a=some o→ObjOk P w H h a o
end
section
variable {P:Program} {w:World} {H H':Hp} {h h':Heap} {a:Addr} {o:HO}
theorem ObjOk.lt (x:ObjOk P w H h a o):a < h.objs.size:=by
 cases o with
 | lst xs=>obtain ⟨_,_,_,_,e⟩:=x; exact Heap.lt_size e
 | tup xs=>obtain ⟨_,_,_,p⟩:=x; exact p.lt
 | dK kvs=>obtain ⟨_,_,_,_,o,_,_,e,_⟩:=x; exact Heap.lt_size e
 | dT kvs=>obtain ⟨_,_,_,_,o,_,_,e,_⟩:=x; exact Heap.lt_size e
 | set S n=>obtain ⟨o,_,_,_,e,_⟩:=x; exact Heap.lt_size e
 | ins C dx fs=>obtain ⟨_,_,_,e,_⟩:=x; exact Heap.lt_size e
 | own y=>obtain ⟨_,e⟩:=x; exact Heap.lt_size e
 | xd fs=>obtain ⟨_,⟨_,_,_,e,_⟩,_⟩:=x; exact Heap.lt_size e
 | rng lo hi=>obtain ⟨_,_,_,e⟩:=x; exact Heap.lt_size e
 | frz ob u=>obtain ⟨e,_⟩:=x; exact Heap.lt_size e
 | tbl ps=>exact Heap.lt_size (show h.get? a=some _ from x)
 | met f y=>exact Heap.lt_size (show h.get? a=some _ from x)
 | ext φ=>obtain ⟨_,⟨_,e⟩,_⟩:=x; exact Heap.lt_size e
theorem Paired.mapP {α β:Type} {F G:α→β→Prop}:∀ {l₁:List α} {l₂:List β},Paired F l₁ l₂→(∀ a b,F a b→G a b)→Paired G l₁ l₂
 | _,_,.nil,_=>.nil
 | _,_,.cons r t,f=>.cons (f _ _ r) (Paired.mapP t f)
theorem ObjOk.stay (x:ObjOk P w H h a o) (k:∀ b u,(b=a∨H b=some (.own a))→h.get? b=some u→h'.get? b=some u)
 (ho:∀ b,H b=some (.own a)→H' b=some (.own a)) (ht:∀ b xs,H b=some (.tup xs)→H' b=some (.tup xs)):ObjOk P w H' h' a o:=by
 induction o with
 | lst xs=>obtain ⟨z,its,n,r,e⟩:=x; exact ⟨z,its,n,r,k _ _ (.inl rfl) e⟩
 | tup xs=>obtain ⟨z,its,r,ob,e,c⟩:=x; exact ⟨z,its,r,ob,k _ _ (.inl rfl) e,c⟩
 | dK kvs=>obtain ⟨z,y,vs,r,ob,es,ep,e,c⟩:=x; exact ⟨z,y,vs,r,ob,es,ep,k _ _ (.inl rfl) e,c⟩
 | dT kvs =>
   obtain ⟨z,y,xs,r,ob,es,ep,e,c⟩:=x
   exact ⟨z,y,xs,Paired.mapP r fun p q z=>⟨z.1,ht _ _ z.2.1,z.2.2⟩,ob,es,ep,k _ _ (.inl rfl) e,c⟩
 | set S n=>obtain ⟨ob,es,ep,t,e,c⟩:=x; exact ⟨ob,es,ep,t,k _ _ (.inl rfl) e,c⟩
 | ins C dx fs =>
   obtain ⟨d,z,ne,e,mA,⟨od,es,ep,e2,c⟩,r⟩:=x
   exact ⟨ho _ d,z,ne,k _ _ (.inl rfl) e,mA,⟨od,es,ep,k _ _ (.inr d) e2,c⟩,r⟩
 | own y=>obtain ⟨ob,e⟩:=x; exact ⟨ob,k _ _ (.inl rfl) e⟩
 | xd fs=>obtain ⟨mA,⟨od,es,ep,e,c⟩,r⟩:=x; exact ⟨mA,⟨od,es,ep,k _ _ (.inl rfl) e,c⟩,r⟩
 | rng lo hi=>obtain ⟨t,u,v,e⟩:=x; exact ⟨t,u,v,k _ _ (.inl rfl) e⟩
 | frz ob u ih=>obtain ⟨e,q⟩:=x; exact ⟨k _ _ (.inl rfl) e,ih q⟩
 | tbl ps =>
   have e:h.get? a=some { cls:=.none,data:=.fields ps }:=x
   show h'.get? a=some { cls:=.none,data:=.fields ps }
   exact k a _ (.inl rfl) e
 | met f y =>
   have e:h.get? a=some (PySem.W.methodObj (.ref f) (.ref y)):=x
   show h'.get? a=some (PySem.W.methodObj (.ref f) (.ref y))
   exact k a _ (.inl rfl) e
 | ext φ=>obtain ⟨p,⟨o,e⟩,st⟩:=x; exact ⟨st _ _ p fun o q=>k _ _ (.inl rfl) q,⟨o,k _ _ (.inl rfl) e⟩,st⟩
theorem HOk.lt (x:HOk P w H h) (e:H a=some o):a < h.objs.size:=(x a o e).lt
theorem HOk.fresh (x:HOk P w H h) (e:h.objs.size≤a):H a=none:=by
 cases q:H a with
 | none=>rfl
 | some u=>exact absurd (Nat.lt_of_lt_of_le (x.lt q) e) (Nat.lt_irrefl _)
theorem HOk.kept (x:HOk P w H h) (k:∀ b u,h.get? b=some u→h'.get? b=some u):HOk P w H h':=fun a o e =>
 (x a o e).stay (fun b u _ q=>k b u q) (fun _ q=>q) fun _ _ q=>q
theorem HOk.laid (x:HOk P w H h) (k:∀ b u,h.get? b=some u→h'.get? b=some u) (hp:h.objs.size≤a) (new:ObjOk P w (upd H a o) h' a o):HOk P w (upd H a o) h':=fun b u e=>by
 have hn:=x.fresh hp
 by_cases hb:b=a
 · subst hb; rw [upd_same] at e; cases e; exact new
 · rw [upd_ne hb] at e
   exact (x b u e).stay (fun c v _ q=>k c v q) (fun c q=>by rw [upd_ne (ne_of_none q hn)]; exact q) fun c xs q=>by rw [upd_ne (ne_of_none q hn)]; exact q
end
def Rd (H:Hp) (a:Addr) (u:HO):Prop:=H a=some u∨∃ o,H a=some (.frz o u)
theorem Rd.ok {P:Program} {w:World} {H:Hp} {h:Heap} {a:Addr} {u:HO} (r:Rd H a u) (x:HOk P w H h):ObjOk P w H h a u:=by
 rcases r with r | ⟨o,r⟩
 · exact x a u r
 · obtain ⟨_,q⟩:=x a _ r
   exact q
def Mut:Option HO→Prop
 | some (.lst _)=>True
 | some (.dK _)=>True
 | some (.dT _)=>True
 | some (.set _ _)=>True
 | some (.ins _ _ _)=>True
 | some (.ext _)=>True
 | _=>False
section
variable {P:Program} {w:World} {H:Hp} {h h':Heap} {x e:Addr} {o':HO}
theorem HOk.write (ok:HOk P w H h) (mu:Mut (H x)) (he:e=x∨H e=some (.own x)) (k:∀ b u,b≠e→h.get? b=some u→h'.get? b=some u) (heo:∃ u,h'.get? e=some u)
 (new:ObjOk P w (upd H x o') h' x o'):HOk P w (upd H x o') h':=fun b u q=>by
 have nown:∀ c y,H c=some (.own y)→c≠x:=fun c y r z=>by subst z; rw [r] at mu; exact mu
 have ntup:∀ c xs,H c=some (.tup xs)→c≠x:=fun c xs r z=>by subst z; rw [r] at mu; exact mu
 by_cases hb:b=x
 · subst hb; rw [upd_same] at q; cases q; exact new
 · rw [upd_ne hb] at q
   by_cases hbe:b=e
   · have q':H b=some (.own x):=by
      rcases he with z | z
      · exact absurd (hbe.trans z) hb
      · rw [hbe]; exact z
     rw [q] at q'; cases q'
     obtain ⟨v,hv⟩:=heo
     exact ⟨v,by rw [hbe]; exact hv⟩
   · refine (ok b u q).stay (fun c v hc r=>k c v ?_ r) (fun c r=>by rw [upd_ne (nown c b r)]; exact r) fun c xs r=>by rw [upd_ne (ntup c xs r)]; exact r
     rcases hc with rfl | hc
     · exact hbe
     · rintro rfl
       rcases he with z | z
       · exact nown c b hc z
       · rw [hc] at z; cases z; exact hb rfl
end
structure Un (fs ex:List Addr) (H H':Hp) (h h':Heap):Prop where
 keep:∀ b o,h.get? b=some o→H b=none→b∉fs→b∉ex→h'.get? b=some o
 slot:∀ b o,h.get? b=some o→H b=none→b∈fs→b∉ex→∃ sl,h'.get? b=some { o with slots:=sl }
 free:∀ b o,h.get? b=some o→H b=none→b∉ex→H' b=none
 there:∀ b o,h.get? b=some o→b∉ex→∃ o',h'.get? b=some o'
 tups:∀ b xs,H b=some (.tup xs)→H' b=some (.tup xs)
 frzs:∀ b o u,H b=some (.frz o u)→H' b=some (.frz o u)
 tbls:∀ b ps,H b=some (.tbl ps)→∃ more,H' b=some (.tbl (ps++more))
section
variable {fs fs' ex ex':List Addr} {H H1 H2:Hp} {h h1 h2 h':Heap} {a x e:Addr} {o:HO}
theorem Un.any (u:Un fs ex H H1 h h1) {b:Addr} {ob:Obj} (q:h.get? b=some ob) (n:H b=none) (hx:b∉ex):∃ sl,h1.get? b=some { ob with slots:=sl }:=by
 by_cases hb:b∈fs
 · exact u.slot b ob q n hb hx
 · exact ⟨ob.slots,u.keep b ob q n hb hx⟩
theorem Un.kept (k:∀ b u,h.get? b=some u→h'.get? b=some u):Un fs ex H H h h' :=
 ⟨fun b ob q _ _ _=>k b ob q,fun b ob q _ _ _=>⟨ob.slots,k b ob q⟩,fun _ _ _ n _=>n,fun b ob q _=>⟨ob,k b ob q⟩,fun _ _ q=>q,fun _ _ _ q=>q,fun _ ps q=>⟨#[],by rw [q]; simp⟩⟩
theorem Un.refl:Un fs ex H H h h:=Un.kept fun _ _ q=>q
theorem Un.laid (k:∀ b u,h.get? b=some u→h'.get? b=some u) (hp:h.objs.size≤a) (hn:H a=none):Un fs ex H (upd H a o) h h' where
 keep:=fun b u q _ _ _=>k b u q
 slot:=fun b u q _ _ _=>⟨u.slots,k b u q⟩
 free:=fun b u q n _=>by rw [upd_ne (Nat.ne_of_lt (Nat.lt_of_lt_of_le (Heap.lt_size q) hp))]; exact n
 there:=fun b u q _=>⟨u,k b u q⟩
 tups:=fun b xs q=>by rw [upd_ne (ne_of_none q hn)]; exact q
 frzs:=fun b u xs q=>by rw [upd_ne (ne_of_none q hn)]; exact q
 tbls:=fun b ps q=>⟨#[],by rw [upd_ne (ne_of_none q hn),q]; simp⟩
theorem Un.write (mu:Mut (H x)) (he:e=x∨H e=some (.own x)) (k:∀ b u,b≠e→h.get? b=some u→h'.get? b=some u) (heo:∃ u,h'.get? e=some u):Un fs ex H (upd H x o) h h':=by
 have hx:∀ b,H b=none→b≠x:=fun b n z=>by subst z; rw [n] at mu; exact mu
 have hb:∀ b,H b=none→b≠e:=fun b n z=>by
  subst z
  rcases he with r | r
  · exact hx b n r
  · rw [n] at r; cases r
 have hm:∀ b u,H b=some u→¬ Mut (some u)→b≠x:=fun b u q nm z=>by subst z; rw [q] at mu; exact nm mu
 refine ⟨fun b u q n _ _=>k b u (hb b n) q,fun b u q n _ _=>⟨u.slots,k b u (hb b n) q⟩,fun b u q n _=>by rw [upd_ne (hx b n)]; exact n,fun b u q _=>?_,
  fun b xs q=>by rw [upd_ne (hm b _ q fun z=>z)]; exact q,fun b u xs q=>by rw [upd_ne (hm b _ q fun z=>z)]; exact q,fun b ps q=>⟨#[],by rw [upd_ne (hm b _ q fun z=>z),q]; simp⟩⟩
 by_cases hbe:b=e
 · subst hbe; exact heo
 · exact ⟨u,k b u hbe q⟩
end
def trk (h:Heap) (H:Hp):List Addr:=(List.range h.objs.size).filter fun a=>(H a).isSome
def hidT (h:Heap) (H:Hp):Heap:=PySem.W.hideAll h (trk h H)
theorem hidT_size (h:Heap) (H:Hp):(hidT h H).objs.size=h.objs.size:=PySem.W.hideAll_size _ _
theorem hidT_get {h:Heap} {H:Hp} {b:Addr} {o:Obj} (e:h.get? b=some o) (n:H b=none):(hidT h H).get? b=some o :=
 PySem.W.hideAll_get _ e fun hm=>by
  have q:(H b).isSome=true:=(List.mem_filter.mp hm).2
  rw [n] at q; simp at q
theorem of_hidT {h:Heap} {H:Hp} {b:Addr} {o:Obj} (e:(hidT h H).get? b=some o):h.get? b=some o∧H b=none:=by
 have e':h.get? b=some o:=PySem.W.of_hideAll (trk h H) e
 refine ⟨e',?_⟩
 cases q:H b with
 | none=>rfl
 | some x =>
   have hm:b∈trk h H:=List.mem_filter.mpr ⟨List.mem_range.mpr (Heap.lt_size e'),by simp [q]⟩
   have z:(hidT h H).get? b=none:=PySem.W.hideAll_none (trk h H) hm
   rw [z] at e; cases e
end L2
namespace L2
open PySem PySem.Spec PyProof.Rows
structure Mod (K:PySem.W.Frag) (mg:Str→Option Value) (base:Heap):Prop where
 kin:K.In base
 glob:base.Ns mainGlobals mg
 blt:∃ mb,base.Ns builtinsNs mb∧∀ x:Str,x ≠ "__name__" → mb x=bootBuiltins x
 nolimit:base.NoLimit
structure Cx where
 prog:Program
 w:World
 K:PySem.W.Frag
 mg:Str→Option Value
 base:Heap
 A:Around
 N:List Str
 s₀:Shared
 H₀:Hp
 env:Env
 outer:List Env
 stack:List Env
 ex:List Addr
 fn:Str→Bool
 calm:Bool
 pn:List (Addr×Obj)
 xe:Value→Shared→Prop
def frs (l:List Env):List Addr:=l.filterMap (·.frame)
abbrev Cx.fs (X:Cx):List Addr:=frs X.outer
def Vis (sc:Scope) (x:Str):Prop:=sc.names.lookup x=some .local∨sc.names.lookup x=some .cell∨sc.names.lookup x=some .free
def Loc (sc:Scope) (x:Str):Prop:=sc.names.lookup x=some .local∨sc.names.lookup x=some .cell
def Look (env:Env) (h:Heap) (m:Str→Option Value) (x:Str) (u:Value):Prop :=
 (env.kindOf x=some .local∧m x=some u)∨((env.kindOf x=some .cell∨env.kindOf x=some .free)∧∃ c,env.cells.lookup x=some c∧h.IsCell c (some u))
structure Cx.Ok (X:Cx):Prop where
 mod:Mod X.K X.mg X.base
 kind:X.env.scope.kind=.function
 glob:X.env.globals=mainGlobals
 blt:X.env.builtins=builtinsNs
 above:X.s₀.heap.objs.size≤X.env.locals
 inj:∀ x y c,X.env.cells.lookup x=some c→X.env.cells.lookup y=some c→x=y
 has:∀ x,(X.env.kindOf x=some .cell∨X.env.kindOf x=some .free)→∃ c,X.env.cells.lookup x=some c
 cab:∀ x c,X.fn x=true→X.env.cells.lookup x=some c→X.s₀.heap.objs.size≤c
 hd:X.calm=true→X.A.handled=none
 frames:X.A.frames=some X.stack
 stk:X.stack=X.outer∨(X.stack=X.env :: X.outer∧X.env.frame=some X.env.locals)
 exf:∀ b∈X.ex,b≠X.env.locals∧∀ x c,X.env.cells.lookup x=some c→c≠b
 bs:∀ b o,X.base.get? b=some o→X.s₀.heap.get? b=some o∧X.H₀ b=none
 bsz:X.base.objs.size≤X.s₀.heap.objs.size
 noex:∀ b o,X.base.get? b=some o→b∉X.ex
 exfs:∀ b∈X.ex,b∉X.fs
 funs:X.s₀.heap.FunFrames X.base X.outer
 frf:∀ b∈X.fs,X.H₀ b=none
structure Inv (X:Cx) (pins:List (Addr×Obj)) (σ:List (Option V)) (H:Hp) (s:Shared):Prop where
 ok:X.Ok
 os:s.os=X.s₀.os
 bare:AllBare s.gens
 base:Un X.fs X.ex X.H₀ H X.s₀.heap s.heap
 loc:∃ m,s.heap.Ns X.env.locals m∧∀ (i:Nat) (x:Str) (v:V),X.N[i]? = some x→σ[i]? = some (some v)→Vis X.env.scope x→∃ u,RelV v u∧Look X.env s.heap m x u
 cell:∀ x c,X.env.cells.lookup x=some c→∃ v,s.heap.IsCell c v
 free:H X.env.locals=none
 freeC:∀ x c,X.env.cells.lookup x=some c→H c=none∨(X.fn x=false∧∃ o u,H c=some (.frz o u))
 pin:∀ p∈X.pn++pins,s.heap.get? p.1=some p.2∧H p.1=none∧p.1≠X.env.locals∧p.1∉X.fs∧∀ v,p.2.data≠.cell v
 hok:HOk X.prog X.w H s.heap
 len:σ.length=X.N.length
section
variable {X:Cx} {pins:List (Addr×Obj)} {σ:List (Option V)} {H H':Hp} {s:Shared} {h':Heap}
theorem Cx.Ok.nofr (ok:X.Ok) {b:Addr} {o:Obj} (e:X.base.get? b=some o):b∉X.fs:=fun hb=>by
 have:=(ok.funs.mem hb).1
 rw [e] at this; cases this
theorem Inv.bs (I:Inv X pins σ H s):∀ b o,X.base.get? b=some o→s.heap.get? b=some o∧H b=none:=fun b o e =>
 ⟨I.base.keep b o (I.ok.bs b o e).1 (I.ok.bs b o e).2 (I.ok.nofr e) (I.ok.noex b o e),I.base.free b o (I.ok.bs b o e).1 (I.ok.bs b o e).2 (I.ok.noex b o e)⟩
theorem Inv.bk (I:Inv X pins σ H s):∀ b o,X.base.get? b=some o→s.heap.get? b=some o:=fun b o e=>(I.bs b o e).1
theorem Inv.mod (I:Inv X pins σ H s):Mod X.K X.mg X.base:=I.ok.mod
theorem Inv.kIn (I:Inv X pins σ H s):X.K.In s.heap:=I.ok.mod.kin.keeps I.bk
theorem Inv.lt (I:Inv X pins σ H s):X.env.locals < s.heap.objs.size:=let ⟨_,hn,_⟩:=I.loc; hn.lt
theorem Inv.sz (I:Inv X pins σ H s):X.s₀.heap.objs.size≤s.heap.objs.size:=Nat.le_trans I.ok.above (Nat.le_of_lt I.lt)
theorem Inv.nofs (I:Inv X pins σ H s) {a:Addr} (h:s.heap.objs.size≤a):a∉X.fs:=fun hb=>by
 obtain ⟨_,o,ho,_⟩:=I.ok.funs.mem hb
 exact absurd (Nat.lt_of_lt_of_le (Heap.lt_size ho) (Nat.le_trans I.sz h)) (Nat.lt_irrefl _)
theorem Inv.cne (I:Inv X pins σ H s):∀ x c,X.env.cells.lookup x=some c→c≠X.env.locals:=fun x c e z=>by
 obtain ⟨v,o,ho,hd⟩:=I.cell x c e
 obtain ⟨m,⟨o',es,ep,ho',hd',_⟩,_⟩:=I.loc
 rw [z,ho'] at ho; cases ho; rw [hd'] at hd; cases hd
theorem Inv.funs (I:Inv X pins σ H s):s.heap.FunFrames X.base X.outer:=by
 have all:∀ (l:List Env),(∀ b∈frs l,b∈X.fs)→X.s₀.heap.FunFrames X.base l→s.heap.FunFrames X.base l:=by
  intro l
  induction l with
  | nil=>intro _ _; trivial
  | cons env r ih =>
    intro hs hl
    obtain ⟨hk,⟨L,o,hf,hn,ho,hd⟩,hr⟩:=hl
    have hL:L∈X.fs:=hs L (by unfold frs; rw [List.filterMap_cons,hf]; exact List.mem_cons_self)
    obtain ⟨sl,e⟩:=I.base.slot L o ho (I.ok.frf L hL) hL fun z=>I.ok.exfs L z hL
    exact ⟨hk,⟨L,_,hf,hn,e,hd⟩,ih (fun b hb=>hs b (by unfold frs; rw [List.filterMap_cons,hf]; exact List.mem_cons_of_mem _ hb)) hr⟩
 exact all X.outer (fun _ hb=>hb) I.ok.funs
theorem Inv.stack (I:Inv X pins σ H s):s.heap.FunFrames X.base X.stack:=by
 rcases I.ok.stk with e | ⟨e,hf⟩
 · rw [e]; exact I.funs
 · rw [e]
   obtain ⟨m,hn,_⟩:=I.loc
   refine .cons (by rw [I.ok.kind]; decide) hf hn ?_ I.funs
   exact Heap.get?_none_of_le (Nat.le_trans I.ok.bsz I.ok.above)
theorem Inv.stkSub (I:Inv X pins σ H s):∀ b∈frs X.stack,b∈X.env.locals :: X.fs:=fun b hb=>by
 rcases I.ok.stk with e | ⟨e,hf⟩
 · rw [e] at hb; exact List.mem_cons_of_mem _ hb
 · rw [e] at hb
   unfold frs at hb
   rw [List.filterMap_cons,hf] at hb
   exact hb
theorem Inv.stkFree (I:Inv X pins σ H s):∀ b∈frs X.stack,H b=none:=fun b hb=>by
 rcases List.mem_cons.mp (I.stkSub b hb) with e | hb
 · rw [e]; exact I.free
 · obtain ⟨_,o,ho,_⟩:=I.ok.funs.mem hb
   exact I.base.free b o ho (I.ok.frf b hb) fun z=>I.ok.exfs b z hb
theorem Inv.step {g':Array GenState} {t':Nat} {d':Drawn} {ch:List Addr} (I:Inv X pins σ H s)
 (hch:∀ b∈ch,(b∈X.ex∨X.s₀.heap.objs.size≤b)∧b≠X.env.locals∧(∀ x c,X.env.cells.lookup x=some c→c≠b)∧∀ p∈X.pn++pins,p.1≠b)
 (keep:∀ b o,b≠X.env.locals→b∉X.fs→b∉ch→s.heap.get? b=some o→H b=none→h'.get? b=some o)
 (slot:∀ b o,b≠X.env.locals→b∈X.fs→b∉ch→s.heap.get? b=some o→H b=none→∃ sl,h'.get? b=some { o with slots:=sl }) (free:∀ b o,b∉ch→s.heap.get? b=some o→H b=none→H' b=none)
 (there:∀ b o,b∉ch→s.heap.get? b=some o→∃ o',h'.get? b=some o')
 (tups:∀ b xs,H b=some (.tup xs)→H' b=some (.tup xs)) (frzs:∀ b o u,H b=some (.frz o u)→H' b=some (.frz o u)) (tbls:∀ b ps,H b=some (.tbl ps)→∃ more,H' b=some (.tbl (ps++more)))
 (ns:∀ m,s.heap.Ns X.env.locals m→h'.Ns X.env.locals m) (hok:HOk X.prog X.w H' h') (hg:AllBare g') :
 Inv X pins σ H' { s with heap:=h',gens:=g',drawn:=d',toks:=t' }:=by
 have neL:∀ b o,X.s₀.heap.get? b=some o→b≠X.env.locals:=fun b o e=>Nat.ne_of_lt (Nat.lt_of_lt_of_le (Heap.lt_size e) I.ok.above)
 have neC:∀ b o,X.s₀.heap.get? b=some o→b∉X.ex→b∉ch:=fun b o e hx hb=>by
  rcases (hch b hb).1 with z | z
  · exact hx z
  · exact absurd (Nat.lt_of_lt_of_le (Heap.lt_size e) z) (Nat.lt_irrefl _)
 have cellK:∀ x c,X.env.cells.lookup x=some c→∀ v,s.heap.IsCell c v→h'.IsCell c v:=fun x c e v ⟨o,ho,hd⟩=>by
  have nch:c∉ch:=fun z=>(hch c z).2.2.1 x c e rfl
  rcases I.freeC x c e with fz | ⟨_,o',u',fz⟩
  · by_cases hc:c∈X.fs
    · obtain ⟨sl,q⟩:=slot c o (I.cne x c e) hc nch ho fz
      exact ⟨_,q,hd⟩
    · exact ⟨o,keep c o (I.cne x c e) hc nch ho fz,hd⟩
  · have h1:=(I.hok c _ fz).1
    rw [ho] at h1; cases h1
    exact ⟨o,(hok c _ (frzs c o u' fz)).1,hd⟩
 refine ⟨I.ok,I.os,hg,⟨fun b o e n hb hx=>?_,fun b o e n hb hx=>?_,fun b o e n hx=>?_,fun b o e hx=>?_,fun b xs e=>tups b xs (I.base.tups b xs e),fun b o xs e=>frzs b o xs (I.base.frzs b o xs e),fun b ps e=>?_⟩,?_,fun x c e=>?_,?_,fun x c e=>?_,fun p hp=>?_,hok,I.len⟩
 · exact keep b o (neL b o e) hb (neC b o e hx) (I.base.keep b o e n hb hx) (I.base.free b o e n hx)
 · obtain ⟨sl,e1⟩:=I.base.slot b o e n hb hx
   obtain ⟨sl',e2⟩:=slot b _ (neL b o e) hb (neC b o e hx) e1 (I.base.free b o e n hx)
   exact ⟨sl',e2⟩
 · obtain ⟨o',e1⟩:=I.base.there b o e hx
   exact free b o' (neC b o e hx) e1 (I.base.free b o e n hx)
 · obtain ⟨o',e1⟩:=I.base.there b o e hx
   exact there b o' (neC b o e hx) e1
 · obtain ⟨m1,e1⟩:=I.base.tbls b ps e
   obtain ⟨m2,e2⟩:=tbls b _ e1
   exact ⟨m1++m2,by rw [e2,Array.append_assoc]⟩
 · obtain ⟨m,hn,hl⟩:=I.loc
   refine ⟨m,ns m hn,fun i x v e1 e2 e3=>?_⟩
   obtain ⟨u,r,l⟩:=hl i x v e1 e2 e3
   refine ⟨u,r,?_⟩
   rcases l with l | ⟨k,c,e,z⟩
   · exact .inl l
   · exact .inr ⟨k,c,e,cellK x c e _ z⟩
 · obtain ⟨v,z⟩:=I.cell x c e
   exact ⟨v,cellK x c e v z⟩
 · obtain ⟨m,⟨o,_,_,ho,_⟩,_⟩:=I.loc
   exact free _ o (fun z=>(hch _ z).2.1 rfl) ho I.free
 · obtain ⟨v,o,ho,hd⟩:=I.cell x c e
   exact (I.freeC x c e).imp (fun fz=>free c o (fun z=>(hch c z).2.2.1 x c e rfl) ho fz) fun ⟨q,o',u',fz⟩=>⟨q,o',u',frzs c o' u' fz⟩
 · obtain ⟨e,n,ne,nf,d⟩:=I.pin p hp
   have nch:p.1∉ch:=fun z=>(hch p.1 z).2.2.2 p hp rfl
   exact ⟨keep p.1 p.2 ne nf nch e n,free p.1 p.2 nch e n,ne,nf,d⟩
theorem Inv.un {t':Nat} (I:Inv X pins σ H s) (u:Un X.fs [] H H' s.heap h') (hok:HOk X.prog X.w H' h'):Inv X pins σ H' { s with heap:=h',toks:=t' }:=by
 obtain ⟨m,⟨o,es,ep,ho,r⟩,_⟩:=id I.loc
 obtain ⟨sl,hL⟩:=u.any ho I.free (by simp)
 exact I.step (g':=s.gens) (d':=s.drawn) (ch:=[]) (fun _ z=>nomatch z) (fun b o _ hb _ e n=>u.keep b o e n hb (by simp)) (fun b o _ hb _ e n=>u.slot b o e n hb (by simp)) (fun b o _ e n=>u.free b o e n (by simp)) (fun b o _ e=>u.there b o e (by simp)) u.tups u.frzs u.tbls (fun m' hm=>by
  obtain ⟨o',es',ep',ho',r'⟩:=hm
  rw [ho] at ho'; cases ho'
  exact ⟨_,es',ep',hL,r'⟩) hok I.bare
theorem Inv.call {g':Array GenState} {t':Nat} {d':Drawn} {ch:List Addr} (I:Inv X pins σ H s) (u:Un (frs X.stack) ch H H' s.heap h') (hok:HOk X.prog X.w H' h') (hg:AllBare g')
 (hch:∀ b∈ch,(b∈X.ex∨X.s₀.heap.objs.size≤b)∧b≠X.env.locals∧(∀ x c,X.env.cells.lookup x=some c→c≠b)∧∀ p∈X.pn++pins,p.1≠b) :
 Inv X pins σ H' { s with heap:=h',gens:=g',drawn:=d',toks:=t' }:=by
 obtain ⟨m,⟨o,es,ep,ho,r⟩,_⟩:=id I.loc
 obtain ⟨sl,hL⟩:=u.any ho I.free fun z=>(hch _ z).2.1 rfl
 exact I.step (ch:=ch) hch (fun b o hL hb hc e n=>u.keep b o e n (fun z=>(List.mem_cons.mp (I.stkSub b z)).elim hL hb) hc) (fun b o _ _ hc e n=>u.any e n hc) (fun b o hc e n=>u.free b o e n hc) (fun b o hc e=>u.there b o e hc) u.tups u.frzs u.tbls (fun m' hm=>by
  obtain ⟨o',es',ep',ho',r'⟩:=hm
  rw [ho] at ho'; cases ho'
  exact ⟨_,es',ep',hL,r'⟩) hok hg
theorem Inv.turned {t':Nat} {it:Addr} (I:Inv X pins σ H s) (k:∀ b o,b≠it→s.heap.get? b=some o→h'.get? b=some o) (hn:H it=none) (hL:it≠X.env.locals)
 (h1:it∈X.ex∨X.s₀.heap.objs.size≤it) (h2:∀ x c,X.env.cells.lookup x=some c→c≠it) (h3:∀ p∈X.pn++pins,p.1≠it):Inv X pins σ H { s with heap:=h',toks:=t' }:=by
 have nit:∀ b u,H b=some u→b≠it:=fun b u e z=>by rw [z,hn] at e; cases e
 refine I.step (g':=s.gens) (d':=s.drawn) (ch:=[it]) (fun b hb=>?_) (fun b o _ _ hc e _=>k b o (fun z=>hc (by simp [z])) e) (fun b o _ _ hc e _=>⟨o.slots,k b o (fun z=>hc (by simp [z])) e⟩) (fun _ _ _ _ n=>n)
  (fun b o hc e=>⟨o,k b o (fun z=>hc (by simp [z])) e⟩) (fun _ _ e=>e) (fun _ _ _ e=>e) (fun b ps e=>⟨#[],by rw [e]; simp⟩) (fun m hm=>?_) (fun b u e=>?_) I.bare
 · have e:b=it:=by simpa using hb
   subst e
   exact ⟨h1,hL,h2,h3⟩
 · obtain ⟨o,es,ep,ho,r⟩:=hm
   exact ⟨o,es,ep,k _ o (Ne.symm hL) ho,r⟩
 · refine (I.hok b u e).stay (fun c v hc q=>k c v ?_ q) (fun _ q=>q) fun _ _ q=>q
   rcases hc with z | z
   · rw [z]; exact nit b u e
   · exact nit c _ z
theorem Inv.tok (I:Inv X pins σ H s) (t:Nat):Inv X pins σ H { s with toks:=t }:=I.un (h':=s.heap) (t':=t) Un.refl I.hok
theorem Inv.kept {t':Nat} (I:Inv X pins σ H s) (k:∀ b u,s.heap.get? b=some u→h'.get? b=some u):Inv X pins σ H { s with heap:=h',toks:=t' }:=I.un (Un.kept k) (I.hok.kept k)
theorem Inv.laid {a:Addr} {o:HO} {t':Nat} (I:Inv X pins σ H s) (k:∀ b u,s.heap.get? b=some u→h'.get? b=some u) (hp:s.heap.objs.size≤a) (new:ObjOk X.prog X.w (upd H a o) h' a o) :
 Inv X pins σ (upd H a o) { s with heap:=h',toks:=t' }:=I.un (Un.laid k hp (I.hok.fresh hp)) (I.hok.laid k hp new)
theorem Inv.write {x e:Addr} {o:HO} {t':Nat} (I:Inv X pins σ H s) (mu:Mut (H x)) (he:e=x∨H e=some (.own x)) (k:∀ b u,b≠e→s.heap.get? b=some u→h'.get? b=some u) (heo:∃ u,h'.get? e=some u)
 (new:ObjOk X.prog X.w (upd H x o) h' x o):Inv X pins σ (upd H x o) { s with heap:=h',toks:=t' }:=I.un (Un.write mu he k heo) (I.hok.write mu he k heo new)
theorem Inv.pins_of {pins':List (Addr×Obj)} (I:Inv X pins σ H s) (h:∀ p∈pins',s.heap.get? p.1=some p.2∧H p.1=none∧p.1≠X.env.locals∧p.1∉X.fs∧∀ v,p.2.data≠.cell v):Inv X pins' σ H s :=
 ⟨I.ok,I.os,I.bare,I.base,I.loc,I.cell,I.free,I.freeC,fun p hp=>(List.mem_append.mp hp).elim (fun z=>I.pin p (List.mem_append_left _ z)) (h p),I.hok,I.len⟩
theorem nodup_ix {N:List Str} (hN:N.Nodup) {i j:Nat} {x:Str} (a:N[i]? = some x) (b:N[j]? = some x):i=j:=by
 obtain ⟨h1,e1⟩:=List.getElem?_eq_some_iff.mp a
 obtain ⟨h2,e2⟩:=List.getElem?_eq_some_iff.mp b
 exact (List.getElem_inj hN).mp (e1.trans e2.symm)
theorem store_ok2 {M:Model} {A:Around} {E:Value→Shared→Prop} {i:Nat} {x:Str} {v:V} {u:Value} {Q:Unit→Shared→Prop} (I:Inv X pins σ H s) (hN:X.N.Nodup) (hi:X.N[i]? = some x) (hx:Loc X.env.scope x) (r:RelV v u)
 (h:∀ s',Inv X pins (σ.set i (some v)) H s'→(∃ a,Heap.SameBut a s.heap s'.heap∧(a=X.env.locals∨X.env.cells.lookup x=some a))→Q () s') (hf:X.fn x=true∨X.env.scope.names.lookup x=some .local:=by first | exact .inl rfl | exact .inr rfl | assumption):wpAny M A (storeName X.env x u) Q E s:=by
 obtain ⟨m,hn,hl⟩:=id I.loc
 have hcls:(X.env.scope.kind == .class || (X.env.scope.kind == .module && X.env.locals != X.env.globals))=false:=by rw [I.ok.kind]; rfl
 have hiσ:i < σ.length:=by rw [I.len]; exact (List.getElem?_eq_some_iff.mp hi).1
 have cne:=I.cne
 have tracked:∀ {a:Addr} {h':Heap},(∃ o,s.heap.get? a=some o∧H a=none)→Heap.SameBut a s.heap h'→HOk X.prog X.w H h':=fun {a h'} ha hs b ob e=>by
  obtain ⟨_,_,hfree⟩:=ha
  refine (I.hok b ob e).stay (fun c w' hc q=>(hs.2 c ?_).trans q) (fun _ q=>q) fun _ _ q=>q
  rintro rfl
  rcases hc with rfl | hc
  · rw [hfree] at e; cases e
  · rw [hfree] at hc; cases hc
 rcases hx with hk | hk
 · refine wpAny_storeName_local hk hn (fun h' hn' hs=>?_) hcls
   obtain ⟨oL,_,_,hoL,_⟩:=id hn
   refine h _ ⟨I.ok,I.os,I.bare,⟨fun b o e n hb hx=>?_,fun b o e n hb hx=>?_,I.base.free,fun b o e hx=>?_,I.base.tups,I.base.frzs,I.base.tbls⟩,⟨_,hn',fun j y v' e1 e2 e3=>?_⟩,fun y c e=>?_,I.free,I.freeC,fun p hp=>?_,tracked ⟨oL,hoL,I.free⟩ hs,by simpa using I.len⟩ ⟨_,hs,.inl rfl⟩
   · exact (hs.2 b (Nat.ne_of_lt (Nat.lt_of_lt_of_le (Heap.lt_size e) I.ok.above))).trans (I.base.keep b o e n hb hx)
   · obtain ⟨sl,e1⟩:=I.base.slot b o e n hb hx
     exact ⟨sl,(hs.2 b (Nat.ne_of_lt (Nat.lt_of_lt_of_le (Heap.lt_size e) I.ok.above))).trans e1⟩
   · obtain ⟨o',e1⟩:=I.base.there b o e hx
     exact ⟨o',(hs.2 b (Nat.ne_of_lt (Nat.lt_of_lt_of_le (Heap.lt_size e) I.ok.above))).trans e1⟩
   · by_cases hj:j=i
     · subst hj
       rw [hi] at e1; cases e1
       rw [List.getElem?_set_self hiσ] at e2
       cases e2
       exact ⟨u,r,.inl ⟨hk,by simp⟩⟩
     · rw [List.getElem?_set_ne (Ne.symm hj)] at e2
       obtain ⟨u',r',q⟩:=hl j y v' e1 e2 e3
       refine ⟨u',r',?_⟩
       rcases q with ⟨k,e⟩ | ⟨k,c,e,z⟩
       · refine .inl ⟨k,?_⟩
         have:y≠x:=fun e=>hj (nodup_ix hN e1 (e ▸ hi))
         simp [this,e]
       · exact .inr ⟨k,c,e,z.sameBut hs (cne y c e)⟩
   · obtain ⟨w',z⟩:=I.cell y c e
     exact ⟨w',z.sameBut hs (cne y c e)⟩
   · obtain ⟨e,n,ne,nf,d⟩:=I.pin p hp
     exact ⟨(hs.2 p.1 ne).trans e,n,ne,nf,d⟩
 · have hfn:X.fn x=true:=by
    rcases hf with z | z
    · exact z
    · rw [z] at hk; cases hk
   obtain ⟨c,hc⟩:=I.ok.has x (.inl hk)
   obtain ⟨w',z⟩:=I.cell x c hc
   refine wpAny_storeName_cell I.ok.kind hk hc z (fun h' hc' hs=>?_)
   obtain ⟨oc,hoc,hocd⟩:=id z
   refine h { s with heap:=h' } ⟨I.ok,I.os,I.bare,⟨fun b o e n hb hx=>?_,fun b o e n hb hx=>?_,I.base.free,fun b o e hx=>?_,I.base.tups,I.base.frzs,I.base.tbls⟩,⟨m,hn.sameBut hs (Ne.symm (cne x c hc)),fun j y v' e1 e2 e3=>?_⟩,fun y c' e=>?_,I.free,I.freeC,fun p hp=>?_,tracked ⟨oc,hoc,(I.freeC x c hc).elim id fun z=>(by rw [hfn] at z; cases z.1)⟩ hs,by simpa using I.len⟩ ⟨c,hs,.inr hc⟩
   · exact (hs.2 b (Nat.ne_of_lt (Nat.lt_of_lt_of_le (Heap.lt_size e) (I.ok.cab x c hfn hc)))).trans (I.base.keep b o e n hb hx)
   · obtain ⟨sl,e1⟩:=I.base.slot b o e n hb hx
     exact ⟨sl,(hs.2 b (Nat.ne_of_lt (Nat.lt_of_lt_of_le (Heap.lt_size e) (I.ok.cab x c hfn hc)))).trans e1⟩
   · obtain ⟨o',e1⟩:=I.base.there b o e hx
     exact ⟨o',(hs.2 b (Nat.ne_of_lt (Nat.lt_of_lt_of_le (Heap.lt_size e) (I.ok.cab x c hfn hc)))).trans e1⟩
   · by_cases hj:j=i
     · subst hj
       rw [hi] at e1; cases e1
       rw [List.getElem?_set_self hiσ] at e2
       cases e2
       exact ⟨u,r,.inr ⟨.inl hk,c,hc,hc'⟩⟩
     · rw [List.getElem?_set_ne (Ne.symm hj)] at e2
       obtain ⟨u',r',q⟩:=hl j y v' e1 e2 e3
       refine ⟨u',r',?_⟩
       rcases q with q | ⟨k,c',e,z'⟩
       · exact .inl q
       · refine .inr ⟨k,c',e,z'.sameBut hs ?_⟩
         rintro rfl
         exact hj (nodup_ix hN e1 (I.ok.inj _ _ _ e hc ▸ hi))
   · by_cases hcc:c'=c
     · subst hcc; exact ⟨_,hc'⟩
     · obtain ⟨w2,z2⟩:=I.cell y c' e
       exact ⟨w2,z2.sameBut hs hcc⟩
   · obtain ⟨e,n,ne,nf,d⟩:=I.pin p hp
     refine ⟨(hs.2 p.1 ?_).trans e,n,ne,nf,d⟩
     intro q
     rw [q,hoc] at e
     have q':oc=p.2:=Option.some.inj e
     exact d w' (by rw [← q']; exact hocd)
theorem store_ok {M:Model} {A:Around} {E:Value→Shared→Prop} {i:Nat} {x:Str} {v:V} {u:Value} {Q:Unit→Shared→Prop} (I:Inv X pins σ H s) (hN:X.N.Nodup) (hi:X.N[i]? = some x) (hx:Loc X.env.scope x) (r:RelV v u)
 (h:∀ s',Inv X pins (σ.set i (some v)) H s'→Q () s') (hf:X.fn x=true∨X.env.scope.names.lookup x=some .local:=by first | exact .inl rfl | exact .inr rfl | assumption):wpAny M A (storeName X.env x u) Q E s :=
 store_ok2 I hN hi hx r (fun s' I' _=>h s' I') hf
theorem Inv.call' {s':Shared} {ch:List Addr} (I:Inv X pins σ H s) (ho:s'.os=s.os) (u:Un (frs X.stack) ch H H' s.heap s'.heap) (hok:HOk X.prog X.w H' s'.heap) (hg:AllBare s'.gens)
 (hch:∀ b∈ch,(b∈X.ex∨X.s₀.heap.objs.size≤b)∧b≠X.env.locals∧(∀ x c,X.env.cells.lookup x=some c→c≠b)∧∀ p∈X.pn++pins,p.1≠b):Inv X pins σ H' s':=by
 obtain ⟨h',g',d',t',o'⟩:=s'
 have e:o'=s.os:=ho
 subst e
 exact I.call (g':=g') (t':=t') (d':=d') u hok hg hch
end
abbrev XK:=Value→Option Addr→Hp→Prop
abbrev St:=List (Option V)
abbrev VK:=V→Hp→Prop
abbrev TE:=St→Hp→VK→Prop
abbrev TT:=St→Hp→(Bool→Hp→Prop)→Prop
abbrev TA:=St→Hp→(List V→Hp→Prop)→Prop
structure Ends where
 nx:St→Hp→Prop
 rt:VK
 bk:St→Hp→Prop:=fun _ _=>False
 ct:St→Hp→Prop:=fun _ _=>False
abbrev TS:=Ends→St→Hp→Prop
def EP (X:Cx) (pins:List (Addr×Obj)) (σ:St) (Q:VK) (u:Value) (s':Shared):Prop:=∃ v H',Inv X pins σ H' s'∧RelV v u∧Q v H'
def TP (X:Cx) (pins:List (Addr×Obj)) (σ:St) (Q:Bool→Hp→Prop) (b:Bool) (s':Shared):Prop:=∃ H',Inv X pins σ H' s'∧Q b H'
def AP (X:Cx) (pins:List (Addr×Obj)) (σ:St) (Q:List V→Hp→Prop) (us:List Value) (s':Shared):Prop:=∃ vs H',Inv X pins σ H' s'∧Vals vs us∧Q vs H'
def SP (X:Cx) (pins:List (Addr×Obj)) (D:Ends) (f:Flow) (s':Shared):Prop :=
 match f with
 | .next=>∃ σ' H',Inv X pins σ' H' s'∧D.nx σ' H'
 | .brk=>∃ σ' H',Inv X pins σ' H' s'∧D.bk σ' H'
 | .cont=>∃ σ' H',Inv X pins σ' H' s'∧D.ct σ' H'
 | .ret u=>∃ v σ' H',Inv X pins σ' H' s'∧RelV v u∧D.rt v H'
def PE (X:Cx) (e:Expr) (t:TE):Prop :=
 ∀ (pins:List (Addr×Obj)) (s:Shared) (σ:St) (H:Hp) (Q:VK),Inv X pins σ H s→t σ H Q→wpAny (model X.prog X.w) X.A (eval e X.env) (EP X pins σ Q) X.xe s
def PT (X:Cx) (e:Expr) (t:TT):Prop :=
 ∀ (pins:List (Addr×Obj)) (s:Shared) (σ:St) (H:Hp) (Q:Bool→Hp→Prop),Inv X pins σ H s→t σ H Q→wpAny (model X.prog X.w) X.A (isTrue e X.env (eval e X.env)) (TP X pins σ Q) X.xe s
def PW (X:Cx) (e:Expr) (t:TT):Prop :=
 ∀ (whole:Sem Value) (pins:List (Addr×Obj)) (s:Shared) (σ:St) (H:Hp) (Q:Bool→Hp→Prop),Inv X pins σ H s→t σ H Q→wpAny (model X.prog X.w) X.A (isTrue e X.env whole) (TP X pins σ Q) X.xe s
theorem PW.pt {X:Cx} {e:Expr} {t:TT} (h:PW X e t):PT X e t:=h _
def PA (X:Cx) (es:List Expr) (t:TA):Prop :=
 ∀ (pos:Pos) (pins:List (Addr×Obj)) (s:Shared) (σ:St) (H:Hp) (Q:List V→Hp→Prop),Inv X pins σ H s→t σ H Q→wpAny (model X.prog X.w) X.A (spliced (backTo pos (starEach es X.env))) (AP X pins σ Q) X.xe s
def PS (X:Cx) (st:Stmt) (t:TS):Prop :=
 ∀ (pins:List (Addr×Obj)) (s:Shared) (σ:St) (H:Hp) (D:Ends),Inv X pins σ H s→t D σ H→wpAny (model X.prog X.w) X.A (exec st X.env) (SP X pins D) X.xe s
def PSs (X:Cx) (st:List Stmt) (t:TS):Prop :=
 ∀ (pins:List (Addr×Obj)) (s:Shared) (σ:St) (H:Hp) (D:Ends),Inv X pins σ H s→t D σ H→wpAny (model X.prog X.w) X.A (execs st X.env) (SP X pins D) X.xe s
theorem thn {α:Type} {t:Sem α} {Q Q':α→Shared→Prop} {M:Model} {A:Around} {E:Value→Shared→Prop} {s:Shared} (h:wpAny M A t Q E s) (hQ:∀ a s,Q a s→Q' a s):wpAny M A t Q' E s:=wpAny_mono h hQ fun _ _ x=>x
end L2
namespace L2
open PySem PySem.Spec PyProof.Rows
section
variable {X:Cx}
def tVar (i:Nat):TE:=fun σ H Q=>∃ v,σ[i]? = some (some v)∧Q v H
def tC (v:V):TE:=fun _ H Q=>Q v H
theorem pe_var {i:Nat} {x:Str} {pos:Pos} (hN:X.N[i]? = some x) (hv:Vis X.env.scope x) (hd:(x == ("__debug__" : Str))=false:=by decide) (hcd:(x == ("__classdict__" : Str))=false:=by decide):PE X (.Name x pos) (tVar i):=by
 intro pins s σ H Q I h
 obtain ⟨v,e,h⟩:=h
 obtain ⟨m,hn,hl⟩:=I.loc
 obtain ⟨u,r,l⟩:=hl i x v hN e hv
 have fin:EP X pins σ Q u s:=⟨v,H,I,r,h⟩
 rcases l with ⟨hk,hm⟩ | ⟨hk,c,hc,hcell⟩
 · exact wpAny_Name (wpAny_loadName_local I.ok.kind hk hn hm fin) hd
 · rcases hk with hk | hk
   · exact wpAny_Name (wpAny_loadName_cell I.ok.kind hk hc hcell fin) hd
   · exact wpAny_Name (wpAny_loadName_free I.ok.kind hk hc hcell fin hcd) hd
theorem pe_int {i j pos}:PE X (.Constant (.int i) j pos) (tC (.int i)):=fun _ _ _ H _ I h=>wpAny_Constant_int ⟨.int i,H,I.tok _,⟨_,rfl⟩,h⟩
theorem pe_bl {b j pos}:PE X (.Constant (.bool b) j pos) (tC (.bl b)):=fun _ _ _ H _ I h=>Constant_bool ⟨.bl b,H,I,rfl,h⟩
theorem pe_non {j pos}:PE X (.Constant .none j pos) (tC .non):=fun _ _ _ H _ I h=>Constant_none ⟨.non,H,I,rfl,h⟩
theorem pe_str {x j pos}:PE X (.Constant (.str x) j pos) (tC (.str x)):=fun _ _ _ H _ I h=>Calls.Constant_str ⟨.str x,H,I.tok _,⟨_,rfl⟩,h⟩
def Gl (X:Cx) (x:Str):Prop:=X.env.kindOf x=some .globalImplicit
theorem ld_glob {E:Value→Shared→Prop} {pins:List (Addr×Obj)} {s:Shared} {σ:St} {H:Hp} {x:Str} {u:Value} {pos:Pos} {Q:Value→Shared→Prop} (I:Inv X pins σ H s) (hg:Gl X x) (hm:X.mg x=some u) (h:Q u s)
 (hd:(x == ("__debug__" : Str))=false:=by decide):wpAny (model X.prog X.w) X.A (eval (.Name x pos) X.env) Q E s :=
 Calls.Name_function_global I.ok.kind hg (Calls.loadGlobal_global (by rw [I.ok.glob]; exact I.mod.glob.keeps I.bk) hm h) hd
theorem ld_blt {E:Value→Shared→Prop} {pins:List (Addr×Obj)} {s:Shared} {σ:St} {H:Hp} {x:Str} {u:Value} {pos:Pos} {Q:Value→Shared→Prop} (I:Inv X pins σ H s) (hg:Gl X x) (hm:X.mg x=none) (hv:bootBuiltins x=some u) (h:Q u s)
 (hn:x ≠ "__name__" := by decide) (hd:(x == ("__debug__" : Str))=false:=by decide):wpAny (model X.prog X.w) X.A (eval (.Name x pos) X.env) Q E s:=by
 obtain ⟨mb,h1,h2⟩:=I.mod.blt
 exact Calls.Name_function_global I.ok.kind hg (Calls.loadGlobal_builtin (by rw [I.ok.glob]; exact I.mod.glob.keeps I.bk) hm (by rw [I.ok.blt]; exact h1.keeps I.bk) ((h2 x hn).trans hv) h) hd
theorem pe_glob {x:Str} {v:V} {u:Value} {pos:Pos} (hg:Gl X x) (hm:X.mg x=some u) (r:RelV v u) (hd:(x == ("__debug__" : Str))=false:=by decide):PE X (.Name x pos) (tC v) :=
 fun _ _ _ H _ I h=>ld_glob I hg hm ⟨v,H,I,r,h⟩ hd
theorem pe_bltn {x:Str} {v:V} {u:Value} {pos:Pos} (hg:Gl X x) (hm:X.mg x=none) (hv:bootBuiltins x=some u) (r:RelV v u) (hn:x ≠ "__name__" := by decide) (hd:(x == ("__debug__" : Str))=false:=by decide):PE X (.Name x pos) (tC v) :=
 fun _ _ _ H _ I h=>ld_blt I hg hm hv ⟨v,H,I,r,h⟩ hn hd
variable {a b:Expr} {ta tb:TE} {pos:Pos}
variable {tA tB':TT} {rest:List Expr}
def tAnd (t u:TT):TT:=fun σ H Q=>t σ H fun c H1=>if c=true then u σ H1 Q else Q false H1
def tOr (t u:TT):TT:=fun σ H Q=>t σ H fun c H1=>if c=true then Q true H1 else u σ H1 Q
def tNot (t:TT):TT:=fun σ H Q=>t σ H fun c H1=>Q (!c) H1
theorem pw_and1 (ha:PT X a tA):PW X (.BoolOp .And [a] pos) tA:=by
 intro wh pins s σ H Q I h
 refine isTrue_and (thn (ha pins s σ H Q I h) fun c s1 e=>?_)
 cases c with
 | true=>exact isTrue_and_nil e
 | false=>exact e
theorem pw_or1 (ha:PT X a tA):PW X (.BoolOp .Or [a] pos) tA:=by
 intro wh pins s σ H Q I h
 refine isTrue_or (thn (ha pins s σ H Q I h) fun c s1 e=>?_)
 cases c with
 | false=>exact isTrue_or_nil e
 | true=>exact e
theorem pw_and (ha:PT X a tA) (hb:PW X (.BoolOp .And (b :: rest) pos) tB'):PW X (.BoolOp .And (a :: b :: rest) pos) (tAnd tA tB'):=by
 intro wh pins s σ H Q I h
 refine isTrue_and (thn (ha pins s σ H _ I h) fun c s1 ⟨H1,I1,q1⟩=>?_)
 cases c with
 | true=>exact hb wh pins s1 σ H1 Q I1 q1
 | false=>exact ⟨H1,I1,q1⟩
theorem pw_or (ha:PT X a tA) (hb:PW X (.BoolOp .Or (b :: rest) pos) tB'):PW X (.BoolOp .Or (a :: b :: rest) pos) (tOr tA tB'):=by
 intro wh pins s σ H Q I h
 refine isTrue_or (thn (ha pins s σ H _ I h) fun c s1 ⟨H1,I1,q1⟩=>?_)
 cases c with
 | true=>exact ⟨H1,I1,q1⟩
 | false=>exact hb wh pins s1 σ H1 Q I1 q1
theorem pt_not (ha:PT X a tA):PT X (.UnaryOp .Not a pos) (tNot tA):=by
 intro pins s σ H Q I h
 exact isTrue_not (ha pins s σ H (fun c H1=>Q (!c) H1) I h)
def tAndV (ta tb:TE):TE:=fun σ H Q=>ta σ H fun x H1=>∃ c,x=.bl c∧if c=true then tb σ H1 Q else Q (.bl false) H1
def tNotV (ta:TE):TE:=fun σ H Q=>ta σ H fun x H1=>∃ c,x=.bl c∧Q (.bl (!c)) H1
theorem pe_one {op} {t:TE} (h:PE X a t):PE X (.BoolOp op [a] pos) t:=fun pins s σ H Q I hw=>BoolOp_one (h pins s σ H Q I hw)
theorem pe_and (ha:PE X a ta) (hb:PE X (.BoolOp .And (b :: rest) pos) tb):PE X (.BoolOp .And (a :: b :: rest) pos) (tAndV ta tb):=by
 intro pins s σ H Q I h
 refine BoolOp_and (thn (ha pins s σ H _ I h) fun v s1 ⟨x,H1,I1,r1,q1⟩=>?_)
 obtain ⟨c,rfl,q1⟩:=q1
 cases r1
 refine wpAny_truthy_bool ?_
 cases c with
 | true=>exact hb pins s1 σ H1 Q I1 q1
 | false=>exact ⟨.bl false,H1,I1,rfl,q1⟩
theorem pe_not (ha:PE X a ta):PE X (.UnaryOp .Not a pos) (tNotV ta):=by
 intro pins s σ H Q I h
 refine UnaryOp_ (thn (ha pins s σ H _ I h) fun v s1 ⟨x,H1,I1,r1,q1⟩=>?_)
 obtain ⟨c,rfl,q1⟩:=q1
 cases r1
 exact not_of (wpAny_truthy_bool ⟨.bl (!c),H1,I1,rfl,q1⟩)
def tIf (t:TT) (ta tb:TE):TE:=fun σ H Q=>t σ H fun c H1=>if c=true then ta σ H1 Q else tb σ H1 Q
theorem pe_ifExp {c:Expr} (hc:PT X c tA) (ha:PE X a ta) (hb:PE X b tb):PE X (.IfExp c a b pos) (tIf tA ta tb):=by
 intro pins s σ H Q I h
 refine wpAny_IfExp (thn (hc pins s σ H _ I h) fun d s1 ⟨H1,I1,q1⟩=>?_)
 cases d with
 | true=>exact ha pins s1 σ H1 Q I1 q1
 | false=>exact hb pins s1 σ H1 Q I1 q1
end
end L2
namespace L2
open PySem PySem.Spec PyProof.Rows
def SqL (K:PySem.W.Frag) (H:Hp) (a:Addr) (xs:List V):Prop :=
 Rd H a (.lst xs) ∨
  ∃ (o:Obj) (its:Array Value) (n:Nat),K.lookup a=some o∧o.cls=.type "list" ∧ o.dict=none∧o.data=.seq its n∧its.size≤sizeLine∧Vals xs its.toList
def SqT (K:PySem.W.Frag) (H:Hp) (a:Addr) (xs:List V):Prop :=
 Rd H a (.tup xs) ∨
  ∃ (o:Obj) (its:Array Value) (n:Nat),K.lookup a=some o∧o.cls=.type "tuple" ∧ o.data=.seq its n∧its.size≤sizeLine∧Vals xs its.toList
def absV:Value→Option V
 | .none=>some .non
 | .bool b=>some (.bl b)
 | .int i _=>some (.int i)
 | .str x _=>some (.str x)
 | .bytes b _=>some (.byt b)
 | .float b _=>some (.flt b)
 | .ref a=>some (.ref a)
 | .type n=>some (.ty n)
 | _=>none
theorem RelV.abs {x:V} {u:Value} (r:RelV x u):absV u=some x:=by
 cases x with
 | non=>cases r; rfl
 | bl _=>cases r; rfl
 | int _=>obtain ⟨t,rfl⟩:=r; rfl
 | str _=>obtain ⟨t,rfl⟩:=r; rfl
 | byt _=>obtain ⟨t,rfl⟩:=r; rfl
 | flt _=>obtain ⟨t,rfl⟩:=r; rfl
 | ref _=>cases r; rfl
 | ty _=>cases r; rfl
theorem RelV.inj {x y:V} {u:Value} (r:RelV x u) (q:RelV y u):x=y:=Option.some.inj (r.abs.symm.trans q.abs)
theorem Vals.inj:∀ {xs ys:List V} {us:List Value},Vals xs us→Vals ys us→xs=ys
 | _,_,_,.nil,.nil=>rfl
 | _,_,_,.cons r t,.cons r' t'=>by rw [r.inj r',Vals.inj t t']
section
variable {X:Cx} {pins:List (Addr×Obj)} {σ:St} {H:Hp} {s:Shared} {a:Addr} {xs ys:List V}
theorem SqL.of {K:PySem.W.Frag} (h:H a=some (.lst xs)):SqL K H a xs:=.inl (.inl h)
theorem SqT.of {K:PySem.W.Frag} (h:H a=some (.tup xs)):SqT K H a xs:=.inl (.inl h)
theorem Inv.list (I:Inv X pins σ H s) (h:SqL X.K H a xs):∃ its:List Value,Vals xs its∧PlainL s.heap a its.toArray∧xs.length≤sizeLine:=by
 rcases h with h | ⟨o,its,n,hk,hc,hd,hs,hz,r⟩
 · obtain ⟨z,its,n,r,e⟩:=h.ok I.hok
   exact ⟨its,r,⟨_,n,e,rfl,rfl,rfl⟩,z⟩
 · refine ⟨its.toList,r,⟨o,n,I.kIn a o hk,hc,hd,by simpa using hs⟩,?_⟩
   have e:=r.length
   simp only [Array.length_toList] at e
   omega
theorem Inv.tuple (I:Inv X pins σ H s) (h:SqT X.K H a xs):∃ its:List Value,Vals xs its∧IsTup s.heap a its.toArray∧xs.length≤sizeLine:=by
 rcases h with h | ⟨o,its,n,hk,hc,hs,hz,r⟩
 · obtain ⟨z,its,r,p⟩:=h.ok I.hok
   exact ⟨its,r,p,z⟩
 · refine ⟨its.toList,r,⟨o,I.kIn a o hk,hc,n,by simpa using hs⟩,?_⟩
   have e:=r.length
   simp only [Array.length_toList] at e
   omega
theorem Inv.list_inj (I:Inv X pins σ H s) (h:SqL X.K H a xs) (h':SqL X.K H a ys):xs=ys:=by
 obtain ⟨its,r,⟨o,n,e,_,_,d⟩,_⟩:=I.list h
 obtain ⟨its',r',⟨o',n',e',_,_,d'⟩,_⟩:=I.list h'
 rw [e] at e'; cases e'
 rw [d] at d'
 injection d' with d1 _
 have:its=its':=by simpa using congrArg Array.toList d1
 subst this
 exact r.inj r'
theorem Inv.tuple_inj (I:Inv X pins σ H s) (h:SqT X.K H a xs) (h':SqT X.K H a ys):xs=ys:=by
 obtain ⟨its,r,⟨o,e,_,n,d⟩,_⟩:=I.tuple h
 obtain ⟨its',r',⟨o',e',_,n',d'⟩,_⟩:=I.tuple h'
 rw [e] at e'; cases e'
 rw [d] at d'
 injection d' with d1 _
 have:its=its':=by simpa using congrArg Array.toList d1
 subst this
 exact r.inj r'
end
abbrev Cx.wish (X:Cx) (E:Value→Shared→Prop):Cx:={ X with xe:=E }
abbrev Cx.nox (X:Cx):Cx:=X.wish fun _ _=>False
theorem Cx.Ok.wish {X:Cx} (ok:X.Ok) (E:Value→Shared→Prop):(X.wish E).Ok :=
 ⟨ok.mod,ok.kind,ok.glob,ok.blt,ok.above,ok.inj,ok.has,ok.cab,ok.hd,ok.frames,ok.stk,ok.exf,ok.bs,ok.bsz,ok.noex,ok.exfs,ok.funs,ok.frf⟩
theorem Cx.Ok.unwish {X:Cx} {E:Value→Shared→Prop} (ok:(X.wish E).Ok):X.Ok :=
 ⟨ok.mod,ok.kind,ok.glob,ok.blt,ok.above,ok.inj,ok.has,ok.cab,ok.hd,ok.frames,ok.stk,ok.exf,ok.bs,ok.bsz,ok.noex,ok.exfs,ok.funs,ok.frf⟩
section
variable {X:Cx} {pins:List (Addr×Obj)} {σ:St} {H:Hp} {s:Shared} {E:Value→Shared→Prop}
theorem Inv.wish (I:Inv X pins σ H s) (E:Value→Shared→Prop):Inv (X.wish E) pins σ H s:=⟨I.ok.wish E,I.os,I.bare,I.base,I.loc,I.cell,I.free,I.freeC,I.pin,I.hok,I.len⟩
theorem Inv.unwish (I:Inv (X.wish E) pins σ H s):Inv X pins σ H s:=⟨I.ok.unwish,I.os,I.bare,I.base,I.loc,I.cell,I.free,I.freeC,I.pin,I.hok,I.len⟩
theorem SP.unwish {D:Ends} {f:Flow} {s':Shared} (h:SP (X.wish E) pins D f s'):SP X pins D f s':=by
 cases f with
 | next=>obtain ⟨σ',H',I,q⟩:=h; exact ⟨σ',H',I.unwish,q⟩
 | brk=>obtain ⟨σ',H',I,q⟩:=h; exact ⟨σ',H',I.unwish,q⟩
 | cont=>obtain ⟨σ',H',I,q⟩:=h; exact ⟨σ',H',I.unwish,q⟩
 | ret u=>obtain ⟨v,σ',H',I,r,q⟩:=h; exact ⟨v,σ',H',I.unwish,r,q⟩
theorem PSs.nox {st:List Stmt} {t:TS} (h:PSs X.nox st t):PSs X st t:=fun pins s σ H D I hw =>
 wpAny_mono (h pins s σ H D (I.wish _) hw) (fun _ _ q=>q.unwish) fun _ _ z=>False.elim z
end
section
variable {X:Cx} {st:Stmt} {rest:List Stmt} {t u:TS} {e:Expr} {te:TE} {pos:Pos}
def tNext:TS:=fun D σ H=>D.nx σ H
def tSeq (t u:TS):TS:=fun D σ H=>t { D with nx:=u D } σ H
theorem pss_nil:PSs X [] tNext:=fun _ _ σ H _ I h=>wpAny_execs_nil ⟨σ,H,I,h⟩
theorem pss_cons (h1:PS X st t) (h2:PSs X rest u):PSs X (st :: rest) (tSeq t u):=by
 intro pins s σ H D I h
 refine wpAny_execs_cons (thn (h1 pins s σ H { D with nx:=u D } I h) fun f s1 q=>?_)
 cases f with
 | next =>
   obtain ⟨σ',H',I',q⟩:=q
   exact h2 pins s1 σ' H' D I' q
 | ret v=>exact q
 | brk=>exact q
 | cont=>exact q
theorem pss_one (h1:PS X st t):PSs X [st] t:=by
 intro pins s σ H D I h
 refine wpAny_execs_cons (thn (h1 pins s σ H D I h) fun f s1 q=>?_)
 cases f with
 | next=>exact wpAny_execs_nil q
 | ret v=>exact q
 | brk=>exact q
 | cont=>exact q
theorem Inv.quiet {pins:List (Addr×Obj)} {σ:St} {H:Hp} {s:Shared} (I:Inv X pins σ H s):interactive X.env=false:=by simp [interactive,I.ok.kind]
def tDrop (te:TE):TS:=fun D σ H=>te σ H fun _ H1=>D.nx σ H1
theorem ps_expr (he:PE X e te) (hs:swapsWith e none pos.line X.env=pure false:=by rfl):PS X (.Expr e pos) (tDrop te):=by
 intro pins s σ H D I h
 exact wpAny_Expr_any (thn (he pins s σ H _ I h) fun v s1 ⟨x,H1,I1,r1,q1⟩=>⟨σ,H1,I1,q1⟩) I.quiet hs
def tRet (te:TE):TS:=fun D σ H=>te σ H D.rt
theorem ps_ret (he:PE X e te):PS X (.Return (some e) pos) (tRet te):=by
 intro pins s σ H D I h
 exact wpAny_Return_some (thn (he pins s σ H _ I h) fun v s1 ⟨x,H1,I1,r1,q1⟩=>⟨x,σ,H1,I1,r1,q1⟩)
def tIfS (c:TT) (t u:TS):TS:=fun D σ H=>c σ H fun b H1=>if b=true then t D σ H1 else u D σ H1
theorem ps_if {c:Expr} {a b:List Stmt} {tc:TT} (hc:PT X c tc) (ha:PSs X a t) (hb:PSs X b u):PS X (.If c a b pos) (tIfS tc t u):=by
 intro pins s σ H D I h
 refine wpAny_If (thn (hc pins s σ H _ I h) fun d s1 ⟨H1,I1,q1⟩=>?_)
 cases d with
 | true=>exact ha pins s1 σ H1 D I1 q1
 | false=>exact hb pins s1 σ H1 D I1 q1
def tNever:TS:=fun _ _ _=>False
theorem pss_never {sts:List Stmt}:PSs X sts tNever:=fun _ _ _ _ _ _ h=>h.elim
end
abbrev TG:=V→St→Hp→(St→Hp→Prop)→Prop
abbrev TGs:=List V→St→Hp→(St→Hp→Prop)→Prop
def PG (X:Cx) (target:Expr) (t:TG):Prop :=
 ∀ (pins:List (Addr×Obj)) (s:Shared) (σ:St) (H:Hp) (v:V) (u:Value) (Q:St→Hp→Prop),Inv X pins σ H s→RelV v u→t v σ H Q →
   wpAny (model X.prog X.w) X.A (assign target X.env u) (fun _ s'=>∃ σ' H',Inv X pins σ' H' s'∧Q σ' H') X.xe s
def PGs (X:Cx) (ts:List Expr) (t:TGs):Prop :=
 ∀ (pins:List (Addr×Obj)) (s:Shared) (σ:St) (H:Hp) (vs:List V) (us:List Value) (Q:St→Hp→Prop),Inv X pins σ H s→Vals vs us→t vs σ H Q →
   wpAny (model X.prog X.w) X.A (assignInOrder ((assignEach ts X.env).map (·.2)) us) (fun _ s'=>∃ σ' H',Inv X pins σ' H' s'∧Q σ' H') X.xe s
abbrev TSet:=V→V→V→Hp→(Hp→Prop)→Prop
def PSet (X:Cx) (t:TSet):Prop :=
 ∀ (pins:List (Addr×Obj)) (s:Shared) (σ:St) (H:Hp) (o i v:V) (ov iv u:Value) (Q:Hp→Prop),Inv X pins σ H s→RelV o ov→RelV i iv→RelV v u→t o i v H Q →
   wpAny (model X.prog X.w) X.A (setItem ov iv u) (fun _ s'=>∃ H',Inv X pins σ H' s'∧Q H') X.xe s
section
variable {X:Cx} {pos:Pos}
def gName (i:Nat):TG:=fun v σ H Q=>Q (σ.set i (some v)) H
theorem pg_name {i:Nat} {x:Str} (hN:X.N.Nodup) (hi:X.N[i]? = some x) (hx:Loc X.env.scope x) (hf:X.fn x=true∨X.env.scope.names.lookup x=some .local:=by first | exact .inl rfl | exact .inr rfl | assumption):PG X (.Name x pos) (gName i):=by
 intro pins s σ H v u Q I r h
 exact wpAny_assign_Name (store_ok I hN hi hx r (fun s' I'=>⟨_,H,I',h⟩) hf)
def gNil:TGs:=fun vs σ H Q=>vs=[]∧Q σ H
def gCons (t:TG) (u:TGs):TGs:=fun vs σ H Q=>∃ v r,vs=v :: r∧t v σ H fun σ' H'=>u r σ' H' Q
theorem pgs_nil:PGs X [] gNil:=by
 intro pins s σ H vs us Q I r h
 obtain ⟨e,h⟩:=h
 subst e
 cases r
 exact assignInOrder_nil ⟨σ,H,I,h⟩
theorem pgs_cons {e:Expr} {es:List Expr} {t:TG} {u:TGs} (h1:PG X e t) (h2:PGs X es u)
 (hs:(assignEach (e :: es) X.env).map (·.2)=assign e X.env :: (assignEach es X.env).map (·.2):=by rfl):PGs X (e :: es) (gCons t u):=by
 intro pins s σ H vs us Q I r h
 obtain ⟨v,vr,e1,h⟩:=h
 subst e1
 cases r with
 | cons r rr =>
   rw [hs]
   refine assignInOrder_cons (thn (h1 pins s σ H _ _ _ I r h) fun _ s1 ⟨σ1,H1,I1,q1⟩=>?_)
   exact h2 pins s1 σ1 H1 _ _ Q I1 rr q1
def gTup (K:PySem.W.Frag) (n:Nat) (t:TGs):TG:=fun v σ H Q=>∃ a xs,v=.ref a∧SqT K H a xs∧xs.length=n∧t xs σ H Q
theorem pg_tup {es:List Expr} {k:Nat} {t:TGs} {n:Nat} (hc:X.calm=true) (h:PGs X es t)
 (hn:(assignEach es X.env).length=n:=by rfl) (hst:(assignEach es X.env).findIdx? (·.1)=none:=by rfl):PG X (.Tuple es k pos) (gTup X.K n t):=by
 intro pins s σ H v u Q I r hw
 obtain ⟨a,xs,e1,hq,hl,hw⟩:=hw
 subst e1
 cases r
 obtain ⟨its,rv,ht,hz⟩:=I.tuple hq
 refine assign_Tuple_tuple (I.ok.hd hc) ht (by simp [hn,← hl,rv.length]) hst fun h' hx=>?_
 have I1:Inv X pins σ H { s with heap:=h' }:=I.kept (t':=s.toks) fun b o e=>hx b o (Nat.ne_of_lt (Heap.lt_size e)) e
 exact h pins _ σ H xs _ Q I1 (by simpa using rv) hw
def gSub (to ti:TE) (t:TSet):TG:=fun v σ H Q=>to σ H fun o H1=>ti σ H1 fun i H2=>t o i v H2 fun H3=>Q σ H3
theorem pg_sub {o i:Expr} {to ti:TE} {t:TSet} (ho:PE X o to) (hi:PE X i ti) (hs:PSet X t)
 (ha:∀ v,assign (.Subscript o i pos) X.env v=(do
   let ov ← holding [v] (eval o X.env)
   let iv ← holding [v,ov] (eval i X.env)
   standAt pos
   holding [v,ov,iv] (setItem ov iv v)
   release [v,ov,iv] []):=by intro _; rfl):PG X (.Subscript o i pos) (gSub to ti t):=by
 intro pins s σ H v u Q I r h
 rw [ha]
 refine wpAny_bind (wpAny_holding (thn (ho pins s σ H _ I h) fun ov s1 ⟨x,H1,I1,r1,q1⟩=>?_))
 refine wpAny_bind (wpAny_holding (thn (hi pins s1 σ H1 _ I1 q1) fun iv s2 ⟨y,H2,I2,r2,q2⟩=>?_))
 refine wpAny_bind (wpAny_standAt (wpAny_bind (wpAny_holding (thn (hs pins s2 σ H2 x y v ov iv u _ I2 r1 r2 r q2) fun _ s3 ⟨H3,I3,q3⟩=>?_))))
 exact wpAny_release ⟨σ,H3,I3,q3⟩
def tAsg (te:TE) (g:TG):TS:=fun D σ H=>te σ H fun x H1=>g x σ H1 D.nx
theorem ps_asg {tg e:Expr} {te:TE} {g:TG} (he:PE X e te) (hg:PG X tg g) (hs:swapsWithSole [tg] e pos.line X.env=pure false:=by rfl) (hw:swappedStores [tg] e X.env=pure none:=by rfl)
 (h1:(assignEach [tg] X.env).map (·.2)=[assign tg X.env]:=by rfl):PS X (.Assign [tg] e pos) (tAsg te g):=by
 intro pins s σ H D I h
 refine wpAny_Assign_stores (thn (he pins s σ H _ I h) fun v s1 ⟨x,H1,I1,r1,q1⟩=>?_) hs hw
 rw [h1]
 exact thn (hg pins s1 σ H1 x v _ I1 r1 q1) fun _ s2 q=>q
theorem ps_set {i:Nat} {x:Str} {e:Expr} {te:TE} {pos':Pos} (hN:X.N.Nodup) (hi:X.N[i]? = some x) (hx:Loc X.env.scope x) (he:PE X e te) (hs:swapsWith e (some (.Name x pos')) pos.line X.env=pure false:=by rfl) (hf:X.fn x=true∨X.env.scope.names.lookup x=some .local:=by first | exact .inl rfl | exact .inr rfl | assumption) :
 PS X (.Assign [.Name x pos'] e pos) (tAsg te (gName i)):=by
 intro pins s σ H D I h
 refine wpAny_Assign_Name (thn (he pins s σ H _ I h) fun v s1 ⟨y,H1,I1,r1,q1⟩=>?_) hs
 exact store_ok I1 hN hi hx r1 (fun s2 I2=>⟨_,H1,I2,q1⟩) hf
def tPar (i j:Nat) (ta:TA):TS:=fun D σ H=>ta σ H fun vs H1=>∃ v w,vs=[v,w]∧D.nx ((σ.set i (some v)).set j (some w)) H1
theorem ps_par {i j:Nat} {x y:Str} {a b:Expr} {ta:TA} {px py pt:Pos} {kt k2 pt2} (hc:X.calm=true) (hN:X.N.Nodup) (hi:X.N[i]? = some x) (hj:X.N[j]? = some y) (hij:i≠j)
 (hx:X.env.scope.names.lookup x=some .local) (hy:X.env.scope.names.lookup y=some .local) (ha:PA X [a,b] ta)
 (hw:swappedStores [.Tuple [.Name x px,.Name y py] kt pt] (.Tuple [a,b] k2 pt2) X.env=pure (some [x,y]))
 (hs:swapsWithSole [.Tuple [.Name x px,.Name y py] kt pt] (.Tuple [a,b] k2 pt2) pos.line X.env=pure false:=by rfl) :
 PS X (.Assign [.Tuple [.Name x px,.Name y py] kt pt] (.Tuple [a,b] k2 pt2) pos) (tPar i j ta):=by
 intro pins s σ H D I h
 rw [exec_Assign_arm]
 refine wpAny_bind (wpAny_standAt ?_)
 rw [hs]
 refine wpAny_bind (wpAny_pure ?_)
 rw [if_neg (by decide)]
 refine wpAny_bind (Tuple_ (thn (ha _ pins s σ H _ I h) fun us s1 ⟨vs,H1,I1,r1,q1⟩=>?_))
 obtain ⟨v,w,e1,q1⟩:=q1
 subst e1
 obtain ⟨u1,u2,rfl,rv,rw'⟩:∃ u1 u2,us=[u1,u2]∧RelV v u1∧RelV w u2:=by
  cases r1 with
  | cons p q =>
    cases q with
    | cons p' q' =>
      cases q'
      exact ⟨_,_,rfl,p,p'⟩
 refine wpAny_newObj_type ?_ (by show 2≤sizeLine; decide)
 have I2:Inv X pins σ H1 { s1 with heap:=s1.heap.push { cls:=.type "tuple",data:=.seq [u1,u2].toArray } }:=I1.kept (t':=s1.toks) fun b o e=>Heap.get?_push_of_some _ e
 rw [hw]
 refine wpAny_bind (wpAny_pure ?_)
 show wpAny (model X.prog X.w) X.A (do rule "assign.swapped-stores"; let items ← unpackItems (.ref s1.heap.objs.size) 2 none; assignInOrder [fun v=>bindName X.env y v,fun v=>bindName X.env x v] items.reverse; pure Flow.next) _ _ _
 refine wpAny_bind (wpAny_rule (wpAny_bind (unpackItems_tuple (items:=#[u1,u2]) (I.ok.hd hc) (IsTup.new s1.heap _) fun h' hx'=>?_)))
 have I3:=I2.kept (h':=h') (t':=s1.toks) fun b o e=>hx' b o (Nat.ne_of_lt (Heap.lt_size e)) e
 show wpAny _ _ (assignInOrder [fun v=>bindName X.env y v,fun v=>bindName X.env x v] [u2,u1] >>= fun _=>pure Flow.next) _ _ _
 refine wpAny_bind (assignInOrder_cons (wpAny_bindName (store_ok I3 hN hj (.inl hy) rw' (fun s2 I4=>?_) (.inr hy))))
 refine assignInOrder_cons (wpAny_bindName (store_ok I4 hN hi (.inl hx) rv (fun s3 I5=>assignInOrder_nil (wpAny_pure ?_)) (.inr hx)))
 rw [List.set_comm _ _ (Ne.symm hij)] at I5
 exact ⟨_,H1,I5,q1⟩
end
section
variable {X:Cx} {pos:Pos}
def tWhile (c:TT) (tb:TS):TS:=fun D σ H=>∃ W:Nat→St→Hp→Prop,(∃ m,W m σ H)∧∀ m σ H,W m σ H →
 c σ H fun b H1=>if b=true then ∃ N:St→Hp→Prop,(∀ σ' H',N σ' H'→∃ m',m' < m∧W m' σ' H')∧tb { D with nx:=N,ct:=N,bk:=D.nx } σ H1 else D.nx σ H1
theorem ps_while {c:Expr} {body:List Stmt} {tc:TT} {tb:TS} (hp:PassesOwn (model X.prog X.w) X.A X.env X.xe) (hc:PT X c tc) (hb:PSs X body tb):PS X (.While c body [] pos) (tWhile tc tb):=by
 intro pins s σ H D I h
 obtain ⟨W,⟨m0,w0⟩,turn⟩:=h
 refine wpAny_While (codeAny_whileLoop (fun n s'=>∃ σ' H',Inv X pins σ' H' s'∧W n σ' H') ?_ m0 ⟨σ,H,I,w0⟩)
 rintro n s1 ⟨σ1,H1,I1,w1⟩
 refine wpAny_passesOwn hp (thn (hc pins s1 σ1 H1 _ I1 (turn n σ1 H1 w1)) fun b s2 ⟨H2,I2,q2⟩=>?_)
 cases b with
 | true =>
   obtain ⟨N,hN,q2⟩:=q2
   rw [if_pos rfl]
   refine wpAny_passesOwn hp (thn (hb pins s2 σ1 H2 _ I2 q2) fun f s3 q3=>?_)
   cases f with
   | next =>
     obtain ⟨σ3,H3,I3,n3⟩:=q3
     obtain ⟨m',hm,w3⟩:=hN σ3 H3 n3
     exact ⟨m',hm,σ3,H3,I3,w3⟩
   | cont =>
     obtain ⟨σ3,H3,I3,n3⟩:=q3
     obtain ⟨m',hm,w3⟩:=hN σ3 H3 n3
     exact ⟨m',hm,σ3,H3,I3,w3⟩
   | brk=>exact q3
   | ret v=>exact q3
 | false =>
   rw [if_neg Bool.false_ne_true]
   exact wpAny_execs_nil ⟨σ1,H2,I2,q2⟩
end
structure It where
 go:Nat→Hp→Prop
 yld:Nat→Hp→V→Hp→Prop
 stop:Nat→Hp→Prop
def FpOk (X:Cx) (pins:List (Addr×Obj)) (H:Hp) (b:Addr):Prop :=
 H b=none∧b≠X.env.locals∧b∉X.fs∧(b∈X.ex∨X.s₀.heap.objs.size≤b)∧(∀ x c,X.env.cells.lookup x=some c→c≠b)∧∀ p∈X.pn++pins,p.1≠b
theorem Inv.fpOk {X:Cx} {pins:List (Addr×Obj)} {σ:St} {H H':Hp} {s:Shared} {b:Addr} (I:Inv X pins σ H s) (hb:s.heap.objs.size≤b) (hn:H' b=none):FpOk X pins H' b:=by
 refine ⟨hn,Nat.ne_of_gt (Nat.lt_of_lt_of_le I.lt hb),I.nofs hb,.inr (Nat.le_trans I.sz hb),fun x c e z=>?_,fun p hp z=>?_⟩
 · obtain ⟨v,q⟩:=I.cell x c e
   exact absurd (Nat.lt_of_lt_of_le q.lt (by rw [z]; exact hb)) (Nat.lt_irrefl _)
 · exact absurd (Nat.lt_of_lt_of_le (Heap.lt_size (I.pin p hp).1) (by rw [z]; exact hb)) (Nat.lt_irrefl _)
structure Turn (P:Program) (w:World) (K:PySem.W.Frag) (tg:Expr) (J:It) (fp:List Addr) (it:Addr) (tn:Nat→Heap→Prop):Prop where
 mem:it∈fp
 obj:∀ i h,tn i h→∀ b∈fp,∃ o,h.get? b=some o∧∀ v,o.data≠.cell v
 keep:∀ i h h',tn i h→(∀ b∈fp,∀ o,h.get? b=some o→h'.get? b=some o)→tn i h'
 item:∀ (X:Cx),X.prog=P→X.w=w→X.K=K→X.calm=true→∀ (i:Nat) (pins:List (Addr×Obj)) (s:Shared) (σ:St) (H:Hp) (E:Value→Shared→Prop),Inv X pins σ H s→(∀ b∈fp,FpOk X pins H b)→tn i s.heap→J.go i H →
  wpAny (model P w) X.A (pyNext (.ref it)) (fun r s1=>∃ u,r=some u ∧
   wpAny (model P w) X.A (letOwnedTupleGo tg (.ref it) u) (fun _ s2=>∃ x H',Inv X pins σ H' s2∧RelV x u∧J.yld i H x H'∧tn (i+1) s2.heap∧∀ b∈fp,H' b=none) E s1) E s
 done:∀ (X:Cx),X.prog=P→X.w=w→X.K=K→X.calm=true→∀ (i:Nat) (pins:List (Addr×Obj)) (s:Shared) (σ:St) (H:Hp) (E:Value→Shared→Prop),Inv X pins σ H s→(∀ b∈fp,FpOk X pins H b)→tn i s.heap→J.stop i H →
  wpAny (model P w) X.A (pyNext (.ref it)) (fun r s1=>r=none∧Inv X pins σ H s1) E s
 self:∀ (A:Around) (i:Nat) (s:Shared) (Q:Value→Shared→Prop) (E:Value→Shared→Prop),tn i s.heap→Q (.ref it) s→wpAny (model P w) A (pyIter (.ref it)) Q E s
abbrev TI:=St→Hp→(It→Hp→Prop)→Prop
def PIE (X:Cx) (pins:List (Addr×Obj)) (σ:St) (tg:Expr) (R:It→Hp→Prop) (itv:Value) (s2:Shared):Prop :=
 ∃ (it:Addr) (fp:List Addr) (tn:Nat→Heap→Prop) (J:It) (H':Hp),itv=.ref it∧Inv X pins σ H' s2∧Turn X.prog X.w X.K tg J fp it tn∧tn 0 s2.heap∧(∀ b∈fp,FpOk X pins H' b)∧R J H'
def PI (X:Cx) (tg iter:Expr) (wi:TI):Prop :=
 ∀ (pins:List (Addr×Obj)) (s:Shared) (σ:St) (H:Hp) (R:It→Hp→Prop),Inv X pins σ H s→wi σ H R →
   wpAny (model X.prog X.w) X.A (eval iter X.env) (fun v s1=>wpAny (model X.prog X.w) X.A (pyIter v) (PIE X pins σ tg R) X.xe s1) X.xe s
theorem go_of {M:Model} {A:Around} {E:Value→Shared→Prop} {s:Shared} {tg:Expr} {it:Addr} {u:Value} {o:Obj} {n:String} {vs:Array Value} {Q:Unit→Shared→Prop} (ho:s.heap.get? it=some o) (hc:o.cls=.type n) (hd:o.data=.fields vs)
 (hn:["enumerate","zip","dict_itemiterator","dict_reverseitemiterator","odict_iterator","itertools.zip_longest","itertools.pairwise"].contains n=false) (hQ:Q () s):wpAny M A (letOwnedTupleGo tg (.ref it) u) Q E s:=by
 unfold letOwnedTupleGo
 cases tg <;> first
  | exact wpAny_pure hQ
  | (cases u <;> first
      | exact wpAny_pure hQ
      | (refine wpAny_bind (wpAny_load ho ?_)
         rw [hc,hd]
         show wpAny M A (if (["enumerate","zip","dict_itemiterator","dict_reverseitemiterator","odict_iterator","itertools.zip_longest","itertools.pairwise"].contains n && vs[0]? == some (rawInt _))=true then _ else _) Q E s
         rw [if_neg (by intro h; rw [hn,Bool.false_and] at h; cases h)]
         exact wpAny_pure hQ))
def Itl (K:PySem.W.Frag) (a:Addr):It :=
 ⟨fun i H=>∃ xs x,SqL K H a xs∧xs[i]? = some x,fun i H x H'=>H'=H∧∀ xs,SqL K H a xs→xs[i]? = some x,fun i H=>∃ xs,SqL K H a xs∧xs.length≤i⟩
def Itt (K:PySem.W.Frag) (a:Addr):It :=
 ⟨fun i H=>∃ xs x,SqT K H a xs∧xs[i]? = some x,fun i H x H'=>H'=H∧∀ xs,SqT K H a xs→xs[i]? = some x,fun i H=>∃ xs,SqT K H a xs∧xs.length≤i⟩
def Itr (lo:Int) (n:Nat):It:=⟨fun i _=>i < n,fun i H x H'=>H'=H∧x=.int (lo+i),fun i _=>n≤i⟩
theorem turn_list {P:Program} {w:World} {K:PySem.W.Frag} {tg:Expr} (a it:Addr):Turn P w K tg (Itl K a) [it] it (fun i h=>h.IsListIter it a i) where
 mem:=by simp
 obj:=fun i h st b hb=>by
  have e:b=it:=by simpa using hb
  subst e
  obtain ⟨o,e,c,d⟩:=st
  exact ⟨o,e,fun v z=>by rw [d] at z; cases z⟩
 keep:=fun i h h' st k=>st.at fun o e=>k it (by simp) o e
 item:=by
  intro X hP hw hK hc i pins s σ H E I hf st hg
  subst hP hw hK
  obtain ⟨xs,x,hq,hx⟩:=hg
  obtain ⟨its,rv,p,hz⟩:=I.list hq
  obtain ⟨u,hu,ru⟩:=rv.get hx
  obtain ⟨f0,f1,f2,f3,f4,f5⟩:=hf it (by simp)
  refine wpAny_pyNext_list_item st p.isList (x:=u) (by simpa using hu) fun h' st' sb=>?_
  have I1:Inv X pins σ H { s with heap:=h' }:=I.turned (t':=s.toks) (fun b o hb e=>(sb.2 b hb).trans e) f0 f1 f3 f4 f5
  obtain ⟨o,e,c,d⟩:=id st'
  exact ⟨u,rfl,go_of (s:={ s with heap:=h' }) e c d (by decide) ⟨x,H,I1,ru,⟨rfl,fun ys hy=>by rw [I.list_inj hy hq]; exact hx⟩,st',fun b hb=>(hf b hb).1⟩⟩
 done:=by
  intro X hP hw hK hc i pins s σ H E I hf st hg
  subst hP hw hK
  obtain ⟨xs,hq,hx⟩:=hg
  obtain ⟨its,rv,p,hz⟩:=I.list hq
  obtain ⟨f0,f1,f2,f3,f4,f5⟩:=hf it (by simp)
  have hl:=rv.length
  exact wpAny_pyNext_list_end (I.ok.hd hc) st p.isList (by simp; omega) fun h' eb=>⟨rfl,I.turned (t':=s.toks) (fun b o hb e=>eb b o hb e) f0 f1 f3 f4 f5⟩
 self:=fun _ _ _ _ _ st h=>wpAny_pyIter_listiter st h
theorem turn_tuple {P:Program} {w:World} {K:PySem.W.Frag} {tg:Expr} (a it:Addr):Turn P w K tg (Itt K a) [it] it (fun i h=>h.IsTupleIter it a i) where
 mem:=by simp
 obj:=fun i h st b hb=>by
  have e:b=it:=by simpa using hb
  subst e
  obtain ⟨o,e,c,d⟩:=st
  exact ⟨o,e,fun v z=>by rw [d] at z; cases z⟩
 keep:=fun i h h' st k=>st.at fun o e=>k it (by simp) o e
 item:=by
  intro X hP hw hK hc i pins s σ H E I hf st hg
  subst hP hw hK
  obtain ⟨xs,x,hq,hx⟩:=hg
  obtain ⟨its,rv,p,hz⟩:=I.tuple hq
  obtain ⟨u,hu,ru⟩:=rv.get hx
  obtain ⟨f0,f1,f2,f3,f4,f5⟩:=hf it (by simp)
  refine wpAny_pyNext_tuple_item st (show s.heap.IsTuple a its.toArray from p) (x:=u) (by simpa using hu) fun h' st' sb=>?_
  have I1:Inv X pins σ H { s with heap:=h' }:=I.turned (t':=s.toks) (fun b o hb e=>(sb.2 b hb).trans e) f0 f1 f3 f4 f5
  obtain ⟨o,e,c,d⟩:=id st'
  exact ⟨u,rfl,go_of (s:={ s with heap:=h' }) e c d (by decide) ⟨x,H,I1,ru,⟨rfl,fun ys hy=>by rw [I.tuple_inj hy hq]; exact hx⟩,st',fun b hb=>(hf b hb).1⟩⟩
 done:=by
  intro X hP hw hK hc i pins s σ H E I hf st hg
  subst hP hw hK
  obtain ⟨xs,hq,hx⟩:=hg
  obtain ⟨its,rv,p,hz⟩:=I.tuple hq
  obtain ⟨f0,f1,f2,f3,f4,f5⟩:=hf it (by simp)
  have hl:=rv.length
  exact wpAny_pyNext_tuple_end (I.ok.hd hc) st (show s.heap.IsTuple a its.toArray from p) (by simp; omega) fun h' eb=>⟨rfl,I.turned (t':=s.toks) (fun b o hb e=>eb b o hb e) f0 f1 f3 f4 f5⟩
 self:=fun _ _ _ _ _ st h=>wpAny_pyIter_tupleiter st h
theorem turn_range {P:Program} {w:World} {K:PySem.W.Frag} {tg:Expr} (it:Addr) (lo:Int) (n:Nat):Turn P w K tg (Itr lo n) [it] it (fun i h=>IsRangeIter h it (lo+(i:Nat) * 1) ((n:Int) - (i:Nat)) 1) where
 mem:=by simp
 obj:=fun i h st b hb=>by
  have e:b=it:=by simpa using hb
  subst e
  exact ⟨_,st,fun v z=>by
   have z':Data.fields _=Data.cell v:=z
   cases z'⟩
 keep:=fun i h h' st k=>k it (by simp) _ st
 item:=by
  intro X hP hw hK hc i pins s σ H E I hf st hg
  subst hP hw hK
  obtain ⟨f0,f1,f2,f3,f4,f5⟩:=hf it (by simp)
  have W:=Walks.range (prog:=X.prog) (w:=X.w) (I.ok.hd hc) it lo 1 n
  refine W.item i s _ _ hg st fun v h' tk hv st' kk=>?_
  obtain ⟨t,rfl⟩:=hv
  have I1:Inv X pins σ H { s with heap:=h',toks:=tk }:=I.turned (fun b o hb e=>kk b o (by simpa using hb) e) f0 f1 f3 f4 f5
  refine ⟨_,rfl,go_of (s:={ s with heap:=h',toks:=tk }) (n := "range_iterator") st' rfl rfl (by decide) ⟨.int (lo+i),H,I1,⟨t,?_⟩,⟨rfl,rfl⟩,st',fun b hb=>(hf b hb).1⟩⟩
  rw [Int.mul_one]
 done:=by
  intro X hP hw hK hc i pins s σ H E I hf st hg
  subst hP hw hK
  obtain ⟨f0,f1,f2,f3,f4,f5⟩:=hf it (by simp)
  exact wpAny_pyNext_range_end (I.ok.hd hc) st (by have:n≤i:=hg; omega) fun h' eb=>⟨rfl,I.turned (t':=s.toks) (fun b o hb e=>eb b o hb e) f0 f1 f3 f4 f5⟩
 self:=fun _ _ _ _ _ st h=>wpAny_pyIter_rangeiter st h
end L2
namespace L2
open PySem PySem.Spec PyProof.Rows
section
variable {X:Cx} {tg:Expr}
def iList (K:PySem.W.Frag) (tl:TE):TI:=fun σ H R=>tl σ H fun x H1=>∃ a,x=.ref a∧(∃ xs,SqL K H1 a xs)∧R (Itl K a) H1
def iTup (K:PySem.W.Frag) (tl:TE):TI:=fun σ H R=>tl σ H fun x H1=>∃ a,x=.ref a∧(∃ xs,SqT K H1 a xs)∧R (Itt K a) H1
theorem pi_list {l:Expr} {tl:TE} (hl:PE X l tl):PI X tg l (iList X.K tl):=by
 intro pins s σ H R I h
 refine thn (hl pins s σ H _ I h) fun v s1 ⟨x,H1,I1,r1,q1⟩=>?_
 obtain ⟨a,e,⟨xs,hq⟩,q⟩:=q1
 subst e
 cases r1
 obtain ⟨its,rv,p,hz⟩:=I1.list hq
 refine wpAny_pyIter_list p.isList ?_
 refine ⟨s1.heap.objs.size,[s1.heap.objs.size],_,_,H1,rfl,I1.kept (t':=s1.toks) fun b o e=>Heap.get?_push_of_some _ e,turn_list a _,⟨_,Heap.get?_push_size _ rfl,rfl,rfl⟩,fun b hb=>?_,q⟩
 have e:b=s1.heap.objs.size:=by simpa using hb
 subst e
 exact I1.fpOk (Nat.le_refl _) (I1.hok.fresh (Nat.le_refl _))
theorem pi_tup {l:Expr} {tl:TE} (hl:PE X l tl):PI X tg l (iTup X.K tl):=by
 intro pins s σ H R I h
 refine thn (hl pins s σ H _ I h) fun v s1 ⟨x,H1,I1,r1,q1⟩=>?_
 obtain ⟨a,e,⟨xs,hq⟩,q⟩:=q1
 subst e
 cases r1
 obtain ⟨its,rv,p,hz⟩:=I1.tuple hq
 refine wpAny_pyIter_tuple (show s1.heap.IsTuple a its.toArray from p) ?_
 refine ⟨s1.heap.objs.size,[s1.heap.objs.size],_,_,H1,rfl,I1.kept (t':=s1.toks) fun b o e=>Heap.get?_push_of_some _ e,turn_tuple a _,⟨_,Heap.get?_push_size _ rfl,rfl,rfl⟩,fun b hb=>?_,q⟩
 have e:b=s1.heap.objs.size:=by simpa using hb
 subst e
 exact I1.fpOk (Nat.le_refl _) (I1.hok.fresh (Nat.le_refl _))
theorem range_it {pins:List (Addr×Obj)} {σ:St} {H:Hp} {s:Shared} {R:It→Hp→Prop} {E:Value→Shared→Prop} {lo hi:Int} {t u v:Tok} {tk:Nat} (I:Inv X pins σ H s) (h1:-(2 ^ 62)≤lo) (h2:lo < 2 ^ 62) (h3:-(2 ^ 62)≤hi) (h4:hi < 2 ^ 62)
 (q:R (Itr lo (hi - lo).toNat) H):wpAny (model X.prog X.w) X.A (pyIter (.ref s.heap.objs.size)) (PIE X pins σ tg R) E { s with heap:=s.heap.push { cls:=.type "range",data:=.fields #[.int lo t,.int hi u,.int 1 v] },toks:=tk }:=by
 refine wpAny_pyIter_range (IsRange.new ..) (small_one h1 h2 h3 h4) ?_
 have I1:Inv X pins σ H { s with heap:=s.heap.push { cls:=.type "range",data:=.fields #[.int lo t,.int hi u,.int 1 v] },toks:=tk }:=I.kept fun b o e=>Heap.get?_push_of_some _ e
 refine ⟨(s.heap.push { cls:=.type "range",data:=.fields #[.int lo t,.int hi u,.int 1 v] }).objs.size,[(s.heap.push { cls:=.type "range",data:=.fields #[.int lo t,.int hi u,.int 1 v] }).objs.size],_,_,H,rfl,
  I1.kept (t':=tk) fun b o e=>Heap.get?_push_of_some _ e,turn_range _ lo (hi - lo).toNat,?_,fun b hb=>?_,q⟩
 · have e1:lo+((0:Nat):Int) * 1=lo:=by simp
   have e2:(((hi - lo).toNat:Nat):Int) - ((0:Nat):Int)=Builtin.Range.rangeSize lo hi 1:=by rw [rangeSize_one]; split <;> omega
   show IsRangeIter _ _ (lo+((0:Nat):Int) * 1) ((((hi - lo).toNat:Nat):Int) - ((0:Nat):Int)) 1
   rw [e1,e2]
   exact Heap.get?_push_size _ rfl
 · have e:b=(s.heap.push { cls:=.type "range",data:=.fields #[.int lo t,.int hi u,.int 1 v] }).objs.size:=by simpa using hb
   subst e
   exact I1.fpOk (Nat.le_refl _) (I1.hok.fresh (Nat.le_refl _))
def iRng1 (ta:TA):TI:=fun σ H R=>ta σ H fun vs H1=>∃ j:Int,vs=[.int j]∧-(2 ^ 62)≤j∧j < 2 ^ 62∧R (Itr 0 j.toNat) H1
theorem pi_range1 {a:Expr} {ta:TA} {p pos:Pos} (hg:Gl X "range") (hm:X.mg "range" = none) (ha:PA X [a] ta) (hs:starEach [a] X.env=[(false,eval a X.env)]:=by rfl):PI X tg (.Call (.Name "range" p) [a] [] pos) (iRng1 ta):=by
 intro pins s σ H R I h
 refine Call_ (ld_blt I hg hm boot_range (PyProof.Rows.callWith_type1 (thn (ha pos pins s σ H _ I h) fun us s1 ⟨vs,H1,I1,r1,q1⟩=>?_) hs rfl))
 obtain ⟨j,e,q1,q2,q⟩:=q1
 subst e
 cases r1 with
 | cons r rr =>
   cases rr
   obtain ⟨t,rfl⟩:=r
   exact call_range_1 (range_it I1 (by omega) (by omega) q1 q2 (by simpa using q))
def tFor (wi:TI) (g:TG) (tb:TS):TS:=fun D σ H=>wi σ H fun J H1=>∃ W:Nat→Nat→St→Hp→Prop,(∃ m,W 0 m σ H1)∧∀ i m σ H,W i m σ H →
 (J.stop i H∧D.nx σ H)∨(J.go i H∧∃ N:St→Hp→Prop,(∀ σ' H',N σ' H'→∃ m',m' < m∧W (i+1) m' σ' H')∧∀ x H',J.yld i H x H'→g x σ H' fun σ2 H2=>tb { D with nx:=N,ct:=N,bk:=D.nx } σ2 H2)
def pinsAt (fp:List Addr) (h:Heap):List (Addr×Obj):=fp.filterMap fun b=>(h.get? b).map fun o=>(b,o)
theorem mem_pinsAt {fp:List Addr} {h:Heap} {b:Addr} {o:Obj} (hb:b∈fp) (e:h.get? b=some o):(b,o)∈pinsAt fp h:=List.mem_filterMap.mpr ⟨b,hb,by rw [e]; rfl⟩
theorem of_pinsAt {fp:List Addr} {h:Heap} {p:Addr×Obj} (hp:p∈pinsAt fp h):p.1∈fp∧h.get? p.1=some p.2:=by
 obtain ⟨b,hb,e⟩:=List.mem_filterMap.mp hp
 cases q:h.get? b with
 | none=>rw [q] at e; cases e
 | some o =>
   rw [q] at e
   have e':(b,o)=p:=Option.some.inj e
   subst e'
   exact ⟨hb,q⟩
theorem Inv.pinned {pins:List (Addr×Obj)} {σ:St} {H:Hp} {s:Shared} {fp:List Addr} (I:Inv X pins σ H s) (hf:∀ b∈fp,FpOk X pins H b) (ho:∀ b∈fp,∃ o,s.heap.get? b=some o∧∀ v,o.data≠.cell v):Inv X (pins++pinsAt fp s.heap) σ H s :=
 I.pins_of fun p hp=>(List.mem_append.mp hp).elim (fun z=>I.pin p (List.mem_append_right _ z)) fun z=>by
  obtain ⟨hb,e⟩:=of_pinsAt z
  obtain ⟨f0,f1,f2,_⟩:=hf p.1 hb
  obtain ⟨o,e',d⟩:=ho p.1 hb
  rw [e] at e'; cases e'
  exact ⟨e,f0,f1,f2,d⟩
theorem Inv.unpinned {pins pl:List (Addr×Obj)} {σ:St} {H:Hp} {s:Shared} (I:Inv X (pins++pl) σ H s):Inv X pins σ H s:=I.pins_of fun p hp=>I.pin p (List.mem_append_right _ (List.mem_append_left _ hp))
theorem ps_for {iter:Expr} {body:List Stmt} {wi:TI} {g:TG} {tb:TS} {pos:Pos} (hp:PassesOwn (model X.prog X.w) X.A X.env X.xe) (hc:X.calm=true) (hi:PI X tg iter wi) (hg:PG X tg g) (hb:PSs X body tb)
 (hs:∀ x,foldedSetIterable iter X.env x=pure x:=by intro _; rfl):PS X (.For tg iter body [] pos) (tFor wi g tb):=by
 intro pins s σ H D I h
 refine wpAny_For (thn (hi pins s σ H _ I h) fun v s1 h1=>thn h1 fun itv s2 h2=>?_) hs
 obtain ⟨it,fp,tn,J,H2,e,I2,T,st2,f2,W,⟨m0,w0⟩,turn⟩:=h2
 subst e
 have stat:∀ {H':Hp},(∀ b∈fp,H' b=none)→∀ b∈fp,FpOk X pins H' b:=fun hn b hb=>⟨hn b hb,(f2 b hb).2⟩
 refine codeAny_forLoop_any (fun n s'=>∃ i σ' H',Inv X pins σ' H' s'∧tn i s'.heap∧(∀ b∈fp,H' b=none)∧W i n σ' H') ?_ m0 ⟨0,σ,H2,I2,st2,fun b hb=>(f2 b hb).1,w0⟩
 rintro n s3 ⟨i,σ3,H3,I3,st3,fr3,w3⟩
 rcases turn i n σ3 H3 w3 with ⟨stop,qn⟩ | ⟨go,N,hN,step⟩
 · refine wpAny_passesOwn hp (thn (T.done X rfl rfl rfl hc i pins s3 σ3 H3 X.xe I3 (stat fr3) st3 stop) fun r s4 ⟨hr,I4⟩=>?_)
   subst hr
   exact wpAny_execs_nil ⟨σ3,H3,I4,qn⟩
 · refine wpAny_passesOwn hp (thn (T.item X rfl rfl rfl hc i pins s3 σ3 H3 X.xe I3 (stat fr3) st3 go) fun r s4 ⟨u,hr,h4⟩=>?_)
   subst hr
   refine wpAny_passesOwn hp (thn h4 fun _ s5 ⟨x,H5,I5,r5,y5,st5,fr5⟩=>?_)
   have I5':=I5.pinned (stat fr5) (T.obj _ _ st5)
   refine wpAny_passesOwn hp (thn (hg _ s5 σ3 H5 x u _ I5' r5 (step x H5 y5)) fun _ s6 ⟨σ6,H6,I6,q6⟩=>?_)
   refine wpAny_passesOwn hp (thn (hb _ s6 σ6 H6 _ I6 q6) fun f s7 q7=>?_)
   have again:∀ {σ7:St} {H7:Hp},Inv X (pins++pinsAt fp s5.heap) σ7 H7 s7→N σ7 H7→∃ m,m < n∧∃ i σ' H',Inv X pins σ' H' s7∧tn i s7.heap∧(∀ b∈fp,H' b=none)∧W i m σ' H':=fun {σ7 H7} I7 n7=>by
    obtain ⟨m',hm,w7⟩:=hN σ7 H7 n7
    refine ⟨m',hm,i+1,σ7,H7,I7.unpinned,T.keep _ _ _ st5 fun b hb o e=>(I7.pin (b,o) (List.mem_append_right _ (List.mem_append_right _ (mem_pinsAt hb e)))).1,fun b hb=>?_,w7⟩
    obtain ⟨o,e,d⟩:=T.obj _ _ st5 b hb
    exact (I7.pin (b,o) (List.mem_append_right _ (List.mem_append_right _ (mem_pinsAt hb e)))).2.1
   cases f with
   | next=>obtain ⟨σ7,H7,I7,n7⟩:=q7; exact again I7 n7
   | cont=>obtain ⟨σ7,H7,I7,n7⟩:=q7; exact again I7 n7
   | brk=>obtain ⟨σ7,H7,I7,q7⟩:=q7; exact ⟨σ7,H7,I7.unpinned,q7⟩
   | ret v=>obtain ⟨x7,σ7,H7,I7,r7,q7⟩:=q7; exact ⟨x7,σ7,H7,I7.unpinned,r7,q7⟩
end
theorem for_list {K:PySem.W.Frag} {a:Addr} {xs:List V} {g:TG} {tb:TS} {D:Ends} {σ:St} {H:Hp} (Pv:Nat→St→Hp→Prop) (h0:Pv 0 σ H) (hl:∀ i σ H,i≤xs.length→Pv i σ H→SqL K H a xs)
 (hs:∀ i x σ H,xs[i]? = some x→Pv i σ H→g x σ H fun σ2 H2=>tb { D with nx:=Pv (i+1),ct:=Pv (i+1),bk:=D.nx } σ2 H2) (hd:∀ σ H,Pv xs.length σ H→D.nx σ H) :
 ∃ W:Nat→Nat→St→Hp→Prop,(∃ m,W 0 m σ H)∧∀ i m σ H,W i m σ H →
   ((Itl K a).stop i H∧D.nx σ H)∨((Itl K a).go i H∧∃ N:St→Hp→Prop,(∀ σ' H',N σ' H'→∃ m',m' < m∧W (i+1) m' σ' H')∧∀ x H',(Itl K a).yld i H x H'→g x σ H' fun σ2 H2=>tb { D with nx:=N,ct:=N,bk:=D.nx } σ2 H2):=by
 refine ⟨fun i m σ H=>m=xs.length - i∧i≤xs.length∧Pv i σ H,⟨xs.length,by simp,Nat.zero_le _,h0⟩,?_⟩
 rintro i m σ H ⟨rfl,hi,p⟩
 have q:=hl i σ H hi p
 by_cases hlt:i < xs.length
 · refine .inr ⟨⟨xs,xs[i],q,by simp [hlt]⟩,Pv (i+1),fun σ' H' p'=>⟨xs.length - (i+1),by omega,rfl,hlt,p'⟩,fun x H' y=>?_⟩
   obtain ⟨e,y⟩:=y
   subst e
   exact hs i x σ _ (y xs q) p
 · have e:i=xs.length:=by omega
   subst e
   exact .inl ⟨⟨xs,q,Nat.le_refl _⟩,hd σ H p⟩
theorem for_range {lo:Int} {n:Nat} {g:TG} {tb:TS} {D:Ends} {σ:St} {H:Hp} (Pv:Nat→St→Hp→Prop) (h0:Pv 0 σ H)
 (hs:∀ i σ H,i < n→Pv i σ H→g (.int (lo+i)) σ H fun σ2 H2=>tb { D with nx:=Pv (i+1),ct:=Pv (i+1),bk:=D.nx } σ2 H2) (hd:∀ σ H,Pv n σ H→D.nx σ H) :
 ∃ W:Nat→Nat→St→Hp→Prop,(∃ m,W 0 m σ H)∧∀ i m σ H,W i m σ H →
   ((Itr lo n).stop i H∧D.nx σ H)∨((Itr lo n).go i H∧∃ N:St→Hp→Prop,(∀ σ' H',N σ' H'→∃ m',m' < m∧W (i+1) m' σ' H')∧∀ x H',(Itr lo n).yld i H x H'→g x σ H' fun σ2 H2=>tb { D with nx:=N,ct:=N,bk:=D.nx } σ2 H2):=by
 refine ⟨fun i m σ H=>m=n - i∧i≤n∧Pv i σ H,⟨n,by simp,Nat.zero_le _,h0⟩,?_⟩
 rintro i m σ H ⟨rfl,hi,p⟩
 by_cases hlt:i < n
 · refine .inr ⟨hlt,Pv (i+1),fun σ' H' p'=>⟨n - (i+1),by omega,rfl,hlt,p'⟩,fun x H' y=>?_⟩
   obtain ⟨e,y⟩:=y
   subst e y
   exact hs i σ _ hlt p
 · have e:i=n:=by omega
   subst e
   exact .inl ⟨Nat.le_refl _,hd σ H p⟩
theorem while_by {c:TT} {tb:TS} {D:Ends} {σ:St} {H:Hp} (Pv:St→Hp→Prop) (μ:St→Hp→Nat) (h0:Pv σ H)
 (hs:∀ σ H,Pv σ H→c σ H fun b H1=>if b=true then tb { D with nx:=fun σ' H'=>Pv σ' H'∧μ σ' H' < μ σ H,ct:=fun σ' H'=>Pv σ' H'∧μ σ' H' < μ σ H,bk:=D.nx } σ H1 else D.nx σ H1)
 (mono:∀ σ H Q Q',(∀ b H1,Q b H1→Q' b H1)→c σ H Q→c σ H Q'):tWhile c tb D σ H:=by
 refine ⟨fun m σ H=>m=μ σ H∧Pv σ H,⟨_,rfl,h0⟩,?_⟩
 rintro m σ H ⟨rfl,p⟩
 refine mono σ H _ _ (fun b H1 q=>?_) (hs σ H p)
 cases b with
 | true=>exact ⟨_,fun σ' H' ⟨p',l⟩=>⟨_,l,rfl,p'⟩,q⟩
 | false=>exact q
end L2
namespace L2
open PySem PySem.Spec PyProof.Rows
abbrev R2:=V→V→Hp→VK→Prop
def OpR (X:Cx) (f:Value→Value→Sem Value) (r:R2):Prop :=
 ∀ (pins:List (Addr×Obj)) (s:Shared) (σ:St) (H:Hp) (x y:V) (v u:Value) (Q:VK),Inv X pins σ H s→RelV x v→RelV y u→r x y H Q →
   wpAny (model X.prog X.w) X.A (f v u) (EP X pins σ Q) X.xe s
def UnR (X:Cx) (f:Value→Sem Value) (r:V→Hp→VK→Prop):Prop :=
 ∀ (pins:List (Addr×Obj)) (s:Shared) (σ:St) (H:Hp) (x:V) (v:Value) (Q:VK),Inv X pins σ H s→RelV x v→r x H Q →
   wpAny (model X.prog X.w) X.A (f v) (EP X pins σ Q) X.xe s
def CallR (X:Cx) (f:Value) (r:List V→Hp→VK→Prop):Prop :=
 ∀ (pins:List (Addr×Obj)) (s:Shared) (σ:St) (H:Hp) (xs:List V) (us:List Value) (Q:VK),Inv X pins σ H s→Vals xs us→r xs H Q →
   wpAny (model X.prog X.w) X.A (call f us) (EP X pins σ Q) X.xe s
def TruR (X:Cx) (r:V→Hp→(Bool→Hp→Prop)→Prop):Prop :=
 ∀ (pins:List (Addr×Obj)) (s:Shared) (σ:St) (H:Hp) (x:V) (v:Value) (Q:Bool→Hp→Prop),Inv X pins σ H s→RelV x v→r x H Q →
   wpAny (model X.prog X.w) X.A (truthy v) (TP X pins σ Q) X.xe s
def tOp (r:R2) (ta tb:TE):TE:=fun σ H Q=>ta σ H fun x H1=>tb σ H1 fun y H2=>r x y H2 Q
def tUn (r:V→Hp→VK→Prop) (ta:TE):TE:=fun σ H Q=>ta σ H fun x H1=>r x H1 Q
def rI (C:Int→Int→Prop) (g:Int→Int→V):R2:=fun x y H Q=>∃ i j,x=.int i∧y=.int j∧C i j∧Q (g i j) H
def rI0 (g:Int→Int→V):R2:=fun x y H Q=>∃ i j,x=.int i∧y=.int j∧Q (g i j) H
def rU (g:Int→V):V→Hp→VK→Prop:=fun x H Q=>∃ i,x=.int i∧Q (g i) H
section
variable {X:Cx} {a b c:Expr} {ta tb tc:TE} {pos:Pos}
theorem binT (ha:PE X a ta) (hb:PE X b tb) {pins:List (Addr×Obj)} {s:Shared} {σ:St} {H:Hp} {R:V→V→Hp→Prop} (I:Inv X pins σ H s)
 (h:ta σ H fun x H1=>tb σ H1 fun y H2=>R x y H2) {Q:Value→Shared→Prop} {f:Value→Value→Sem Value}
 (hf:∀ v u s2 x y H2,Inv X pins σ H2 s2→RelV x v→RelV y u→R x y H2→wpAny (model X.prog X.w) X.A (f v u) Q X.xe s2) :
 wpAny (model X.prog X.w) X.A (eval a X.env) (fun v s₁=>wpAny (model X.prog X.w) X.A (eval b X.env) (fun u s₂=>wpAny (model X.prog X.w) X.A (f v u) Q X.xe s₂) X.xe s₁) X.xe s:=by
 refine thn (ha pins s σ H _ I h) fun v s1 ⟨x,H1,I1,r1,q1⟩=>?_
 refine thn (hb pins s1 σ H1 _ I1 q1) fun u s2 ⟨y,H2,I2,r2,q2⟩=>?_
 exact hf v u s2 x y H2 I2 r1 r2 q2
theorem pe_op {op:Operator} {r:R2} (ho:OpR X (binaryOp op) r) (ha:PE X a ta) (hb:PE X b tb):PE X (.BinOp a op b pos) (tOp r ta tb):=by
 intro pins s σ H Q I h
 exact wpAny_BinOp (binT ha hb I h fun v u s2 x y H2 I2 rx ry q=>ho pins s2 σ H2 x y v u Q I2 rx ry q)
theorem pe_un {op:UnaryOp} {r:V→Hp→VK→Prop} (ho:UnR X (unaryOp op) r) (ha:PE X a ta):PE X (.UnaryOp op a pos) (tUn r ta):=by
 intro pins s σ H Q I h
 exact UnaryOp_ (thn (ha pins s σ H _ I h) fun v s1 ⟨x,H1,I1,r1,q1⟩=>ho pins s1 σ H1 x v Q I1 r1 q1)
theorem opI {f:Value→Value→Sem Value} {C:Int→Int→Prop} {g:Int→Int→Int}
 (rule:∀ (i j:Int) (t u:Tok) (s:Shared) (Q:Value→Shared→Prop) (E:Value→Shared→Prop),C i j→Q (.int (g i j) s.toks) { s with toks:=s.toks+1 }→wpAny (model X.prog X.w) X.A (f (.int i t) (.int j u)) Q E s) :
 OpR X f (rI C fun i j=>.int (g i j)):=by
 intro pins s σ H x y v u Q I rx ry h
 obtain ⟨i,j,rfl,rfl,hc,q⟩:=h
 obtain ⟨t,rfl⟩:=rx
 obtain ⟨t',rfl⟩:=ry
 exact rule i j t t' s _ _ hc ⟨.int (g i j),H,I.tok _,⟨_,rfl⟩,q⟩
theorem opI0 {f:Value→Value→Sem Value} {g:Int→Int→Int}
 (rule:∀ (i j:Int) (t u:Tok) (s:Shared) (Q:Value→Shared→Prop) (E:Value→Shared→Prop),Q (.int (g i j) s.toks) { s with toks:=s.toks+1 }→wpAny (model X.prog X.w) X.A (f (.int i t) (.int j u)) Q E s) :
 OpR X f (rI0 fun i j=>.int (g i j)):=by
 intro pins s σ H x y v u Q I rx ry h
 obtain ⟨i,j,rfl,rfl,q⟩:=h
 obtain ⟨t,rfl⟩:=rx
 obtain ⟨t',rfl⟩:=ry
 exact rule i j t t' s _ _ ⟨.int (g i j),H,I.tok _,⟨_,rfl⟩,q⟩
theorem opB0 {f:Value→Value→Sem Value} {g:Int→Int→Bool}
 (rule:∀ (i j:Int) (t u:Tok) (s:Shared) (Q:Value→Shared→Prop) (E:Value→Shared→Prop),Q (.bool (g i j)) s→wpAny (model X.prog X.w) X.A (f (.int i t) (.int j u)) Q E s) :
 OpR X f (rI0 fun i j=>.bl (g i j)):=by
 intro pins s σ H x y v u Q I rx ry h
 obtain ⟨i,j,rfl,rfl,q⟩:=h
 obtain ⟨t,rfl⟩:=rx
 obtain ⟨t',rfl⟩:=ry
 exact rule i j t t' s _ _ ⟨.bl (g i j),H,I,rfl,q⟩
def CPow (i j:Int):Prop:=0≤j∧j≤1000000∧i.natAbs < 2 ^ 64
theorem op_add:OpR X (binaryOp .Add) (rI0 fun i j=>.int (i+j)):=opI0 fun _ _ _ _ _ _ _ q=>add_int q
theorem op_sub:OpR X (binaryOp .Sub) (rI0 fun i j=>.int (i - j)):=opI0 fun _ _ _ _ _ _ _ q=>sub_int q
theorem op_modN:OpR X (binaryOp .Mod) (rI (fun _ j=>j≠0) fun i j=>.int (i.fmod j)):=opI fun _ _ _ _ _ _ _ hc q=>mod_int' hc q
theorem op_pow:OpR X (binaryOp .Pow) (rI CPow fun i j=>.int (i ^ j.toNat)):=opI fun _ _ _ _ _ _ _ hc q=>pow_int_small hc.1 hc.2.1 hc.2.2 q
theorem unI {f:Value→Sem Value} {g:Int→Int}
 (rule:∀ (i:Int) (t:Tok) (s:Shared) (Q:Value→Shared→Prop) (E:Value→Shared→Prop),Q (.int (g i) s.toks) { s with toks:=s.toks+1 }→wpAny (model X.prog X.w) X.A (f (.int i t)) Q E s) :
 UnR X f (rU fun i=>.int (g i)):=by
 intro pins s σ H x v Q I rx h
 obtain ⟨i,rfl,q⟩:=h
 obtain ⟨t,rfl⟩:=rx
 exact rule i t s _ _ ⟨.int (g i),H,I.tok _,⟨_,rfl⟩,q⟩
theorem un_neg:UnR X (unaryOp .USub) (rU fun i=>.int (-i)):=unI fun _ _ _ _ _ q=>neg_int q
end
def scal:V→V→Bool
 | .non,.non=>true | .non,.int _=>true | .int _,.non=>true | .non,.bl _=>true | .bl _,.non=>true | .non,.str _=>true | .str _,.non=>true
 | .int _,.int _=>true | .bl _,.bl _=>true | .str _,.str _=>true | .byt _,.byt _=>true
 | .int _,.str _=>true | .str _,.int _=>true | .bl _,.str _=>true | .str _,.bl _=>true
 | _,_=>false
def rEq:R2:=fun x y H Q=>scal x y=true∧Q (.bl (decide (x=y))) H
def rNe:R2:=fun x y H Q=>scal x y=true∧Q (.bl (!decide (x=y))) H
theorem dec_int {i j:Int}:decide (V.int i=V.int j)=(i == j):=by
 rw [Bool.eq_iff_iff]
 simp
theorem dec_bl {i j:Bool}:decide (V.bl i=V.bl j)=(i == j):=by
 rw [Bool.eq_iff_iff]
 simp
theorem dec_str {i j:Str}:decide (V.str i=V.str j)=(i == j):=by
 rw [Bool.eq_iff_iff]
 simp
theorem dec_byt {i j:Array UInt8}:decide (V.byt i=V.byt j)=(i.toList == j.toList):=by
 rw [Bool.eq_iff_iff]
 cases i
 cases j
 simp
section
variable {X:Cx} {a b c:Expr} {ta tb tc:TE} {pos:Pos}
theorem fin_bl {pins:List (Addr×Obj)} {σ:St} {H:Hp} {s:Shared} {Q:VK} {k k':Bool} (I:Inv X pins σ H s) (q:Q (.bl k) H) (e:k=k'):EP X pins σ Q (.bool k') s:=by
 subst e
 exact ⟨.bl k,H,I,rfl,q⟩
theorem op_eq:OpR X (compareOp .Eq) rEq:=by
 intro pins s σ H x y v u Q I rx ry h
 obtain ⟨hs,q⟩:=h
 cases x with
 | non =>
   cases rx
   cases y with
   | non=>cases ry; exact PySem.EqNone.eq_none_none (fin_bl I q (by simp))
   | bl j=>cases ry; exact PySem.EqNone.eq_none_bool (fin_bl I q (by simp))
   | int j=>obtain ⟨t',rfl⟩:=ry; exact PySem.EqNone.eq_none_int (fin_bl I q (by simp))
   | str j=>obtain ⟨t',rfl⟩:=ry; exact PySem.EqNone.eq_none_str (fin_bl I q (by simp))
   | _=>exact absurd (show false=true from hs) Bool.false_ne_true
 | bl i =>
   cases rx
   cases y with
   | non=>cases ry; exact PySem.EqNone.eq_bool_none (fin_bl I q (by simp))
   | bl j=>cases ry; exact eq_bool (fin_bl I q dec_bl)
   | str j=>obtain ⟨t',rfl⟩:=ry; exact PySem.EqMixed.eq_bool_str (fin_bl I q (by simp))
   | _=>exact absurd (show false=true from hs) Bool.false_ne_true
 | int i =>
   obtain ⟨t,rfl⟩:=rx
   cases y with
   | non=>cases ry; exact PySem.EqNone.eq_int_none (fin_bl I q (by simp))
   | int j=>obtain ⟨t',rfl⟩:=ry; exact eq_int (fin_bl I q dec_int)
   | str j=>obtain ⟨t',rfl⟩:=ry; exact PySem.EqMixed.eq_int_str (fin_bl I q (by simp))
   | _=>exact absurd (show false=true from hs) Bool.false_ne_true
 | str i =>
   obtain ⟨t,rfl⟩:=rx
   cases y with
   | non=>cases ry; exact PySem.EqNone.eq_str_none (fin_bl I q (by simp))
   | bl j=>cases ry; exact PySem.EqMixed.eq_str_bool (fin_bl I q (by simp))
   | int j=>obtain ⟨t',rfl⟩:=ry; exact PySem.EqMixed.eq_str_int (fin_bl I q (by simp))
   | str j=>obtain ⟨t',rfl⟩:=ry; exact eq_str (fin_bl I q dec_str)
   | _=>exact absurd (show false=true from hs) Bool.false_ne_true
 | byt i =>
   obtain ⟨t,rfl⟩:=rx
   cases y with
   | byt j=>obtain ⟨t',rfl⟩:=ry; exact PySem.W.eq_bytes (fin_bl I q dec_byt)
   | _=>exact absurd (show false=true from hs) Bool.false_ne_true
 | _=>cases y <;> exact absurd (show false=true from hs) Bool.false_ne_true
theorem op_ne:OpR X (compareOp .NotEq) rNe:=by
 intro pins s σ H x y v u Q I rx ry h
 obtain ⟨hs,q⟩:=h
 cases x with
 | non =>
   cases rx
   cases y with
   | non=>cases ry; exact PySem.EqNone.ne_none_none (fin_bl I q (by simp))
   | bl j=>cases ry; exact PySem.EqNone.ne_none_bool (fin_bl I q (by simp))
   | int j=>obtain ⟨t',rfl⟩:=ry; exact PySem.EqNone.ne_none_int (fin_bl I q (by simp))
   | str j=>obtain ⟨t',rfl⟩:=ry; exact PySem.EqNone.ne_none_str (fin_bl I q (by simp))
   | _=>exact absurd (show false=true from hs) Bool.false_ne_true
 | bl i =>
   cases rx
   cases y with
   | non=>cases ry; exact PySem.EqNone.ne_bool_none (fin_bl I q (by simp))
   | bl j=>cases ry; exact ne_bool (fin_bl I q (congrArg not dec_bl))
   | str j=>obtain ⟨t',rfl⟩:=ry; exact PySem.EqMixed.ne_bool_str (fin_bl I q (by simp))
   | _=>exact absurd (show false=true from hs) Bool.false_ne_true
 | int i =>
   obtain ⟨t,rfl⟩:=rx
   cases y with
   | non=>cases ry; exact PySem.EqNone.ne_int_none (fin_bl I q (by simp))
   | int j=>obtain ⟨t',rfl⟩:=ry; exact ne_int (fin_bl I q (congrArg not dec_int))
   | str j=>obtain ⟨t',rfl⟩:=ry; exact PySem.EqMixed.ne_int_str (fin_bl I q (by simp))
   | _=>exact absurd (show false=true from hs) Bool.false_ne_true
 | str i =>
   obtain ⟨t,rfl⟩:=rx
   cases y with
   | non=>cases ry; exact PySem.EqNone.ne_str_none (fin_bl I q (by simp))
   | bl j=>cases ry; exact PySem.EqMixed.ne_str_bool (fin_bl I q (by simp))
   | int j=>obtain ⟨t',rfl⟩:=ry; exact PySem.EqMixed.ne_str_int (fin_bl I q (by simp))
   | str j=>obtain ⟨t',rfl⟩:=ry; exact ne_str (fin_bl I q (congrArg not dec_str))
   | _=>exact absurd (show false=true from hs) Bool.false_ne_true
 | byt i =>
   obtain ⟨t,rfl⟩:=rx
   cases y with
   | byt j=>obtain ⟨t',rfl⟩:=ry; exact PySem.W.ne_bytes (fin_bl I q (congrArg not dec_byt))
   | _=>exact absurd (show false=true from hs) Bool.false_ne_true
 | _=>cases y <;> exact absurd (show false=true from hs) Bool.false_ne_true
theorem op_lt:OpR X (compareOp .Lt) (rI0 fun i j=>.bl (decide (i < j))):=opB0 fun _ _ _ _ _ _ _ q=>lt_int q
theorem op_gt:OpR X (compareOp .Gt) (rI0 fun i j=>.bl (decide (j < i))):=opB0 fun _ _ _ _ _ _ _ q=>gt_int q
theorem nomark (b:Expr) {op:CmpOp} (h:op≠.In:=by decide) (h2:op≠.NotIn:=by decide):behindInMarks op b=false:=by
 have e1:(op == CmpOp.In)=false:=by cases op <;> first | rfl | exact absurd rfl h
 have e2:(op == CmpOp.NotIn)=false:=by cases op <;> first | rfl | exact absurd rfl h2
 cases b <;> simp [behindInMarks,e1,e2]
theorem pe_cmpR {op:CmpOp} {r:R2} (ho:OpR X (compareOp op) r) (ha:PE X a ta) (hb:PE X b tb) (hm:behindInMarks op b=false):PE X (.Compare a [op] [b] pos) (tOp r ta tb):=by
 intro pins s σ H Q I h
 exact wpAny_Compare1 (binT ha hb I h fun v u s2 x y H2 I2 rx ry q=>ho pins s2 σ H2 x y v u Q I2 rx ry q) hm
def tTest (t:TE):TT:=fun σ H Q=>t σ H fun x H'=>∃ k,x=.bl k∧Q k H'
theorem pt_cmpR {op:CmpOp} {r:R2} (ho:OpR X (compareOp op) r) (ha:PE X a ta) (hb:PE X b tb) (hm:behindInMarks op b=false):PT X (.Compare a [op] [b] pos) (tTest (tOp r ta tb)):=by
 intro pins s σ H Q I h
 refine wpAny_isTrue_Compare1 (thn (ha pins s σ H _ I h) fun v s1 ⟨x,H1,I1,r1,q1⟩=>thn (hb pins s1 σ H1 _ I1 q1) fun u s2 ⟨y,H2,I2,r2,q2⟩ =>
  thn (ho pins s2 σ H2 x y v u _ I2 r1 r2 q2) fun c s3 ⟨z,H3,I3,r3,k,e,q3⟩=>?_) hm
 subst e
 cases r3
 exact wpAny_truthy_bool ⟨H3,I3,q3⟩
def TruV (K:PySem.W.Frag) (x:V) (H:Hp) (k:Bool):Prop :=
 match x with
 | .non=>k=false
 | .bl b=>k=b
 | .int i=>k=(i != 0)
 | .str y=>y.length≤sizeLine∧k=((y.length:Int) != 0)
 | .byt y=>y.size≤sizeLine∧k=((y.size:Int) != 0)
 | .ref p=>(∃ xs,SqL K H p xs∧k = !xs.isEmpty)∨(∃ xs,SqT K H p xs∧k = !xs.isEmpty)∨∃ kvs,H p=some (.dK kvs)∧k = !kvs.isEmpty
 | _=>False
theorem isEmpty_kv {κ:Type} {kvs:List (κ×V)} {vs:List (κ×Value)} (r:KV kvs vs):(!vs.isEmpty) = !kvs.isEmpty:=by
 cases r <;> rfl
theorem isEmpty_of {xs:List V} {its:List Value} (r:Vals xs its):(!its.toArray.isEmpty) = !xs.isEmpty:=by
 cases r <;> simp
theorem line63:(sizeLine:Nat) < 2 ^ 63:=by rw [sizeLine_eq]; decide
theorem tru_ok:TruR X (fun x H Q=>∃ k,TruV X.K x H k∧Q k H):=by
 intro pins s σ H x v Q I rx h
 obtain ⟨k,e,q⟩:=h
 have hl:=line63
 have hs:sizeLine=16777216:=sizeLine_eq
 cases x with
 | non =>
   cases rx
   have e':k=false:=e
   subst e'
   exact truthy_none ⟨H,I,q⟩
 | bl b =>
   cases rx
   have e':k=b:=e
   subst e'
   exact wpAny_truthy_bool ⟨H,I,q⟩
 | int i =>
   obtain ⟨t,rfl⟩:=rx
   have e':k=(i != 0):=e
   subst e'
   exact PySem.P.truthy_int ⟨H,I,q⟩
 | str y =>
   obtain ⟨t,rfl⟩:=rx
   obtain ⟨hy,e'⟩:y.length≤sizeLine∧k=((y.length:Int) != 0):=e
   subst e'
   exact PySem.P.truthy_str (by omega) ⟨H,I.tok _,q⟩
 | byt y =>
   obtain ⟨t,rfl⟩:=rx
   obtain ⟨hy,e'⟩:y.size≤sizeLine∧k=((y.size:Int) != 0):=e
   subst e'
   exact PySem.W.truthy_bytes (by omega) ⟨H,I.tok _,q⟩
 | ref p =>
   cases rx
   have e':(∃ xs,SqL X.K H p xs∧k = !xs.isEmpty)∨(∃ xs,SqT X.K H p xs∧k = !xs.isEmpty)∨∃ kvs,H p=some (.dK kvs)∧k = !kvs.isEmpty:=e
   rcases e' with ⟨xs,hx,e'⟩ | ⟨xs,hx,e'⟩ | ⟨kvs,hx,e'⟩
   · subst e'
     obtain ⟨its,r,pl,hz⟩:=I.list hx
     have hlen:=r.length
     exact wpAny_truthy_list pl.isList (by simp only [List.size_toArray]; omega) ⟨H,I.tok _,by rw [isEmpty_of r]; exact q⟩
   · subst e'
     obtain ⟨its,r,pl,hz⟩:=I.tuple hx
     have hlen:=r.length
     exact truthy_tuple pl (by simp only [List.size_toArray]; omega) ⟨H,I.tok _,by rw [isEmpty_of r]; exact q⟩
   · subst e'
     obtain ⟨hz,hS,vs,r,m⟩:kvs.length≤sizeLine∧(p == sysModules)=false∧∃ vs,KV kvs vs∧s.heap.DictOf (mixKind X.prog X.w) p vs:=I.hok p _ hx
     have hlen:kvs.length=vs.length:=Paired.length r
     exact wpAny_truthy_dict hS m (by omega) ⟨H,I.tok _,by rw [isEmpty_kv r]; exact q⟩
 | _=>exact (show False from e).elim
theorem pt_truth (ha:PE X a ta) (he:∀ whole,isTrue a X.env whole=(do let v ← whole; standAt a.pos; holding [v] (truthy v))) :
 PT X a (fun σ H Q=>ta σ H fun x H'=>∃ k,TruV X.K x H' k∧Q k H'):=by
 intro pins s σ H Q I h
 exact isTrue_plain (thn (ha pins s σ H _ I h) fun v s1 ⟨x,H1,I1,r1,q1⟩=>tru_ok pins s1 σ H1 x v Q I1 r1 q1) (he _)
theorem vals1 {x:V} {us:List Value} (r:Vals [x] us):∃ u,us=[u]∧RelV x u:=by
 cases r with
 | cons r1 r2=>cases r2; exact ⟨_,rfl,r1⟩
theorem vals2 {x y:V} {us:List Value} (r:Vals [x,y] us):∃ u w',us=[u,w']∧RelV x u∧RelV y w':=by
 cases r with
 | cons r1 r2 =>
   cases r2 with
   | cons r3 r4=>cases r4; exact ⟨_,_,rfl,r1,r3⟩
theorem call_abs:CallR X (.builtin "abs") (fun xs H Q=>∃ i,xs=[.int i]∧Q (.int (if i < 0 then -i else i)) H):=by
 intro pins s σ H xs us Q I r h
 obtain ⟨i,rfl,q⟩:=h
 obtain ⟨u,rfl,t,rfl⟩:=vals1 r
 exact call_abs_int fun u tk=>⟨.int (if i < 0 then -i else i),H,I.tok _,⟨_,rfl⟩,q⟩
theorem call_max2 (hc:X.calm=true):CallR X (.builtin "max") (fun xs H Q=>∃ i j,xs=[.int i,.int j]∧Q (.int (if j > i then j else i)) H):=by
 intro pins s σ H xs us Q I r h
 obtain ⟨i,j,rfl,q⟩:=h
 obtain ⟨u,w',rfl,⟨t,rfl⟩,⟨t',rfl⟩⟩:=vals2 r
 refine max_two_ints (I.ok.hd hc) fun h' tk k=>⟨_,H,I.kept k,?_,q⟩
 by_cases hj:j > i
 · rw [if_pos hj,if_pos hj]; exact ⟨_,rfl⟩
 · rw [if_neg hj,if_neg hj]; exact ⟨_,rfl⟩
theorem call_min2 (hc:X.calm=true):CallR X (.builtin "min") (fun xs H Q=>∃ i j,xs=[.int i,.int j]∧Q (.int (if j < i then j else i)) H):=by
 intro pins s σ H xs us Q I r h
 obtain ⟨i,j,rfl,q⟩:=h
 obtain ⟨u,w',rfl,⟨t,rfl⟩,⟨t',rfl⟩⟩:=vals2 r
 refine min_two_ints (I.ok.hd hc) fun h' tk k=>⟨_,H,I.kept k,?_,q⟩
 by_cases hj:j < i
 · rw [if_pos hj,if_pos hj]; exact ⟨_,rfl⟩
 · rw [if_neg hj,if_neg hj]; exact ⟨_,rfl⟩
theorem call_int1:CallR X (.type "int") (fun xs H Q=>(∃ i,xs=[.int i]∧Q (.int i) H)∨∃ k,xs=[.bl k]∧Q (.int (if k then 1 else 0)) H):=by
 intro pins s σ H xs us Q I r h
 rcases h with ⟨i,rfl,q⟩ | ⟨k,rfl,q⟩
 · obtain ⟨u,rfl,t,rfl⟩:=vals1 r
   exact call_int_int ⟨.int i,H,I,⟨_,rfl⟩,q⟩
 · obtain ⟨u,rfl,r1⟩:=vals1 r
   cases r1
   exact call_int_bool ⟨.int (if k then 1 else 0),H,I.tok _,⟨_,rfl⟩,q⟩
end
end L2
namespace L2
open PySem PySem.Spec PyProof.Rows
structure ObjM (h:Heap) (x dx C:Addr) (mA:Str→Option Value):Prop where
 obj:h.get? x=some (PySem.W.instObj C dx)
 ns:h.Ns1 dx mA
 ne:dx≠x
theorem lookIn_ns {h:Heap} {dx:Addr} {mA:Str→Option Value} (n:h.Ns1 dx mA):∃ od,h.get? dx=some od∧∀ name,PySem.W.lookIn name od=some (mA name):=by
 obtain ⟨o,es,ep,ho,hd,hk,_,hm⟩:=n
 refine ⟨o,ho,fun name=>?_⟩
 have e:=hm name
 unfold nsFind findBy at e
 rw [← Array.find?_toList] at e
 unfold PySem.W.lookIn
 rw [hd]
 dsimp only
 split
 · rename_i y q
   rw [q] at e
   exact congrArg some e
 · rename_i q
   rw [q] at e
   have a:es.toList.any (·.refKey)=false:=by
    rw [List.any_eq_false]
    intro y hy
    obtain ⟨z,t,hkey⟩:=hk y (Array.mem_toList_iff.mp hy)
    simp [DictEntry.refKey,hkey]
   have a':¬ es.toList.any (·.refKey)=true:=by rw [a]; exact Bool.false_ne_true
   rw [if_neg a']
   exact congrArg some e
theorem ObjM.look {h:Heap} {x dx C:Addr} {mA:Str→Option Value} (I:ObjM h x dx C mA):∃ od,PySem.W.InstAt h x (PySem.W.instObj C dx) C (some od)∧∀ name,PySem.W.lookIn name od=some (mA name) :=
 let ⟨od,ho,hl⟩:=lookIn_ns I.ns
 ⟨od,⟨I.obj,rfl,rfl,ho⟩,hl⟩
section
variable {prog:Program} {w:World} {A:Around} {E:Value→Shared→Prop} {s:Shared} {K:PySem.W.Frag} {x dx C f:Addr} {mA:Str→Option Value} {name:Str} {v:Value}
end
section
variable {P:Program} {w:World} {H H':Hp} {h h':Heap} {a C dx:Addr} {fs fs':List (Str×V)}
theorem ins_get (hok:HOk P w H h) (e:H a=some (.ins C dx fs)):∃ mA,ObjM h a dx C mA∧(∀ f,RelO (fs.lookup f) (mA f))∧PySem.Within mA (fs.map (·.1))∧fs.length≤1000∧H dx=some (.own a):=by
 obtain ⟨d,z,ne,ob,mA,n,r,q⟩:=(show ObjOk P w H h a (.ins C dx fs) from hok a _ e)
 exact ⟨mA,⟨ob,n,ne⟩,r,q,z,d⟩
end
structure Cls (K:PySem.W.Frag) (C:Addr):Prop where
 pg:PySem.W.plainGet K C Str.empty=true
 hd:PySem.W.hasDictIn K C=true
 po:PySem.W.plainOver K C=true
 sa:PySem.W.findIn K (.ref C) "__setattr__" = some (some (.builtin "object.__setattr__"))
theorem Cls.get {K:PySem.W.Frag} {C:Addr} (c:Cls K C) (f:Str):PySem.W.plainGet K C f=true:=c.pg
section
variable {X:Cx} {pins:List (Addr×Obj)} {σ:St} {H:Hp} {s:Shared} {a C dx:Addr} {fs:List (Str×V)} {f:Str} {v:V} {A:Around} {E:Value→Shared→Prop}
end
section
variable {X:Cx} {o e value:Expr} {f:Str} {pos pos' tpos:Pos} {ta tv:TE}
end
section
variable {X:Cx} {pins:List (Addr×Obj)} {σ:St} {H:Hp} {s:Shared} {A:Around} {E:Value→Shared→Prop} {Q:Value→Shared→Prop} {c:Value} {b:Bool}
inductive TyOf (K:PySem.W.Frag) (H:Hp):V→Value→Prop where
 | non:TyOf K H .non (.type "NoneType")
 | bl (x:Bool):TyOf K H (.bl x) (.type "bool")
 | int (i:Int):TyOf K H (.int i) (.type "int")
 | str (x:Str):TyOf K H (.str x) (.type "str")
 | flt (x:UInt64):TyOf K H (.flt x) (.type "float")
 | lst {a:Addr} {xs:List V} (e:H a=some (.lst xs)):TyOf K H (.ref a) (.type "list")
 | frz {a:Addr} {o:Obj} {xs:List V} (e:H a=some (.frz o (.lst xs))):TyOf K H (.ref a) (.type "list")
 | tup {a:Addr} {xs:List V} (e:H a=some (.tup xs)):TyOf K H (.ref a) (.type "tuple")
 | dK {a:Addr} {kvs:List (Key×V)} (e:H a=some (.dK kvs)):TyOf K H (.ref a) (.type "dict")
 | dT {a:Addr} {kvs:List (List Key×V)} (e:H a=some (.dT kvs)):TyOf K H (.ref a) (.type "dict")
 | ins {a C dx:Addr} {fs:List (Str×V)} (e:H a=some (.ins C dx fs)) (cl:Cls K C) (ha:PySem.W.findIn K (.ref C) "__class__" = some (some (.builtin "object.__class__")))
    (hn:PySem.W.specialIn K (.builtin "object.__class__") "__get__" = some (some (.builtin "getset_descriptor.__get__"))) (htk:PySem.W.takesIn K (.builtin "object.__class__")=some true)
    (hm:PySem.W.mroIn K C (.type "object")=some true):TyOf K H (.ref a) (.ref C)
theorem isinst_ok {x:V} {u t:Value} (I:Inv X pins σ H s) (rx:RelV x u) (ty:TyOf X.K H x t) (e:PySem.W.kitOne X.K t c=some b) (h:∀ tk,Q (.bool b) { s with toks:=tk }) :
 wpAny (model X.prog X.w) A (call (.builtin "isinstance") [u,c]) Q E s:=by
 cases ty with
 | non=>cases (show u=Value.none from rx); exact PySem.W.kia_one PySem.W.kitx_none I.kIn True.intro e (fun z=>nomatch z) h
 | bl y=>cases (show u=Value.bool y from rx); exact PySem.W.kia_one PySem.W.kitx_bool I.kIn True.intro e (fun z=>nomatch z) h
 | int i=>obtain ⟨t,q⟩:=(show ∃ t,u=Value.int i t from rx); cases q; exact PySem.W.kia_one PySem.W.kitx_int I.kIn True.intro e (fun z=>nomatch z) h
 | str y=>obtain ⟨t,q⟩:=(show ∃ t,u=Value.str y t from rx); cases q; exact PySem.W.kia_one PySem.W.kitx_str I.kIn True.intro e (fun z=>nomatch z) h
 | flt y=>obtain ⟨t,q⟩:=(show ∃ t,u=Value.float y t from rx); cases q; exact PySem.W.kia_one PySem.W.kitx_float I.kIn True.intro e (fun z=>nomatch z) h
 | @lst a xs ea =>
   cases (show u=Value.ref a from rx)
   obtain ⟨_,_,n,_,h1⟩:=(show ObjOk X.prog X.w H s.heap a (.lst xs) from I.hok a _ ea)
   exact PySem.W.kia_one PySem.W.kitx_list I.kIn ⟨_,h1,rfl⟩ e (fun z=>nomatch z) h
 | @frz a ob xs ea =>
   cases (show u=Value.ref a from rx)
   obtain ⟨_,_,_,n,_,h1⟩:=(show ObjOk X.prog X.w H s.heap a (.frz ob (.lst xs)) from I.hok a _ ea)
   exact PySem.W.kia_one PySem.W.kitx_list I.kIn ⟨_,h1,rfl⟩ e (fun z=>nomatch z) h
 | @tup a xs ea =>
   cases (show u=Value.ref a from rx)
   obtain ⟨_,_,_,p⟩:=(show ObjOk X.prog X.w H s.heap a (.tup xs) from I.hok a _ ea)
   obtain ⟨o,h1,h2,_⟩:=p
   exact PySem.W.kia_one PySem.W.kitx_tuple I.kIn ⟨o,h1,h2⟩ e (fun z=>nomatch z) h
 | @dK a kvs ea =>
   cases (show u=Value.ref a from rx)
   obtain ⟨_,_,vs,_,p⟩:=(show ObjOk X.prog X.w H s.heap a (.dK kvs) from I.hok a _ ea)
   obtain ⟨o,es,ep,h1,h2,_⟩:=p
   exact PySem.W.kia_one PySem.W.kitx_dict I.kIn ⟨o,h1,h2.1⟩ e (fun z=>nomatch z) h
 | @dT a kvs ea =>
   cases (show u=Value.ref a from rx)
   obtain ⟨_,_,xs,_,o,es,ep,h1,h2,_⟩:=(show ObjOk X.prog X.w H s.heap a (.dT kvs) from I.hok a _ ea)
   exact PySem.W.kia_one PySem.W.kitx_dict I.kIn ⟨o,h1,h2.1⟩ e (fun z=>nomatch z) h
 | @ins a C dx fs ea cl ha hn htk hm =>
   cases (show u=Value.ref a from rx)
   obtain ⟨mA,O,_⟩:=ins_get I.hok ea
   obtain ⟨od,J,_⟩:=O.look
   exact PySem.W.kia_one (PySem.W.kitx_own (cl.get _) cl.hd ha hn htk hm) I.kIn J e (fun z=>nomatch z) h
end
end L2
namespace L2
open PySem PySem.Spec PyProof.Rows
structure Room (k:Nat) (A:Around):Prop where
 hd:A.handled=none
 dp:A.depth+3 * k+5 < recursionLimit
 un:A.units+16 * k+200 < cLine
 gd:A.guards=some []
theorem Room.mono {j k:Nat} {A:Around} (r:Room k A) (h:j≤k):Room j A:=⟨r.hd,by have:=r.dp; omega,by have:=r.un; omega,r.gd⟩
theorem Room.deeper {k:Nat} {A:Around} (r:Room (k+1) A) (env:Env):Room k (A.deeper env) :=
 ⟨r.hd,by have:=r.dp; show A.depth+1+3 * k+5 < _; omega,by have:=r.un; show A.units+3+16 * k+200 < _; omega,r.gd⟩
theorem Room.depth {k:Nat} {A:Around} (r:Room k A):A.depth < recursionLimit:=by have:=r.dp; omega
theorem Room.units {k:Nat} {A:Around} (r:Room k A):A.units+64 < cLine:=by have:=r.un; omega
def tNil:TA:=fun _ H Q=>Q [] H
def tCons (ta:TE) (tr:TA):TA:=fun σ H Q=>ta σ H fun x H1=>tr σ H1 fun xs H2=>Q (x :: xs) H2
section
variable {X:Cx} {e:Expr} {es:List Expr} {te:TE} {t:TA} {pos:Pos}
theorem pa_nil:PA X [] tNil:=fun _ _ _ _ H Q I h=>Calls.spliced_nil ⟨[],H,I,.nil,h⟩
theorem pa_cons (ha:PE X e te) (hr:PA X es t) (hs:starEach (e :: es) X.env=(false,eval e X.env) :: starEach es X.env:=by rfl):PA X (e :: es) (tCons te t):=by
 intro pos pins s σ H Q I h
 rw [hs]
 show wpAny _ _ (spliced ((false,eval e X.env) :: backTo pos (starEach es X.env))) _ _ s
 refine Calls.spliced_cons (thn (ha pins s σ H _ I h) fun u s1 ⟨x,H1,I1,r1,q1⟩=>?_)
 exact thn (hr pos pins s1 σ H1 _ I1 q1) fun us s2 ⟨xs,H2,I2,r2,q2⟩=>⟨x :: xs,H2,I2,.cons r1 r2,q2⟩
def tTup (t:TA):TE:=fun σ H Q=>t σ H fun xs H1=>xs.length≤sizeLine∧∀ p,H1 p=none→Q (.ref p) (upd H1 p (.tup xs))
def tLst (t:TA):TE:=fun σ H Q=>t σ H fun xs H1=>xs.length≤sizeLine∧∀ p,H1 p=none→Q (.ref p) (upd H1 p (.lst xs))
theorem pe_tup {x1} (h:PA X es t):PE X (.Tuple es x1 pos) (tTup t):=by
 intro pins s σ H Q I hq
 refine wpAny_Tuple_spliced (thn (h pos pins s σ H _ I hq) fun us s1 ⟨xs,H1,I1,r,z,q⟩=>⟨by rw [← r.length]; exact z,?_⟩)
 have hf:H1 s1.heap.objs.size=none:=I1.hok.fresh (Nat.le_refl _)
 refine ⟨.ref s1.heap.objs.size,upd H1 s1.heap.objs.size (.tup xs),I1.laid (t':=s1.toks) (fun b u e=>Heap.get?_push_of_some _ e) (Nat.le_refl _) ?_,rfl,q _ hf⟩
 exact ⟨z,us,r,⟨_,Heap.get?_push_size _ rfl,rfl,_,rfl⟩⟩
theorem pe_lst (h:PA X es t):PE X (.List es pos) (tLst t):=by
 intro pins s σ H Q I hq
 refine wpAny_List_spliced (thn (h pos pins s σ H _ I hq) fun us s1 ⟨xs,H1,I1,r,z,q⟩=>⟨by rw [← r.length]; exact z,?_⟩)
 have hf:H1 s1.heap.objs.size=none:=I1.hok.fresh (Nat.le_refl _)
 refine ⟨.ref s1.heap.objs.size,upd H1 s1.heap.objs.size (.lst xs),I1.laid (t':=s1.toks) (fun b u e=>Heap.get?_push_of_some _ e) (Nat.le_refl _) ?_,rfl,q _ hf⟩
 exact ⟨z,us,0,r,Heap.get?_push_size _ rfl⟩
end
abbrev Sp:=List V→Hp→VK→XK→Prop
abbrev CXT:=List Env→Hp→Shared→XK→Value→Shared→Prop
structure Env0 (P:Program) (w:World) (K:PySem.W.Frag) (mg:Str→Option Value) (base:Heap) (A:Around) (outer:List Env) (s:Shared) (H:Hp):Prop where
 frames:A.frames=some outer
 mod:Mod K mg base
 bs:∀ b o,base.get? b=some o→s.heap.get? b=some o∧H b=none
 bsz:base.objs.size≤s.heap.objs.size
 funs:s.heap.FunFrames base outer
 frf:∀ b∈frs outer,H b=none
 hok:HOk P w H s.heap
 bare:AllBare s.gens
def CE (outer:List Env) (P:Program) (w:World) (H:Hp) (s:Shared) (Q:VK) (u:Value) (s':Shared):Prop :=
 ∃ v H',s'.os=s.os∧AllBare s'.gens∧Un (frs outer) [] H H' s.heap s'.heap∧HOk P w H' s'.heap∧RelV v u∧Q v H'
def CR (CX:CXT) (outer:List Env) (P:Program) (w:World) (H:Hp) (s:Shared) (Q:VK) (E:XK) (r:Result) (s':Shared):Prop :=
 match r with
 | .ok (.ret u)=>CE outer P w H s Q u s'
 | .ok _=>False
 | .error e=>CX outer H s E e s'
structure FnOk (P:Program) (w:World) (K:PySem.W.Frag) (mg:Str→Option Value) (base:Heap) (CX:CXT) (k:Nat) (f:Addr) (fd:FuncData) (ps:List Str) (sp:Sp):Prop where
 len:∀ vs H Q E,sp vs H Q E→vs.length=ps.length
 run:∀ (A:Around) (outer:List Env) (s:Shared) (H:Hp) (args:Args) (us:List Value) (vs:List V) (Q:VK) (E:XK),Room k A→Env0 P w K mg base A outer s H→BindsTo s fd args (ps.zip us)→Vals vs us→sp vs H Q E →
  codeAny (model P w) A (.call (.ref f) args) (CR CX outer P w H s Q E) s
section
variable {X:Cx} {pins:List (Addr×Obj)} {σ:St} {H:Hp} {s s':Shared}
theorem Inv.env0 (I:Inv X pins σ H s):Env0 X.prog X.w X.K X.mg X.base X.A X.stack s H :=
 ⟨I.ok.frames,I.ok.mod,I.bs,Nat.le_trans I.ok.bsz I.sz,I.stack,I.stkFree,I.hok,I.bare⟩
theorem Inv.after {Q:VK} {u:Value} (I:Inv X pins σ H s) (h:CE X.stack X.prog X.w H s Q u s'):EP X pins σ Q u s':=by
 obtain ⟨v,H',os,bare,un,hok,r,q⟩:=h
 obtain ⟨hh,g,d,t,os'⟩:=s'
 obtain rfl:os'=s.os:=os
 exact ⟨v,H',I.call (h':=hh) (g':=g) (d':=d) (t':=t) (ch:=[]) un hok bare (fun b z=>absurd z (by simp)),r,q⟩
end
def tCall (sp:Sp) (dvs:List V) (E:XK) (t:TA):TE:=fun σ H Q=>t σ H fun vs H1=>sp (vs++dvs) H1 Q E
def Binds (K:PySem.W.Frag) (fd:FuncData) (ps:List Str) (ds:List Value):Prop :=
 ∀ (s:Shared) (us:List Value),K.In s.heap→(us++ds).length=ps.length→BindsTo s fd ⟨us,[]⟩ (ps.zip (us++ds))
theorem Binds.all {K:PySem.W.Frag} {fd:FuncData} {ps:List Str} (h:∀ us:List Value,us.length=ps.length→bindArgs fd ⟨us,[]⟩=pure (ps.zip us)):Binds K fd ps []:=fun s us _ hl=>by
 rw [List.append_nil] at hl ⊢
 exact .of_eq (h us hl)
def Passes (CX:CXT) (X:Cx) (E:XK):Prop:=∀ (pins:List (Addr×Obj)) (σ:St) (H:Hp) (s:Shared) (e:Value) (s':Shared),Inv X pins σ H s→CX X.stack H s E e s'→X.xe e s'
section
variable {X:Cx} {CX:CXT} {k:Nat} {f C:Addr} {fd:FuncData} {ps:List Str} {sp:Sp} {dvs:List V} {ds:List Value} {E:XK} {x m:Str} {p pos apos:Pos} {e o:Expr} {es:List Expr} {ta:TE} {t:TA}
theorem run_fn {pins:List (Addr×Obj)} {σ:St} {H:Hp} {s:Shared} {Q:VK} {us:List Value} {vs:List V} (F:FnOk X.prog X.w X.K X.mg X.base CX k f fd ps sp) (hr:Room k X.A) (hb:Binds X.K fd ps ds) (hd:Vals dvs ds) (hx:Passes CX X E)
 (I:Inv X pins σ H s) (r:Vals vs us) (h:sp (vs++dvs) H Q E):wpAny (model X.prog X.w) X.A (call (.ref f) us) (EP X pins σ Q) X.xe s:=by
 have r2:Vals (vs++dvs) (us++ds):=r.append hd
 have hl:(us++ds).length=ps.length:=by rw [← r2.length]; exact F.len _ _ _ _ h
 refine wpAny_call (codeAny_mono (F.run X.A X.stack s H ⟨us,[]⟩ (us++ds) (vs++dvs) Q E hr I.env0 (hb s us I.kIn hl) r2 h) fun r s' hq=>?_)
 cases r with
 | error e=>exact hx pins σ H s e s' I hq
 | ok fl =>
   cases fl with
   | ret u=>exact I.after hq
   | next=>exact False.elim hq
   | brk=>exact False.elim hq
   | cont=>exact False.elim hq
theorem pe_call (F:FnOk X.prog X.w X.K X.mg X.base CX k f fd ps sp) (hr:Room k X.A) (hg:Gl X x) (hm:X.mg x=some (.ref f)) (hk:PySem.W.keepIn X.K (.ref f)=true) (hb:Binds X.K fd ps ds) (hd:Vals dvs ds) (hx:Passes CX X E)
 (ha:PA X (e :: es) t) (hdb:(x == ("__debug__" : Str))=false:=by decide) (he:starEach (e :: es) X.env=(false,eval e X.env) :: starEach es X.env:=by rfl) (hpl:(backTo pos (starEach es X.env)).any (·.1)=false:=by rfl) :
 PE X (.Call (.Name x p) (e :: es) [] pos) (tCall sp dvs E t):=by
 intro pins s σ H Q I h
 refine wpAny_Call_Name_kw (ld_glob I hg hm ?_ hdb)
 refine PySem.W.callWith_K (h₀:=X.base) I.ok.mod.kin hk (thn (ha pos pins s σ H _ I h) fun us s1 ⟨vs,H1,I1,r,q⟩=>⟨I1.kIn,?_⟩) he hpl
 exact run_fn F hr hb hd hx I1 r q
end
section
variable {X:Cx} {CX:CXT} {k:Nat} {f C:Addr} {fd:FuncData} {ps ks:List Str} {sp:Sp} {E:XK} {x m:Str} {p pos apos kpos:Pos} {e o:Expr} {es:List Expr} {kws:List Keyword} {te ta:TE} {t tk:TA} {nm:Option Str}
variable {g:List Value→List Value→List Value} {gV:List V→List V→List V}
end
structure FnScope (N P:List Str) (sc:Scope):Prop where
 kind:sc.kind=.function
 co:sc.isCoroutine=false
 gen:sc.isGenerator=false
 nd:N.Nodup
 pre:N.take P.length=P
 par:∀ x∈P,sc.names.lookup x=some .local∨sc.names.lookup x=some .cell
 nofree:∀ y∈sc.names,y.2≠.free
theorem bindL_out {kindOf:Str→Option NameKind} {x:Str}:∀ {binds:List (Str×Value)} {m:Str→Option Value},(∀ v,(x,v)∉binds)→bindL kindOf binds m x=m x
 | [],_,_=>rfl
 | (n,v) :: r,m,h=>by
   unfold bindL
   rw [bindL_out fun w hw=>h w (List.mem_cons_of_mem _ hw)]
   split
   · have:x≠n:=by rintro rfl; exact h v List.mem_cons_self
     simp [this]
   · rfl
theorem bindC_out {kindOf:Str→Option NameKind} {x:Str}:∀ {binds:List (Str×Value)} {m:Str→Option Value},(∀ v,(x,v)∉binds)→bindC kindOf binds m x=m x
 | [],_,_=>rfl
 | (n,v) :: r,m,h=>by
   unfold bindC
   rw [bindC_out fun w hw=>h w (List.mem_cons_of_mem _ hw)]
   split
   · rfl
   · have:x≠n:=by rintro rfl; exact h v List.mem_cons_self
     simp [this]
theorem bindL_get {kindOf:Str→Option NameKind} {x:Str} {v:Value}:∀ {P:List Str} {vs:List Value} {i:Nat} {m:Str→Option Value},P.Nodup→P[i]? = some x→vs[i]? = some v→kindOf x=some .local →
 bindL kindOf (P.zip vs) m x=some v
 | [],_,_,_,_,h,_,_=>by simp at h
 | _ :: _,[],_,_,_,_,h,_=>by simp at h
 | p :: P,w :: vs,0,m,nd,h1,h2,hk=>by
   simp at h1 h2; subst h1; subst h2
   show bindL kindOf ((p,w) :: P.zip vs) m p=_
   unfold bindL
   rw [bindL_out fun v hv=>(List.nodup_cons.mp nd).1 (List.of_mem_zip hv).1,if_pos hk]
   simp
 | p :: P,w :: vs,i+1,m,nd,h1,h2,hk=>by
   show bindL kindOf ((p,w) :: P.zip vs) m x=_
   unfold bindL
   exact bindL_get (i:=i) (List.nodup_cons.mp nd).2 (by simpa using h1) (by simpa using h2) hk
theorem bindC_get {kindOf:Str→Option NameKind} {x:Str} {v:Value}:∀ {P:List Str} {vs:List Value} {i:Nat} {m:Str→Option Value},P.Nodup→P[i]? = some x→vs[i]? = some v→kindOf x≠some .local →
 bindC kindOf (P.zip vs) m x=some v
 | [],_,_,_,_,h,_,_=>by simp at h
 | _ :: _,[],_,_,_,_,h,_=>by simp at h
 | p :: P,w :: vs,0,m,nd,h1,h2,hk=>by
   simp at h1 h2; subst h1; subst h2
   show bindC kindOf ((p,w) :: P.zip vs) m p=_
   unfold bindC
   rw [bindC_out fun v hv=>(List.nodup_cons.mp nd).1 (List.of_mem_zip hv).1,if_neg hk]
   simp
 | p :: P,w :: vs,i+1,m,nd,h1,h2,hk=>by
   show bindC kindOf ((p,w) :: P.zip vs) m x=_
   unfold bindC
   exact bindC_get (i:=i) (List.nodup_cons.mp nd).2 (by simpa using h1) (by simpa using h2) hk
def start (N:List Str) (vs:List V):St:=vs.map some++List.replicate (N.length - vs.length) none
def cxOf (CX:CXT) (P:Program) (w:World) (K:PySem.W.Frag) (mg:Str→Option Value) (base:Heap) (N:List Str) (qual:Str) (scope:Scope) (f:Addr) (cd:Value) (A:Around) (outer:List Env) (s:Shared) (H:Hp) (E:XK):Cx where
 prog:=P
 w:=w
 K:=K
 mg:=mg
 base:=base
 A:=A.deeper (envOfC qual scope s.heap.objs.size f cd)
 N:=N
 s₀:=s
 H₀:=H
 env:=envOfC qual scope s.heap.objs.size f cd
 outer:=outer
 stack:=envOfC qual scope s.heap.objs.size f cd :: outer
 ex:=[]
 calm:=true
 fn:=fun _=>true
 pn:=[]
 xe:=fun e s'=>wpAny (model P w) (A.deeper (envOfC qual scope s.heap.objs.size f cd)) (leaving (envOfC qual scope s.heap.objs.size f cd) e) (fun _ s''=>CX outer H s E e s'') (fun e' s''=>CX outer H s E e' s'') s'
theorem cell_has {sc:Scope} {n:Nat} {x:Str} (h:sc.names.lookup x=some .cell):∃ c,(cellsFrom n sc.names []).lookup x=some c:=by
 have q:=PySem.W.cellsFrom_some sc.names n [] (.inl h)
 exact Option.isSome_iff_exists.mp q
theorem inv_start {CX:CXT} {P:Program} {w:World} {K:PySem.W.Frag} {mg:Str→Option Value} {base:Heap} {N ps:List Str} {qual:Str} {scope:Scope} {f:Addr} {cd:Value} {A:Around} {outer:List Env} {s s1:Shared} {H:Hp} {E:XK} {us:List Value} {vs:List V}
 (S:FnScope N ps scope) (hd:A.handled=none) (e0:Env0 P w K mg base A outer s H) (hl:vs.length=ps.length) (r:Vals vs us)
 (x:InCallC s s.heap.objs.size (bindL (envOfC qual scope s.heap.objs.size f cd).kindOf (ps.zip us) fun _=>none) (cellsFrom (s.heap.objs.size+1) scope.names []) (bindC (envOfC qual scope s.heap.objs.size f cd).kindOf (ps.zip us) fun _=>none) s1) :
 Inv (cxOf CX P w K mg base N qual scope f cd A outer s H E) [] (start N vs) H s1:=by
 have hpl:ps.length≤N.length:=by have:=congrArg List.length S.pre; rw [List.length_take] at this; omega
 obtain ⟨h1,tk,rfl,hk⟩:=x.done
 have noA:∀ b:Addr,b∉(cxOf CX P w K mg base N qual scope f cd A outer s H E).ex:=fun b z=>absurd (show b∈([]:List Addr) from z) (by simp)
 refine ⟨⟨e0.mod,S.kind,rfl,rfl,Nat.le_refl _,fun y z c h1 h2=>?_,fun y hy=>?_,fun y c _ h=>?_,fun _=>hd,Around.frames_deeper e0.frames,.inr ⟨rfl,rfl⟩,fun b z=>absurd z (noA b),e0.bs,e0.bsz,fun b _ _=>noA b,fun b z=>absurd z (noA b),e0.funs,e0.frf⟩,
  rfl,e0.bare,Un.kept hk,⟨_,x.toInCall.ns,fun i y v h1 h2 h3=>?_⟩,fun y c h=>⟨_,x.cell y c h⟩,e0.hok.fresh (Nat.le_refl _),fun y c h=>?_,fun p hp=>absurd (show p∈([]:List (Addr×Obj)) from hp) (by simp),e0.hok.kept hk,?_⟩
 · exact name_of_addr x.apart (PySem.mem_of_lookup h1) (PySem.mem_of_lookup h2)
 · have hy:scope.names.lookup y=some .cell∨scope.names.lookup y=some .free:=hy
   rcases hy with hy | hy
   · exact cell_has hy
   · exact absurd rfl (S.nofree _ (PySem.mem_of_lookup hy))
 · exact Nat.le_of_lt (x.above y c (PySem.mem_of_lookup h))
 · have hi:i < vs.length:=by
    unfold start at h2
    by_cases hi:i < vs.length
    · exact hi
    · rw [List.getElem?_append_right (by simpa using hi)] at h2
      rw [List.getElem?_replicate] at h2
      split at h2 <;> cases h2
   have ha:vs[i]? = some v:=by
    unfold start at h2
    rw [List.getElem?_append_left (by simpa using hi),List.getElem?_map] at h2
    cases e:vs[i]? with
    | none=>rw [e] at h2; cases h2
    | some a=>rw [e] at h2; cases h2; rfl
   obtain ⟨u,hu,rv⟩:=r.get ha
   have hp:ps[i]? = some y:=by
    rw [← S.pre,List.getElem?_take_of_lt (by omega)]; exact h1
   have ndP:ps.Nodup:=by rw [← S.pre]; exact S.nd.sublist (List.take_sublist _ _)
   refine ⟨u,rv,?_⟩
   rcases S.par y (List.mem_of_getElem? hp) with k | k
   · exact .inl ⟨k,bindL_get ndP hp hu k⟩
   · obtain ⟨c,e⟩:=cell_has (n:=s.heap.objs.size+1) k
     refine .inr ⟨.inl k,c,e,?_⟩
     have q:=x.cell y c e
     rw [bindC_get ndP hp hu (by show scope.names.lookup y≠_; rw [k]; decide)] at q
     exact q
 · exact .inl (e0.hok.fresh (Nat.le_of_lt (x.above y c (PySem.mem_of_lookup h))))
 · unfold start
   show _=N.length
   rw [List.length_append,List.length_map,List.length_replicate]
   omega
theorem fn_of {CX:CXT} {P:Program} {w:World} {K:PySem.W.Frag} {mg:Str→Option Value} {base:Heap} {k:Nat} {f:Addr} {name qual:Str} {params:Arguments} {body:List Stmt} {scope:Scope} {dV kV doc pm cdv ct oc:Value} {an od:Option Addr}
 {osl:Array (Option Value)} {N ps:List Str} {sp:Sp} (lk:K.lookup f=some ⟨oc,od,.func (PySem.W.fnOf name qual params body scope dV kV doc pm an cdv ct),osl⟩) (hcd:PySem.W.codeIn K cdv qual=true) (S:FnScope N ps scope)
 (len:∀ vs H Q E,sp vs H Q E→vs.length=ps.length)
 (hbody:∀ (A:Around) (outer:List Env) (s:Shared) (H:Hp) (vs:List V) (Q:VK) (E:XK),Room k (A.deeper (envOfC qual scope s.heap.objs.size f cdv))→sp vs H Q E →
   ∃ t,PSs (cxOf CX P w K mg base N qual scope f cdv A outer s H E) body t∧t { nx:=fun _ H'=>Q .non H',rt:=Q } (start N vs) H) :
 FnOk P w K mg base CX (k+1) f (PySem.W.fnOf name qual params body scope dV kV doc pm an cdv ct) ps sp:=by
 refine ⟨len,fun A outer s H args us vs Q E hr e0 hb r hsp=>?_⟩
 have hl:=len _ _ _ _ hsp
 have KX:K.In s.heap:=e0.mod.kin.keeps fun b o e=>(e0.bs b o e).1
 have lim:s.heap.NoLimit:=e0.mod.nolimit.keeps fun b o e=>(e0.bs b o e).1
 have hkind:∀ y∈ps.zip us,scope.names.lookup y.1=some .local∨(scope.names.lookup y.1=some .cell∧((cellsFrom (s.heap.objs.size+1) scope.names []).lookup y.1).isSome=true):=fun ⟨n,v⟩ hy=>by
  rcases S.par n (List.of_mem_zip hy).1 with q | q
  · exact .inl q
  · exact .inr ⟨q,PySem.W.cellsFrom_some _ _ _ (.inl q)⟩
 refine codeAny_call_function hr.depth (KX _ _ lk) rfl S.co S.gen rfl (PySem.W.codeRec_of KX hcd) (hb _ _ _ _ ?_)
 refine wpAny_newFunctionEnv_cells S.kind hkind fun env he s1 x=>?_
 subst he
 refine ⟨lim.keeps x.toInCall.keep,codeAny_func ?_⟩
 obtain ⟨t,ht,hq⟩:=hbody A outer s H vs Q E (hr.deeper _) hsp
 have I:Inv (cxOf CX P w K mg base N qual scope f cdv A outer s H E) [] (start N vs) H s1:=inv_start S hr.hd e0 hl r x
 refine wpAny_mono (ht [] s1 (start N vs) H _ I hq) (fun fl s' hs=>?_) fun e s' hs=>hs
 have fin:∀ {σ':St} {H':Hp} {v:V} {u:Value},Inv (cxOf CX P w K mg base N qual scope f cdv A outer s H E) [] σ' H' s'→RelV v u→Q v H'→CE outer P w H s Q u s' :=
  fun {σ' H' v u} J rv q=>⟨v,H',J.os,J.bare,J.base,J.hok,rv,q⟩
 cases fl with
 | ret u =>
   obtain ⟨v,σ',H',J,rv,q⟩:=hs
   exact fin J rv q
 | next =>
   obtain ⟨σ',H',J,q⟩:=hs
   exact fin (v:=V.non) (u:=Value.none) J rfl q
 | brk =>
   obtain ⟨_,_,_,q⟩:=hs
   exact False.elim q
 | cont =>
   obtain ⟨_,_,_,q⟩:=hs
   exact False.elim q
end L2
namespace L2
open PySem PySem.Spec PyProof.Rows
section
variable {X:Cx} {x:Str} {p pos:Pos} {e:Expr} {es:List Expr} {t:TA} {id T:String} {r:List V→Hp→VK→Prop}
def tCB (r:List V→Hp→VK→Prop) (t:TA):TE:=fun σ H Q=>t σ H fun vs H1=>r vs H1 Q
theorem pe_callB (hc:CallR X (.builtin id) r) (hg:Gl X x) (hm:X.mg x=none) (hv:bootBuiltins x=some (.builtin id)) (ha:PA X (e :: es) t) (hn:x ≠ "__name__" := by decide) (hdb:(x == ("__debug__" : Str))=false:=by decide)
 (he:starEach (e :: es) X.env=(false,eval e X.env) :: starEach es X.env:=by rfl) (hpl:(backTo pos (starEach es X.env)).any (·.1)=false:=by rfl):PE X (.Call (.Name x p) (e :: es) [] pos) (tCB r t):=by
 intro pins s σ H Q I h
 refine wpAny_Call_Name_kw (ld_blt I hg hm hv ?_ hn hdb)
 exact PyProof.Rows.callWith_builtin1 (thn (ha pos pins s σ H _ I h) fun us s1 ⟨vs,H1,I1,r1,q1⟩=>hc pins s1 σ H1 vs us Q I1 r1 q1) he hpl
theorem pe_callTy (hc:CallR X (.type T) r) (hg:Gl X x) (hm:X.mg x=none) (hv:bootBuiltins x=some (.type T)) (ha:PA X (e :: es) t) (hn:x ≠ "__name__" := by decide) (hdb:(x == ("__debug__" : Str))=false:=by decide)
 (he:starEach (e :: es) X.env=(false,eval e X.env) :: starEach es X.env:=by rfl) (hpl:(backTo pos (starEach es X.env)).any (·.1)=false:=by rfl):PE X (.Call (.Name x p) (e :: es) [] pos) (tCB r t):=by
 intro pins s σ H Q I h
 refine wpAny_Call_Name_kw (ld_blt I hg hm hv ?_ hn hdb)
 exact PyProof.Rows.callWith_type1 (thn (ha pos pins s σ H _ I h) fun us s1 ⟨vs,H1,I1,r1,q1⟩=>hc pins s1 σ H1 vs us Q I1 r1 q1) he hpl
end
end L2
namespace HT
open PySem PyProof.Rows
section
open PySem.SeqAt
open PySem.AutoSeq1 (wpAny_loadPart')
open PySem.MeetsSeq PySem.MeetsSeq2 PySem.MeetsSeq3
end
section
variable {prog:Program} {w:World} {A:Around} {E:Value→Shared→Prop} {s:Shared}
theorem cat_tup {t b:Addr} {vs ws:List Value} {Q:Value→Shared→Prop} (ht:IsTup s.heap t vs.toArray) (hb:IsTup s.heap b ws.toArray) (hv:vs≠[])
 (h1:ws=[]→Q (.ref t) s) (h2:ws≠[]→Q (.ref s.heap.objs.size) { s with heap:=s.heap.push { cls:=.type "tuple",data:=.seq (vs++ws).toArray } })
 (hsz:vs.length+ws.length≤sizeLine):wpAny (model prog w) A (binaryOp .Add (.ref t) (.ref b)) Q E s:=by
 obtain ⟨⟨cls,dd,data,sl⟩,ho,hc,n,hd⟩:=id ht
 obtain ⟨⟨cls2,dd2,data2,sl2⟩,ho2,hc2,n2,hd2⟩:=id hb
 simp only at hc hd hc2 hd2
 subst hc hd hc2 hd2
 have e:vs.toArray++ws.toArray=(vs++ws).toArray:=by simp
 by_cases hw:ws=[]
 · exact concat_meets ⟨_,ho,rfl⟩ ⟨_,ho2,rfl⟩ noFill_tuple_add seq_tuple_add PySem.F.slot_tuple_add PySem.F.entry_tuple_add (PySem.F.args_tuple_add_2 _ _)
    (tuple_addW1 t b vs.toArray ws.toArray n n2 dd dd2 sl sl2 (by simpa using hv) (by simp [hw])) ⟨ho,ho2,h1 hw⟩
 · refine concat_meets ⟨_,ho,rfl⟩ ⟨_,ho2,rfl⟩ noFill_tuple_add seq_tuple_add PySem.F.slot_tuple_add PySem.F.entry_tuple_add (PySem.F.args_tuple_add_2 _ _)
    (tuple_addW2 t b vs.toArray ws.toArray n n2 dd dd2 sl sl2 (by simpa using hv) (by simpa using hw) (by rw [List.size_toArray,List.size_toArray]; exact hsz)) ⟨ho,ho2,?_⟩
   rw [e]
   exact h2 hw
def sIx (n d:Nat):Option Int→Nat
 | none=>d
 | some v=>if v < 0 then (v+(n:Int)).toNat else min v.toNat n
theorem sIx_none (n d:Nat):sIx n d none=d:=rfl
theorem sIx_nat (n d k:Nat):sIx n d (some (k:Int))=min k n:=by
 show (if (k:Int) < 0 then ((k:Int)+(n:Int)).toNat else min (k:Int).toNat n)=min k n
 rw [if_neg (by omega),Int.toNat_natCast]
theorem sIx_le (n d:Nat) (hd:d≤n) (o:Option Int):sIx n d o≤n:=by
 cases o with
 | none=>exact hd
 | some v =>
   show (if v < 0 then (v+(n:Int)).toNat else min v.toNat n)≤n
   by_cases hv:v < 0
   · rw [if_pos hv]; omega
   · rw [if_neg hv]; exact Nat.min_le_right _ _
theorem clip_eq (v:Int) (n d:Nat):(if v < 0 then max (v+(n:Int)) 0 else min v (n:Int))=((sIx n d (some v):Nat):Int):=by
 show (if v < 0 then max (v+(n:Int)) 0 else min v (n:Int))=(((if v < 0 then (v+(n:Int)).toNat else min v.toNat n):Nat):Int)
 by_cases hv:v < 0
 · simp only [if_pos hv]; omega
 · simp only [if_neg hv]; omega
theorem adjust_gen (lo hi:Option Int) (n:Nat):Builtin.Slice.sliceAdjust lo hi 1 (n:Int)=(((sIx n 0 lo:Nat):Int),((sIx n n hi:Nat):Int)):=by
 have h1:¬ ((1:Int) < 0):=by omega
 unfold Builtin.Slice.sliceAdjust
 simp only [h1,if_false]
 refine Prod.ext ?_ ?_
 · cases lo with
   | none=>rfl
   | some v=>exact clip_eq v n 0
 · cases hi with
   | none=>rfl
   | some v=>exact clip_eq v n n
theorem places_gen (i j:Nat):Builtin.Slice.slicePlaces (i:Int) (j:Int) 1=j - i:=by
 unfold Builtin.Slice.slicePlaces
 have h1:(1:Int) > 0:=by omega
 simp only [h1,if_true,Int.ediv_one]
 split <;> omega
theorem slicePart_ {v:Value} {o:Option Int} {Q:Option Int→Shared→Prop} (p:IsPart v o) (h:Q o s):wpAny (model prog w) A (Builtin.Slice.slicePartIndex v) Q E s:=by
 cases p with
 | none=>exact slicePart_none h
 | int i t=>exact slicePart_int h
theorem sliceApplied_gen {sl:Addr} {vl vu:Value} {lo hi:Option Int} {n:Nat} {Q:Int×Int×Nat→Shared→Prop} (hs:s.heap.IsSliceOf sl vl vu .none) (pl:IsPart vl lo) (pu:IsPart vu hi)
 (h:Q (((sIx n 0 lo:Nat):Int),1,sIx n n hi - sIx n 0 lo) s):wpAny (model prog w) A (Builtin.Slice.sliceApplied (.ref sl) (pure (n:Int))) Q E s:=by
 obtain ⟨os,hos,hcs,hds⟩:=id hs
 unfold Builtin.Slice.sliceApplied Builtin.Slice.sliceFields
 refine wpAny_bind (wpAny_bind (wpAny_field hos hds (x:=vl) rfl (wpAny_bind (wpAny_field hos hds (x:=vu) rfl (wpAny_bind (wpAny_field hos hds (x:=.none) rfl (wpAny_pure ?_)))))))
 refine wpAny_bind (slicePart_none ?_)
 show wpAny _ _ (if ((1:Int) == 0)=true then _ else _) _ _ s
 rw [if_neg (by decide)]
 refine wpAny_bind (slicePart_ pl (wpAny_bind (slicePart_ pu (wpAny_bind (wpAny_pure ?_)))))
 show wpAny _ _ (match Builtin.Slice.sliceAdjust lo hi 1 (n:Int) with | (lo,hi)=>pure (lo,(1:Int),Builtin.Slice.slicePlaces lo hi 1)) _ _ s
 rw [adjust_gen lo hi n]
 show wpAny _ _ (pure (((sIx n 0 lo:Nat):Int),(1:Int),Builtin.Slice.slicePlaces ((sIx n 0 lo:Nat):Int) ((sIx n n hi:Nat):Int) 1)) _ _ s
 rw [places_gen]
 exact wpAny_pure h
theorem pick_gen (xs:Array Value) (i k:Nat):((List.range k).filterMap fun (m:Nat)=>xs[((i:Int)+(m:Int) * 1).toNat]?).toArray=((xs.toList.drop i).take k).toArray:=by
 have e:(fun (m:Nat)=>xs[((i:Int)+(m:Int) * 1).toNat]?)=fun m=>xs[i+m]?:=by
  funext m
  have:((i:Int)+(m:Int) * 1).toNat=i+m:=by omega
  rw [this]
 rw [e]
 have:=pick_run xs i k
 rw [List.filterMap_map] at this
 have e2:((fun x=>xs[x]?) ∘ fun x=>i+x)=fun m=>xs[i+m]?:=rfl
 rw [e2] at this
 rw [this]
theorem getItem_tuple_cut {t sl:Addr} {items:Array Value} {vl vu:Value} {lo hi:Option Int} {Q:Value→Shared→Prop} (ht:IsTup s.heap t items) (hs:s.heap.IsSliceOf sl vl vu .none) (pl:IsPart vl lo) (pu:IsPart vu hi)
 (hw:¬ (sIx items.size 0 lo=0∧sIx items.size items.size hi=items.size))
 (h:Q (.ref s.heap.objs.size) { s with heap:=s.heap.push { cls:=.type "tuple",data:=.seq ((items.toList.drop (sIx items.size 0 lo)).take (sIx items.size items.size hi - sIx items.size 0 lo)).toArray } })
 (hsz:items.size≤sizeLine):wpAny (model prog w) A (getItem (.ref t) (.ref sl)) Q E s:=by
 have htake:sizeOk (.seq ((items.toList.drop (sIx items.size 0 lo)).take (sIx items.size items.size hi - sIx items.size 0 lo)).toArray):=by
  show ((items.toList.drop (sIx items.size 0 lo)).take (sIx items.size items.size hi - sIx items.size 0 lo)).toArray.size≤sizeLine
  rw [List.size_toArray,List.length_take,List.length_drop,Array.length_toList]
  omega
 have hj:sIx items.size items.size hi≤items.size:=sIx_le _ _ (Nat.le_refl _) hi
 obtain ⟨os,hos,hcs,hds⟩:=id hs
 have hTs:s.TypeIs (.ref sl) "slice" := ⟨os,hos,hcs⟩
 unfold getItem
 try with_reducible refine wpAny_holding ?_
 first | refine wpAny_bind (wpAny_pure ?_) | skip
 refine wpAny_bind (wpAny_sequenceKey ht.typeIs (by decide) ?_)
 refine wpAny_bind (wpAny_callSpecial?_slot (name:=Str.ofString "__getitem__") ht.typeIs PyProof.Rows.slot_tuple_getitem
  (wpAny_call_entry PyProof.Rows.slot_tuple_getitem ht.typeIs entry_tuple_getitem ?_ (args_tuple_getitem _ _)))
 show wpAny _ _ (Builtin.Tuple.tupleItemsOf (.ref t) >>= _) _ _ s
 refine wpAny_bind (tupleItemsOf_ ht ?_)
 refine wpAny_bind (wpAny_typeOf hTs ?_)
 rw [if_pos (by decide)]
 refine wpAny_bind (sliceApplied_gen hs pl pu ?_)
 have hno:¬ ((((sIx items.size 0 lo:Nat):Int) == 0 && (1:Int) == 1 && (sIx items.size items.size hi - sIx items.size 0 lo) == items.size)=true):=by
  intro q
  rw [Bool.and_eq_true,Bool.and_eq_true] at q
  have q1:((sIx items.size 0 lo:Nat):Int)=0:=eq_of_beq q.1.1
  have q2:sIx items.size items.size hi - sIx items.size 0 lo=items.size:=eq_of_beq q.2
  exact hw ⟨by omega,by omega⟩
 show wpAny _ _ (if (((sIx items.size 0 lo:Nat):Int) == 0 && (1:Int) == 1 && (sIx items.size items.size hi - sIx items.size 0 lo) == items.size)=true then _ else _) _ _ s
 rw [if_neg hno,pick_gen]
 first
  | exact wpAny_bind (m:=Builtin.Tuple.tupleExact _) (wpAny_newObj_type (wpAny_pure ⟨_,rfl,wpAny_pure h⟩) htake)
  | exact wpAny_bind (m:=Builtin.Tuple.tupleExact _) (wpAny_newObj_type (wpAny_bind (wpAny_pure (wpAny_pure ⟨_,rfl,wpAny_pure h⟩))) htake)
  | exact wpAny_bind (wpAny_bind (m:=Builtin.Tuple.tupleExact _) (wpAny_newObj_type (wpAny_pure (wpAny_pure ⟨_,rfl,wpAny_pure h⟩)) htake))
  | exact wpAny_bind (wpAny_bind (m:=Builtin.Tuple.tupleExact _) (wpAny_newObj_type (wpAny_pure ⟨_,rfl,wpAny_pure h⟩) htake))
end
end HT
namespace L2
open PySem PySem.Spec PyProof.Rows
abbrev TO:=St→Hp→(Option Int→Hp→Prop)→Prop
def PO (X:Cx) (e:Option Expr) (t:TO):Prop :=
 ∀ (pins:List (Addr×Obj)) (s:Shared) (σ:St) (H:Hp) (Q:Option Int→Hp→Prop),Inv X pins σ H s→t σ H Q →
   wpAny (model X.prog X.w) X.A (evalPart e X.env) (fun u s'=>∃ o H',Inv X pins σ H' s'∧IsPart u o∧Q o H') X.xe s
def tNoPart:TO:=fun _ H Q=>Q none H
def tPart (t:TE):TO:=fun σ H Q=>t σ H fun x H1=>∃ i,x=.int i∧Q (some i) H1
section
variable {X:Cx} {e:Expr} {te:TE} {lo hi:Option Expr} {tl th:TO} {pos p2:Pos}
theorem po_none:PO X none tNoPart:=by
 intro pins s σ H Q I h
 rw [evalPart_none]
 exact wpAny_pure ⟨none,H,I,.none,h⟩
theorem po_some (h:PE X e te):PO X (some e) (tPart te):=by
 intro pins s σ H Q I hw
 rw [evalPart_some]
 refine thn (h pins s σ H _ I hw) fun u s1 ⟨x,H1,I1,r1,q1⟩=>?_
 obtain ⟨i,rfl,q⟩:=q1
 obtain ⟨t,rfl⟩:=r1
 exact ⟨some i,H1,I1,.int i t,q⟩
def SlR (X:Cx) (r:V→Option Int→Option Int→Hp→VK→Prop):Prop :=
 ∀ (pins:List (Addr×Obj)) (s:Shared) (σ:St) (H:Hp) (x:V) (v vl vu:Value) (lo hi:Option Int) (sl:Addr) (Q:VK),Inv X pins σ H s→RelV x v→s.heap.IsSliceOf sl vl vu .none→IsPart vl lo→IsPart vu hi→r x lo hi H Q →
   ∃ T id,typeLookup (.type T) "__getitem__" = pure (some (.builtin id))∧s.TypeIs v T∧wpAny (model X.prog X.w) X.A (getItem v (.ref sl)) (EP X pins σ Q) X.xe s
def tSl (r:V→Option Int→Option Int→Hp→VK→Prop) (te:TE) (tl th:TO):TE:=fun σ H Q=>te σ H fun x H1=>tl σ H1 fun l H2=>th σ H2 fun u H3=>r x l u H3 Q
theorem pe_slice {r:V→Option Int→Option Int→Hp→VK→Prop} (hr:SlR X r) (he:PE X e te) (hl:PO X lo tl) (hu:PO X hi th):PE X (.Subscript e (.Slice lo hi none p2) pos) (tSl r te tl th):=by
 intro pins s σ H Q I h
 refine Subscript_ (thn (he pins s σ H _ I h) fun v s1 ⟨x,H1,I1,r1,q1⟩=>?_)
 refine wpAny_Slice (thn (hl pins s1 σ H1 _ I1 q1) fun vl s2 ⟨l,H2,I2,pl,q2⟩=>thn (hu pins s2 σ H2 _ I2 q2) fun vu s3 ⟨u,H3,I3,pu,q3⟩=>?_)
 rw [evalPart_none]
 refine wpAny_pure ?_
 have I4:Inv X pins σ H3 { s3 with heap:=s3.heap.push { cls:=.type "slice",data:=.fields #[vl,vu,.none] } }:=I3.kept (t':=s3.toks) fun b ob q=>Heap.get?_push_of_some _ q
 obtain ⟨T,id,hT,ht,hg⟩:=hr pins { s3 with heap:=s3.heap.push { cls:=.type "slice",data:=.fields #[vl,vu,.none] } } σ H3 x v vl vu l u s3.heap.objs.size Q I4 r1 (Heap.IsSliceOf.new ..) pl pu q3
 show wpAny (model X.prog X.w) X.A (subscriptTail e (.Slice lo hi none p2) v (.ref s3.heap.objs.size)) (EP X pins σ Q) X.xe { s3 with heap:=s3.heap.push { cls:=.type "slice",data:=.fields #[vl,vu,.none] } }
 exact tail_any (ops:=[.ref s3.heap.objs.size,v]) ht hT hg (by with_unfolding_all rfl)
def cutV (xs:List V) (lo hi:Option Int):List V:=(xs.drop (HT.sIx xs.length 0 lo)).take (HT.sIx xs.length xs.length hi - HT.sIx xs.length 0 lo)
theorem cutV_length (xs:List V) (lo hi:Option Int):(cutV xs lo hi).length≤xs.length:=by
 unfold cutV
 rw [List.length_take,List.length_drop]
 omega
def rSlT (K:PySem.W.Frag):V→Option Int→Option Int→Hp→VK→Prop:=fun x lo hi H Q=>∃ a xs,x=.ref a∧SqT K H a xs ∧
 ¬ (HT.sIx xs.length 0 lo=0∧HT.sIx xs.length xs.length hi=xs.length)∧∀ p,H p=none→Q (.ref p) (upd H p (.tup (cutV xs lo hi)))
theorem sl_tup:SlR X (rSlT X.K):=by
 intro pins s σ H x v vl vu lo hi sl Q I rx hs pl pu h
 obtain ⟨a,xs,rfl,hx,hw,q⟩:=h
 cases rx
 obtain ⟨its,r,ht,hz⟩:=I.tuple hx
 have hlen:its.toArray.size=xs.length:=by rw [List.size_toArray]; exact r.length.symm
 refine ⟨"tuple",_,PyProof.Rows.slot_tuple_getitem.lookup,ht.typeIs,?_⟩
 refine HT.getItem_tuple_cut ht hs pl pu (by rw [hlen]; exact hw) ?_ (by rw [hlen]; exact hz)
 rw [hlen]
 refine ⟨.ref s.heap.objs.size,_,I.laid (t':=s.toks) (o:=.tup (cutV xs lo hi)) (fun b ob q=>Heap.get?_push_of_some _ q) (Nat.le_refl _) ?_,rfl,q _ (I.hok.fresh (Nat.le_refl _))⟩
 exact ⟨Nat.le_trans (cutV_length xs lo hi) hz,_,(r.drop (HT.sIx xs.length 0 lo)).take (HT.sIx xs.length xs.length hi - HT.sIx xs.length 0 lo),IsTup.new _ _⟩
def rCatT (K:PySem.W.Frag):R2:=fun x y H Q=>∃ a b xs ys,x=.ref a∧y=.ref b∧SqT K H a xs∧SqT K H b ys∧xs≠[]∧xs.length+ys.length≤sizeLine ∧
 (ys=[]→Q (.ref a) H)∧(ys≠[]→∀ p,H p=none→Q (.ref p) (upd H p (.tup (xs++ys))))
theorem Vals.nil_iff {xs:List V} {us:List Value} (r:Vals xs us):us=[]↔xs=[]:=by
 cases r with
 | nil=>simp
 | cons _ _=>simp
theorem op_catT:OpR X (binaryOp .Add) (rCatT X.K):=by
 intro pins s σ H x y v u Q I rx ry h
 obtain ⟨a,b,xs,ys,rfl,rfl,ha,hb,hx,hz,q1,q2⟩:=h
 cases rx
 cases ry
 obtain ⟨its,r1,p1,_⟩:=I.tuple ha
 obtain ⟨its2,r2,p2,_⟩:=I.tuple hb
 refine HT.cat_tup p1 p2 (fun z=>hx (r1.nil_iff.mp z)) (fun z=>⟨.ref a,H,I,rfl,q1 (r2.nil_iff.mp z)⟩) (fun z=>?_) (by rw [← r1.length,← r2.length]; exact hz)
 refine ⟨.ref s.heap.objs.size,_,I.laid (t':=s.toks) (o:=.tup (xs++ys)) (fun b ob q=>Heap.get?_push_of_some _ q) (Nat.le_refl _) ?_,rfl,q2 (fun w=>z (r2.nil_iff.mpr w)) _ (I.hok.fresh (Nat.le_refl _))⟩
 exact ⟨by rw [List.length_append]; exact hz,_,r1.append r2,IsTup.new _ _⟩
end
end L2
namespace L2
open PySem PySem.Spec PyProof.Rows
def ixN (n:Nat) (i:Int):Option Nat:=if 0≤i then (if i < n then some i.toNat else none) else if -(n:Int)≤i then some (i+n).toNat else none
def atI {α:Type} (xs:List α) (i:Int):Option α:=(ixN xs.length i).bind fun j=>xs[j]?
theorem ixN_seq {n:Nat} {i:Int} {j:Nat} (h:ixN n i=some j):seqIndex? i n=some j∧j < n∧-(n:Int)≤i∧i < n:=by
 unfold ixN at h
 by_cases h0:0≤i
 · rw [if_pos h0] at h
   by_cases h1:i < n
   · rw [if_pos h1] at h
     have e:i.toNat=j:=Option.some.inj h
     exact ⟨by rw [seqIndex_of h0 h1,e],by omega,by omega,h1⟩
   · rw [if_neg h1] at h; cases h
 · rw [if_neg h0] at h
   by_cases h1:-(n:Int)≤i
   · rw [if_pos h1] at h
     have e:(i+n).toNat=j:=Option.some.inj h
     exact ⟨by rw [seqIndex_neg (by omega) h1,e],by omega,h1,by omega⟩
   · rw [if_neg h1] at h; cases h
theorem atI_get {α:Type} {xs:List α} {i:Int} {v:α} (h:atI xs i=some v):∃ j,seqIndex? i xs.length=some j∧xs[j]? = some v∧j < xs.length∧-(xs.length:Int)≤i∧i < xs.length:=by
 unfold atI at h
 cases e:ixN xs.length i with
 | none=>rw [e] at h; cases h
 | some j =>
   rw [e] at h
   obtain ⟨h1,h2,h3,h4⟩:=ixN_seq e
   exact ⟨j,h1,h,h2,h3,h4⟩
theorem atI_nat {α:Type} {xs:List α} {j:Nat} {v:α} (h:xs[j]? = some v):atI xs (j:Int)=some v:=by
 have hj:j < xs.length:=(List.getElem?_eq_some_iff.mp h).1
 have e:ixN xs.length (j:Int)=some j:=by
  unfold ixN
  rw [if_pos (by omega),if_pos (by omega)]; simp
 unfold atI; rw [e]; exact h
def PlainIx (b:Expr):Prop:=∀ o i,subscripted b false o i=operate [o,i] (getItem o i)
def IxR (X:Cx) (r:R2):Prop :=
 ∀ (value slice:Expr) (pins:List (Addr×Obj)) (s:Shared) (σ:St) (H:Hp) (x y:V) (v u:Value) (Q:VK),Inv X pins σ H s→RelV x v→RelV y u→r x y H Q →
   subscripted slice false v u=operate [v,u] (getItem v u)→wpAny (model X.prog X.w) X.A (subscriptTail value slice v u) (EP X pins σ Q) X.xe s
def MtR (X:Cx) (id:String) (r:V→List V→Hp→VK→Prop):Prop :=
 ∀ (pins:List (Addr×Obj)) (s:Shared) (σ:St) (H:Hp) (x:V) (xs:List V) (v:Value) (us:List Value) (Q:VK),Inv X pins σ H s→RelV x v→Vals xs us→r x xs H Q →
   wpAny (model X.prog X.w) X.A (call (.builtin id) (v :: us)) (EP X pins σ Q) X.xe s
section
variable {X:Cx} {a b:Expr} {ta tb:TE} {pos:Pos}
theorem pe_ix {r:R2} (hr:IxR X r) (ha:PE X a ta) (hb:PE X b tb) (hs:PlainIx b):PE X (.Subscript a b pos) (tOp r ta tb):=by
 intro pins s σ H Q I h
 exact Subscript_ (binT ha hb I h fun v u s2 x y H2 I2 rx ry q=>hr a b pins s2 σ H2 x y v u Q I2 rx ry q (hs _ _))
def rIxL (K:PySem.W.Frag):R2:=fun x y H Q=>∃ p xs i v,x=.ref p∧y=.int i∧SqL K H p xs∧atI xs i=some v∧Q v H
def rIxT (K:PySem.W.Frag):R2:=fun x y H Q=>∃ p xs i v,x=.ref p∧y=.int i∧SqT K H p xs∧atI xs i=some v∧Q v H
theorem ix_list:IxR X (rIxL X.K):=by
 intro value slice pins s σ H x y v u Q I rx ry h hs
 obtain ⟨p,xs,i,z,rfl,rfl,hq,he,q⟩:=h
 cases rx
 obtain ⟨t,rfl⟩:=ry
 obtain ⟨its,r,pl,hz⟩:=I.list hq
 obtain ⟨j,h1,h2,h3,h4,h5⟩:=atI_get he
 obtain ⟨w,ew,rw'⟩:=r.get h2
 have hl:=r.length
 have hn:=line63
 have fin:EP X pins σ Q w s:=⟨z,H,I,rw',q⟩
 by_cases h0:0≤i
 · have hj:i.toNat=j:=by
    rw [seqIndex_of h0 h5] at h1
    exact Option.some.inj h1
   exact item_listR pl.isList h0 (by omega) (by rw [hj]; simpa using ew) fin hs
 · have hj:(i+(its.toArray.size:Int)).toNat=j:=by
    rw [seqIndex_neg (by omega) h4] at h1
    rw [List.size_toArray,← hl]
    exact Option.some.inj h1
   exact subscriptTail_builtinR (x:=w) pl.isList.typeIs slot_list_getitem.lookup
    (wpAny_getItem_list_neg (Q:=fun r s'=>r=w∧EP X pins σ Q r s') pl.isList (by omega) (by rw [List.size_toArray] <;> omega) (by omega) (by rw [hj]; simpa using ew) ⟨rfl,fin⟩) hs
theorem ix_tup:IxR X (rIxT X.K):=by
 intro value slice pins s σ H x y v u Q I rx ry h hs
 obtain ⟨p,xs,i,z,rfl,rfl,hq,he,q⟩:=h
 cases rx
 obtain ⟨t,rfl⟩:=ry
 obtain ⟨its,r,pl,hz⟩:=I.tuple hq
 obtain ⟨j,h1,h2,h3,h4,h5⟩:=atI_get he
 obtain ⟨w,ew,rw'⟩:=r.get h2
 have hl:=r.length
 have hn:=line63
 have fin:EP X pins σ Q w s:=⟨z,H,I,rw',q⟩
 exact subscriptTail_builtinR (x:=w) pl.typeIs slot_tuple_getitem.lookup
  (getItem_tuple (j:=j) (Q:=fun r s'=>r=w∧EP X pins σ Q r s') pl (by omega) (by omega) (by rw [List.size_toArray,← hl]; exact h1) (by simpa using ew) ⟨rfl,fin⟩) hs
theorem mapSeq_set (its:List Value) (n j:Nat) (u:Value):Obj.mapSeq (·.setIfInBounds j u) { cls:=.type "list",data:=.seq its.toArray n }={ cls:=.type "list",data:=.seq (its.set j u).toArray n }:=by
 simp [Obj.mapSeq]
theorem Inv.lst {pins:List (Addr×Obj)} {σ:St} {H:Hp} {s:Shared} {p:Addr} {xs:List V} (I:Inv X pins σ H s) (h:H p=some (.lst xs)) :
 ∃ (its:List Value) (n:Nat),Vals xs its∧s.heap.get? p=some { cls:=.type "list",data:=.seq its.toArray n }∧xs.length≤sizeLine:=by
 obtain ⟨z,its,n,r,e⟩:=I.hok p _ h
 exact ⟨its,n,r,e,z⟩
theorem Inv.lstUpd {pins:List (Addr×Obj)} {σ:St} {H:Hp} {s:Shared} {p:Addr} {xs ys:List V} {its its':List Value} {n n':Nat} {f:Obj→Obj} (I:Inv X pins σ H s) (h:H p=some (.lst xs))
 (ho:s.heap.get? p=some { cls:=.type "list",data:=.seq its.toArray n }) (hf:f { cls:=.type "list",data:=.seq its.toArray n }={ cls:=.type "list",data:=.seq its'.toArray n' }) (r:Vals ys its') (hz:ys.length≤sizeLine) (t:Nat) :
 Inv X pins σ (upd H p (.lst ys)) { s with heap:=s.heap.update p f,toks:=t }:=by
 have e:(s.heap.update p f).get? p=some { cls:=.type "list",data:=.seq its'.toArray n' }:=by
  rw [Heap.get?_update_self f ho (by rw [hf] <;> rfl),hf]
 refine I.write (x:=p) (e:=p) (by rw [h]; trivial) (.inl rfl) (fun b u hb q=>(Heap.get?_update_other _ _ (Ne.symm hb)).trans q) ⟨_,e⟩ ?_
 exact ⟨hz,its',n',r,e⟩
def rSetL:V→V→V→Hp→(Hp→Prop)→Prop:=fun o i v H Q=>∃ p xs k j,o=.ref p∧i=.int k∧H p=some (.lst xs)∧ixN xs.length k=some j∧Q (upd H p (.lst (xs.set j v)))
theorem set_list:PSet X rSetL:=by
 intro pins s σ H o i v ov iv u Q I ro ri rv h
 obtain ⟨p,xs,k,j,rfl,rfl,hp,hj,q⟩:=h
 cases ro
 obtain ⟨t,rfl⟩:=ri
 obtain ⟨its,n,r,ho,hz⟩:=I.lst hp
 obtain ⟨h1,h2,h3,h4⟩:=ixN_seq hj
 have hl:=r.length
 have hn:=line63
 have I':Inv X pins σ (upd H p (.lst (xs.set j v))) { s with heap:=s.heap.update p (Obj.mapSeq (·.setIfInBounds j u)) } :=
  I.lstUpd hp ho (mapSeq_set its n j u) (r.set rv j) (by rw [List.length_set]; exact hz) s.toks
 by_cases h0:0≤k
 · have hk:k.toNat=j:=by
    rw [seqIndex_of h0 h4] at h1
    exact Option.some.inj h1
   exact PySem.W.ki_setAt ho h0 (by omega) (by rw [List.size_toArray,← hl]; exact h4) (by rw [hk]; exact ⟨_,I',q⟩)
 · have hk:(k+(its.toArray.size:Int)).toNat=j:=by
    rw [seqIndex_neg (by omega) h3] at h1
    rw [List.size_toArray,← hl]
    exact Option.some.inj h1
   exact PySem.W.ki_setBack ho (by omega) (by rw [List.size_toArray,← hl]; exact h3) (by omega) (by rw [hk]; exact ⟨_,I',q⟩)
def flatV:V→Bool
 | .non=>true
 | .bl _=>true
 | .int _=>true
 | .str _=>true
 | _=>false
def eqV:V→V→Bool
 | .non,.non=>true
 | .bl a,.bl b=>a == b
 | .bl a,.int b=>(if a then 1 else 0) == b
 | .int a,.bl b=>a == (if b then 1 else 0)
 | .int a,.int b=>a == b
 | .str a,.str b=>a == b
 | _,_=>false
theorem eqAt_V {A:Around} {s:Shared} {y x:V} {u v:Value} (ry:RelV y u) (rx:RelV x v) (fy:flatV y=true) (fx:flatV x=true):SeqAt.EqAt A s u v (eqV y x):=by
 cases y with
 | non =>
   cases ry
   cases x with
   | non=>cases rx; exact SeqAt.EqAt.same _
   | bl b=>cases rx; exact SeqAt.EqAt.none_bool b
   | int b=>obtain ⟨t,rfl⟩:=rx; exact SeqAt.EqAt.none_int b t
   | str b=>obtain ⟨t,rfl⟩:=rx; exact SeqAt.EqAt.none_str b t
   | _=>exact absurd (show false=true from fx) Bool.false_ne_true
 | bl a =>
   cases ry
   cases x with
   | non=>cases rx; exact SeqAt.EqAt.bool_none a
   | bl b=>cases rx; exact SeqAt.EqAt.bool_bool a b
   | int b=>obtain ⟨t,rfl⟩:=rx; exact SeqAt.EqAt.bool_int a b t
   | str b=>obtain ⟨t,rfl⟩:=rx; exact SeqAt.EqAt.bool_str a b t
   | _=>exact absurd (show false=true from fx) Bool.false_ne_true
 | int a =>
   obtain ⟨t',rfl⟩:=ry
   cases x with
   | non=>cases rx; exact SeqAt.EqAt.int_none a t'
   | bl b=>cases rx; exact SeqAt.EqAt.int_bool a t' b
   | int b=>obtain ⟨t,rfl⟩:=rx; exact SeqAt.EqAt.int_int a t' b t
   | str b=>obtain ⟨t,rfl⟩:=rx; exact SeqAt.EqAt.int_str a t' b t
   | _=>exact absurd (show false=true from fx) Bool.false_ne_true
 | str a =>
   obtain ⟨t',rfl⟩:=ry
   cases x with
   | non=>cases rx; exact SeqAt.EqAt.str_none a t'
   | bl b=>cases rx; exact SeqAt.EqAt.str_bool a t' b
   | int b=>obtain ⟨t,rfl⟩:=rx; exact SeqAt.EqAt.str_int a t' b t
   | str b=>obtain ⟨t,rfl⟩:=rx; exact SeqAt.EqAt.str_str a t' b t
   | _=>exact absurd (show false=true from fx) Bool.false_ne_true
 | _=>exact absurd (show false=true from fy) Bool.false_ne_true
def eqU (x:V) (u:Value):Bool:=match u with
 | .none=>eqV .non x
 | .bool b=>eqV (.bl b) x
 | .int i _=>eqV (.int i) x
 | .str z _=>eqV (.str z) x
 | _=>false
theorem eqU_of {x y:V} {u:Value} (r:RelV y u) (f:flatV y=true):eqU x u=eqV y x:=by
 cases y with
 | non=>cases r; rfl
 | bl b=>cases r; rfl
 | int i=>obtain ⟨t,rfl⟩:=r; rfl
 | str z=>obtain ⟨t,rfl⟩:=r; rfl
 | _=>exact absurd (show false=true from f) Bool.false_ne_true
theorem mem_eqAt {A:Around} {s:Shared} {x:V} {v:Value} (rx:RelV x v) (fx:flatV x=true):∀ {xs:List V} {us:List Value},Vals xs us→xs.all flatV=true→∀ u∈us,SeqAt.EqAt A s u v (eqU x u)
 | _,_,.nil,_=>fun u hu=>by cases hu
 | y :: xs,u :: us,.cons r t,f=>fun u' hu=>by
   rw [List.all_cons,Bool.and_eq_true] at f
   rcases List.mem_cons.mp hu with rfl | hu
   · rw [eqU_of r f.1]; exact eqAt_V r rx f.1 fx
   · exact mem_eqAt rx fx t f.2 u' hu
theorem call_len_seq:CallR X (.builtin "len") (fun xs H Q=>∃ p ys,xs=[.ref p]∧(SqL X.K H p ys∨SqT X.K H p ys)∧Q (.int ys.length) H):=by
 intro pins s σ H xs us Q I r h
 obtain ⟨p,ys,rfl,hq,q⟩:=h
 obtain ⟨u,rfl,rx⟩:=vals1 r
 cases rx
 have hn:=line63
 rcases hq with hq | hq
 · obtain ⟨its,r',pl,hz⟩:=I.list hq
   have hlen:=r'.length
   exact Calls.call_len_list pl.isList (by simp only [List.size_toArray] <;> omega) ⟨.int ys.length,H,I.tok _,⟨s.toks+1,by rw [List.size_toArray,hlen]⟩,q⟩
 · obtain ⟨its,r',pl,hz⟩:=I.tuple hq
   have hlen:=r'.length
   exact len_tuple pl (by simp only [List.size_toArray] <;> omega) ⟨.int ys.length,H,I.tok _,⟨s.toks+1,by rw [List.size_toArray,hlen]⟩,q⟩
def tyV (K:PySem.W.Frag) (T:String) (x:V) (H:Hp):Prop:=match x with
 | .str _=>T = "str"
 | .int _=>T = "int"
 | .ref p=>(T = "list" ∧ ∃ xs,SqL K H p xs)∨(T = "tuple" ∧ ∃ o,K.lookup p=some o∧o.cls=.type "tuple" ∧ o.dict=none) ∨
    (T = "dict" ∧ ((∃ kvs,H p=some (.dK kvs))∨∃ kvs,H p=some (.dT kvs)))∨(T = "set" ∧ ∃ S n,H p=some (.set S n))
 | _=>False
theorem tyV_is {pins:List (Addr×Obj)} {σ:St} {H:Hp} {s:Shared} {T:String} {x:V} {v:Value} (I:Inv X pins σ H s) (r:RelV x v) (ty:tyV X.K T x H) :
 s.TypeIs v T∧∀ a,v=.ref a→∃ ob,s.heap.get? a=some ob∧ob.dict=none:=by
 cases x with
 | str z =>
   obtain ⟨t,rfl⟩:=r
   cases (show T = "str" from ty)
   exact ⟨typeIs_str s z t,fun _ e=>nomatch e⟩
 | int i =>
   obtain ⟨t,rfl⟩:=r
   cases (show T = "int" from ty)
   exact ⟨typeIs_int s i t,fun _ e=>nomatch e⟩
 | ref p =>
   cases r
   rcases ty with ⟨rfl,xs,hq⟩ | ⟨rfl,o,hk,hc,hd⟩ | ⟨rfl,hk⟩ | ⟨rfl,S,n,hk⟩
   · obtain ⟨its,_,pl,_⟩:=I.list hq
     refine ⟨pl.isList.typeIs,fun a e=>?_⟩
     cases e
     obtain ⟨o,n,e,c,hd,_⟩:=pl
     exact ⟨o,e,hd⟩
   · refine ⟨⟨o,I.kIn p o hk,hc⟩,fun a e=>?_⟩
     cases e
     exact ⟨o,I.kIn _ o hk,hd⟩
   · have z:∃ o,s.heap.get? p=some o∧o.ExactDict:=by
      rcases hk with ⟨kvs,hk⟩ | ⟨kvs,hk⟩
      · obtain ⟨_,_,_,_,o,_,_,e,ex,_⟩:=I.hok p _ hk
        exact ⟨o,e,ex⟩
      · obtain ⟨_,_,_,_,o,_,_,e,ex,_⟩:=I.hok p _ hk
        exact ⟨o,e,ex⟩
     obtain ⟨o,e,ex⟩:=z
     refine ⟨⟨o,e,ex.1⟩,fun a e2=>?_⟩
     cases e2
     exact ⟨o,e,ex.2.1⟩
   · obtain ⟨o,_,_,_,e,ex,_⟩:=I.hok p _ hk
     refine ⟨⟨o,e,ex.1⟩,fun a e2=>?_⟩
     cases e2
     exact ⟨o,e,ex.2.1⟩
 | _=>exact False.elim ty
def tBM0 (K:PySem.W.Frag) (T:String) (r:V→List V→Hp→VK→Prop) (to:TE):TE:=fun σ H Q=>to σ H fun x H1=>tyV K T x H1∧r x [] H1 Q
def tBM (K:PySem.W.Frag) (T:String) (r:V→List V→Hp→VK→Prop) (to:TE) (t:TA):TE:=fun σ H Q=>to σ H fun x H1=>tyV K T x H1∧t σ H1 fun xs H2=>r x xs H2 Q
variable {o e:Expr} {es:List Expr} {to:TE} {t:TA} {name:Str} {apos cpos:Pos} {T id:String} {r:V→List V→Hp→VK→Prop}
theorem pe_bm0 (pa:PlainAttrs T) (slot:Slot T name id) (hty:typeOf (.builtin id)=pure (.type "method_descriptor")) (hm:MtR X id r) (ho:PE X o to)
 (hbase:attributeBase o name X.env (eval o X.env)=eval o X.env:=by rfl) (hline:(apos.endLine == cpos.line)=true:=by rfl):PE X (.Call (.Attribute o name apos) [] [] cpos) (tBM0 X.K T r to):=by
 intro pins s σ H Q I h
 refine wpAny_Call_method0_late hbase hline (thn (ho pins s σ H _ I h) fun v s1 ⟨x,H1,I1,r1,ty,q1⟩=>?_)
 obtain ⟨h1,h2⟩:=tyV_is I1 r1 ty
 exact ⟨T,id,pa,slot,hty,h1,h2,Calls.callWith_builtin rfl (PySem.evalArgs_none (hm pins s1 σ H1 x [] v [] Q I1 r1 .nil q1))⟩
theorem pe_bm (pa:PlainAttrs T) (slot:Slot T name id) (hty:typeOf (.builtin id)=pure (.type "method_descriptor")) (hm:MtR X id r) (ho:PE X o to) (ha:PA X (e :: es) t)
 (hbase:attributeBase o name X.env (eval o X.env)=eval o X.env:=by rfl)
 (hfew:((backTo cpos (starEach (e :: es) X.env)).all (fun x=>!x.1) && (backToKw cpos (keywordEach [] X.env)).all (fun x=>x.1.isSome)
   && decide ((e :: es).length+([]:List Keyword).length+(if ([]:List Keyword).isEmpty then 0 else 1) < 30))=true:=by rfl)
 (hline:(apos.endLine == cpos.line)=true:=by rfl) (hs:starEach (e :: es) X.env=(false,eval e X.env) :: starEach es X.env:=by rfl) (hplain:(backTo cpos (starEach es X.env)).any (·.1)=false:=by rfl) :
 PE X (.Call (.Attribute o name apos) (e :: es) [] cpos) (tBM X.K T r to t):=by
 intro pins s σ H Q I h
 refine wpAny_Call_method_late hbase hfew hline rfl (thn (ho pins s σ H _ I h) fun v s1 ⟨x,H1,I1,r1,ty,q1⟩=>?_)
 obtain ⟨h1,h2⟩:=tyV_is I1 r1 ty
 refine ⟨T,id,pa,slot,hty,h1,h2,?_⟩
 have hA:=ha cpos pins s1 σ H1 _ I1 q1
 rw [hs] at hA ⊢
 refine Calls.callWith_builtin (by show (false || (backTo cpos (starEach es X.env)).any (·.1))=false; rw [hplain] <;> rfl) (Calls.evalArgs_plain ?_)
 exact thn hA fun us s2 ⟨vs,H2,I2,r2,q2⟩=>hm pins s2 σ H2 x vs v us Q I2 r1 r2 q2
/- xs.append(e),list.index on a module's tuple .. are MtR facts of 06m -/
end
end L2
namespace L2
open PySem PySem.Spec PyProof.Rows
def MtM (X:Cx) (id:String) (r:V→List V→Hp→VK→Prop):Prop :=
 ∀ (pins:List (Addr×Obj)) (s:Shared) (σ:St) (H:Hp) (x:V) (xs:List V) (v:Value) (us:List Value) (Q:VK),Inv X pins σ H s→RelV x v→Vals xs us→r x xs H Q →
   wpAny (model X.prog X.w) X.A (call (.builtin id) (v :: us)) (EP X pins σ Q) X.xe s
theorem Vals.one:∀ {x:V} {us:List Value},Vals [x] us→∃ u,us=[u]∧RelV x u
 | _,_,.cons r .nil=>⟨_,rfl,r⟩
theorem Vals.two:∀ {x y:V} {us:List Value},Vals [x,y] us→∃ u v,us=[u,v]∧RelV x u∧RelV y v
 | _,_,_,.cons r (.cons q .nil)=>⟨_,_,rfl,r,q⟩
theorem Vals.rep {xs:List V} {us:List Value} (h:Vals xs us):∀ k:Nat,Vals (List.replicate k xs).flatten (List.replicate k us).flatten
 | 0=>.nil
 | k+1=>by
   rw [List.replicate_succ,List.replicate_succ,List.flatten_cons,List.flatten_cons]
   exact Vals.append h (Vals.rep h k)
theorem foldl_rep (its:List Value):∀ (k:Nat) (acc:List Value),
 List.foldl (fun x1 x2=>x1++x2) acc.toArray (List.replicate k its.toArray)=(acc++(List.replicate k its).flatten).toArray
 | 0,acc=>by simp
 | k+1,acc=>by
   have e:acc.toArray++its.toArray=(acc++its).toArray:=by simp
   have e2:(acc++its)++(List.replicate k its).flatten=acc++(List.replicate (k+1) its).flatten:=by
    rw [List.replicate_succ,List.flatten_cons,List.append_assoc]
   rw [← e2,← foldl_rep its k (acc++its),← e,List.replicate_succ,List.foldl_cons]
section
variable {X:Cx} {pins:List (Addr×Obj)} {σ:St} {H:Hp} {s:Shared} {l b:Addr} {xs ys zs:List V}
theorem Inv.lset {its its':List Value} {n:Nat} {f:Array Value→Array Value} {t':Nat} (I:Inv X pins σ H s) (hH:H l=some (.lst xs))
 (e:s.heap.get? l=some { cls:=.type "list",data:=.seq its.toArray n }) (hf:f its.toArray=its'.toArray) (hv:Vals ys its') (hz:ys.length≤sizeLine) :
 Inv X pins σ (upd H l (.lst ys)) { s with heap:=s.heap.update l (Obj.mapSeq f),toks:=t' }:=by
 have q:=PySem.IsL.update e f
 rw [hf] at q
 refine I.write (x:=l) (e:=l) (by rw [hH]; exact trivial) (.inl rfl) (fun b' u hb hu=>(Heap.get?_update_other s.heap (Obj.mapSeq f) (Ne.symm hb)).trans hu) ⟨_,q⟩ ?_
 exact ⟨hz,its',_,hv,q⟩
theorem Inv.lnew {its:List Value} {t':Nat} (I:Inv X pins σ H s) (hv:Vals ys its) (hz:ys.length≤sizeLine) :
 Inv X pins σ (upd H s.heap.objs.size (.lst ys)) { s with heap:=s.heap.push { cls:=.type "list",data:=.seq its.toArray },toks:=t' } :=
 I.laid (fun _ _ q=>Heap.get?_push_of_some _ q) (Nat.le_refl _) ⟨hz,its,0,hv,Heap.get?_push_size _ rfl⟩
theorem Inv.fresh (I:Inv X pins σ H s):H s.heap.objs.size=none:=I.hok.fresh (Nat.le_refl _)
theorem Inv.lstM (I:Inv X pins σ H s) (hH:H l=some (.lst xs)):xs.length≤sizeLine∧∃ (its:List Value) (n:Nat),Vals xs its∧xs.length=its.length∧s.heap.get? l=some { cls:=.type "list",data:=.seq its.toArray n }:=by
 obtain ⟨z,its,n,r,e⟩:=I.hok l _ hH
 exact ⟨z,its,n,r,r.length,e⟩
theorem notLongL {n:Nat} (h:n≤sizeLine):Builtin.List.listTooLong n=false:=by
 unfold Builtin.List.listTooLong
 exact decide_eq_false (by omega)
end
section
variable {X:Cx}
def rAppend:V→List V→Hp→VK→Prop:=fun x vs H Q=>∃ l xs y,x=.ref l∧vs=[y]∧H l=some (.lst xs)∧xs.length < sizeLine∧Q .non (upd H l (.lst (xs++[y])))
theorem mt_append:MtM X "list.append" rAppend:=by
 intro pins s σ H x vs v us Q I rx rv h
 obtain ⟨l,xs,y,rfl,rfl,hH,hz,q⟩:=h
 cases rx
 obtain ⟨u,rfl,ru⟩:=rv.one
 obtain ⟨z,its,n,r,hl,e⟩:=I.lstM hH
 refine call_meets F.slot_list_append ⟨_,e,rfl⟩ F.entry_list_append (F.args_list_append_2 _ _) (PySem.list_append l its.toArray n u (by rw [List.size_toArray]; omega)) ⟨e,?_⟩
 refine ⟨.non,_,I.lset (its':=its++[u]) hH e (by simp) (r.append (.cons ru .nil)) ?_,rfl,q⟩
 rw [List.length_append,List.length_singleton]
 omega
def rCat:R2:=fun x y H Q=>∃ l b xs zs,x=.ref l∧y=.ref b∧H l=some (.lst xs)∧H b=some (.lst zs)∧xs.length+zs.length≤sizeLine∧∀ p,H p=none→Q (.ref p) (upd H p (.lst (xs++zs)))
theorem op_cat:OpR X (binaryOp .Add) rCat:=by
 intro pins s σ H x y v u Q I rx ry h
 obtain ⟨l,b,xs,zs,rfl,rfl,hH,hB,hz,q⟩:=h
 cases rx
 cases ry
 obtain ⟨z,its,n,r,hl,e⟩:=I.lstM hH
 obtain ⟨z2,its2,n2,r2,hl2,e2⟩:=I.lstM hB
 refine PySem.P.add_list e e2 ?_ (by rw [List.size_toArray,List.size_toArray]; omega)
 have ea:its.toArray++its2.toArray=(its++its2).toArray:=by simp
 rw [ea]
 exact ⟨.ref _,_,I.lnew (t':=s.toks) (r.append r2) (by rw [List.length_append]; omega),rfl,q _ I.fresh⟩
def rRep:R2:=fun x y H Q=>∃ l k xs,x=.ref l∧y=.int k∧H l=some (.lst xs)∧-(2 ^ 63)≤k∧k < 2 ^ 63∧xs.length * k.toNat≤sizeLine ∧
 ∀ p,H p=none→Q (.ref p) (upd H p (.lst (List.replicate k.toNat xs).flatten))
theorem len_rep {α:Type} (xs:List α) (k:Nat):(List.replicate k xs).flatten.length=k * xs.length:=by
 induction k with
 | zero=>simp
 | succ k ih=>rw [List.replicate_succ,List.flatten_cons,List.length_append,ih,Nat.succ_mul,Nat.add_comm]
theorem op_rep:OpR X (binaryOp .Mult) rRep:=by
 intro pins s σ H x y v u Q I rx ry h
 obtain ⟨l,k,xs,rfl,rfl,hH,h1,h2,hz,q⟩:=h
 cases rx
 obtain ⟨t,rfl⟩:=ry
 obtain ⟨z,its,n,r,hl,e⟩:=I.lstM hH
 have hlen:its.toArray.size * k.toNat≤sizeLine:=by rw [List.size_toArray,← hl]; exact hz
 have hcap:¬ its.toArray.size * k.toNat > (2 ^ 63 - 1) / 8:=by
  have:(sizeLine:Nat)≤(2 ^ 63 - 1) / 8:=by decide
  omega
 have hfit:¬ (!Builtin.List.listFitsIndex k)=true:=by
  rw [fitsIndex_both h1 h2]
  exact Bool.false_ne_true
 have hlong:¬ Builtin.List.listTooLong (its.toArray.size * k.toNat)=true:=by
  rw [notLongL hlen]
  exact Bool.false_ne_true
 have hnew:List.foldl (fun x1 x2=>x1++x2) #[] (List.replicate (if its.toArray.isEmpty=true then 0 else k.toNat) its.toArray)=(List.replicate k.toNat its).flatten.toArray:=by
  have f0:∀ m:Nat,List.foldl (fun x1 x2=>x1++x2) #[] (List.replicate m its.toArray)=(List.replicate m its).flatten.toArray:=fun m=>by
   have:=foldl_rep its m []
   rw [List.nil_append] at this
   exact this
  rw [f0]
  cases its with
  | nil=>simp
  | cons a r'=>rw [if_neg (by simp)]
 refine wpAny_binaryOp_repeat_ref (T := "list") (U := "int") (by decide) ⟨_,e,rfl⟩ (fun s'=>typeIs_int s' k t) noFill_list_mul F.fills_int_mul F.slot_int_rmul repeat_list F.slot_int_index.lookup
  (call_meets F.slot_int_rmul (typeIs_int s k t) F.entry_int_rmul (F.args_int_rmul_2 _ _) (int___rmul___int_list k t l its.toArray n)
    ⟨e,rfl,⟨_,e,rfl⟩,call_meets F.slot_list_mul ⟨_,e,rfl⟩ F.entry_list_mul (F.args_list_mul_2 _ _) (AutoListH.list___mul___list_int_3 l its.toArray n k t hfit hcap hlong) ⟨e,?_⟩⟩)
 rw [hnew]
 exact ⟨.ref _,_,I.lnew (t':=s.toks) (r.rep k.toNat) (by rw [len_rep,Nat.mul_comm]; exact hz),rfl,q _ I.fresh⟩
end
section
variable {prog:Program} {w:World} {A:Around} {E:Value→Shared→Prop} {s:Shared}
set_option maxRecDepth 100000 in
end
section
variable {X:Cx}
end
end L2
namespace Att
open PySem PySem.W PySem.Calls PyProof.Rows
theorem ints_of_wellAll {P:Params} {h:Heap}:∀ (ns:List Int) (vs:List Value),WellAll P h vs (ns.map WData.int)→IntsAre vs ns:=by
 intro ns
 induction ns with
 | nil =>
   intro vs w
   rw [List.map_nil] at w
   cases w
   exact .nil
 | cons n ns ih =>
   intro vs w
   rw [List.map_cons] at w
   cases w with
   | cons a b =>
     cases a
     exact .cons _ _ (ih _ b)
theorem script_of {l:OpenLaw} {n:Nat} (hn:l.most=some n) {P:Params} {h:Heap} {args:List WData} {vals:List Value}
 (hpre:l.row.toRowW.claim.pre args=true) (hwl:WellAll P h vals args) :
 ∃ a vs ns,vals=[Value.ref a]∧args=[WData.list (ns.map WData.int)]∧h.get? a=some { cls:=.type "list",data:=.seq vs.toArray }∧IntsAre vs ns∧ns.length≤n:=by
 have hsh:WShape.hasAll [] args [.list .int]=true:=(pre_splitW hpre).1
 have hc:l.pre.holds [] { args:=args }=true:=(pre_splitW hpre).2
 obtain ⟨d,r,rfl,h1,h2⟩:=hasAllW_cons hsh
 obtain rfl:=hasAllW_nil h2
 obtain ⟨xs,rfl,h3⟩:=hasW_list h1
 obtain ⟨ns,rfl⟩:=items_int h3
 have hlen:ns.length≤n:=by
  unfold OpenLaw.pre at hc
  have h4:(WTm.not (.lt (.lit (.int (n:Int))) (.len (.arg 0)))).holds [] { args:=[.list (ns.map .int)] }=true:=by
   have h4:=(holds_andW hc).1
   rw [hn] at h4
   exact h4
  have h5:=condW_of h4 (w_not (w_lt w_lit (w_len_list (w_arg rfl))))
  rw [List.length_map] at h5
  refine Nat.le_of_not_lt fun q=>?_
  have q':(n:Int) < ((ns.length:Nat):Int):=by omega
  first
   | (rw [decide_eq_true q'] at h5; exact absurd h5 (by decide))
   | (simp at h5; omega)
 cases hwl with
 | cons w1 w2 =>
   cases w2
   cases w1 with
   | list ho hall=>exact ⟨_,_,ns,rfl,rfl,ho,ints_of_wellAll ns _ hall,hlen⟩
theorem post_true (l:OpenLaw) (args:List WData):l.row.toRowW.claim.post args (.bool true) args=true :=
 postW_of (r:=l.row.toRowW) (X:=(true == true))
  (show WShape.has [] (.bool true) .bool=true by first | rfl | decide | simp [WShape.has,WShape.arms,WShape.armsAll])
  (show (WTm.eq .res (.lit (.bool true))).value [] { args:=args,res:=some (.bool true),after:=args }=some (.bool (true == true)) from w_eq_bool (w_res rfl) w_lit) rfl
theorem attach_call {l:OpenLaw} {n:Nat} {q:Program} {loose:List Str} {XP:(Str→Option Value)→Heap→Prop} {YP:World→Heap→Prop} {d:DefRec}
 (hn:l.most=some n) (hdf:d.params.defaults=[])
 (call:∀ (w:World) (s₀ s₁:Shared) (mg mb:Str→Option Value) (fa:Addr) (o:Obj) (pm cd doc:Value) (a:Addr) (vs:List Value) (ns:List Int),
   Ground q loose [] XP w s₀ mg mb s₁.heap→YP w s₁.heap →
   s₁.heap.get? fa=some o→o.data=.func (docDef d.name d.params d.body d.scope pm cd doc)→s₁.heap.CodeRec cd d.name→mg d.name=some (.ref fa) →
   s₁.heap.get? a=some { cls:=.type "list",data:=.seq vs.toArray }→IntsAre vs ns→ns.length≤n→s₁.gens=#[] →
   codeAny (model l.prog w) callerA (.call (.ref fa) ⟨[.ref a],[]⟩) (fun r s'=>r=.ok (.ret (.bool true))∧OldK s₁.heap s'.heap∧s'.os=s₁.os∧AllBare s'.gens) s₁) :
 WalkO q loose XP YP l.row.toRowW d [] (fun f vs=>PySem.call f vs):=by
 intro w s₀ s₁ mg mb G Y fa o pm cd doc dV kV ho hd hcd hD hmg hg args vals as hpre hlay hrd hwl hlo
 obtain rfl:dV=.none:=Dflts.none hD hdf
 obtain rfl:kV=.none:=Dflts.noKw hD
 obtain ⟨a,vs,ns,rfl,rfl,hobj,hints,hlen⟩:=script_of hn hpre hwl
 refine enter_call (codeAny_mono (call w s₀ s₁ mg mb fa o pm cd doc a vs ns G Y ho (fd_plain hd) hcd hmg hobj hints hlen hg) fun r s' hq=>?_)
 obtain ⟨rfl,h2,h3,h4⟩:=hq
 exact ⟨.inl ⟨.bool true,.bool true,[],rfl,fun _=>rfl,.bool true,post_true l _,fun _=>⟨List.Pairwise.nil,fun _ hm=>(nomatch hm)⟩⟩,h2,h3,h4⟩
section
variable {prog:Program} {w:World} {A:Around} {E:Value→Shared→Prop} {s:Shared} {K:Frag}
end
end Att
namespace L2
open PySem PySem.Spec PyProof.Rows
theorem vals_ints:∀ {vs:List Value} {ns:List Int},IntsAre vs ns→Vals (ns.map V.int) vs
 | _,_,.nil=>.nil
 | _,_,.cons n t h=>.cons ⟨t,rfl⟩ (vals_ints h)
end L2
namespace L2
open PySem PySem.Spec PyProof.Rows
end L2
namespace L2
open PySem PySem.Spec PyProof.Rows
def defArgs (s:Stmt):Arguments:=match s with
 | .FunctionDef _ a _ _ _ _ _ _ _ _=>a
 | _=>{ posonlyargs:=[],args:=[],vararg:=none,kwonlyargs:=[],kw_defaults:=[],kwarg:=none,defaults:=[] }
def defBody (s:Stmt):List Stmt:=match s with
 | .FunctionDef _ _ b _ _ _ _ _ _ _=>b
 | _=>[]
def defScope (s:Stmt):Scope:=match s with
 | .FunctionDef _ _ _ _ _ _ sc _ _ _=>sc
 | _=>{ kind:=.function,names:=[],isGenerator:=false,isCoroutine:=false }
abbrev CX0:CXT:=fun _ _ _ _ _ _=>False
abbrev E0:XK:=fun _ _ _=>False
theorem pass0 {X:Cx}:Passes CX0 X E0:=fun _ _ _ _ _ _ _ h=>h.elim
structure Fun (K:PySem.W.Frag) (x qual:Str) (st:Stmt) (f:Addr) (fd:FuncData):Prop where
 ex:∃ (oc:Value) (od:Option Addr) (kV doc pm:Value) (an:Option Addr) (cdv ct:Value) (osl:Array (Option Value)),
  fd=PySem.W.fnOf x qual (defArgs st) (defBody st) (defScope st) .none kV doc pm an cdv ct∧K.lookup f=some ⟨oc,od,.func fd,osl⟩∧PySem.W.codeIn K cdv qual=true
 kp:PySem.W.keepIn K (.ref f)=true
section
variable {P:Program} {w:World} {K:PySem.W.Frag} {mg:Str→Option Value} {base:Heap}
theorem Fun.ok {x qual:Str} {st:Stmt} {f:Addr} {fd:FuncData} {N ps:List Str} {k:Nat} {sp:Sp} (F:Fun K x qual st f fd) (S:FnScope N ps (defScope st)) (len:∀ vs H Q E,sp vs H Q E→vs.length=ps.length)
 (hbody:∀ (cdv:Value) (A:Around) (outer:List Env) (s:Shared) (H:Hp) (vs:List V) (Q:VK) (E:XK),Room k (A.deeper (envOfC qual (defScope st) s.heap.objs.size f cdv))→sp vs H Q E →
   ∃ t,PSs (cxOf CX0 P w K mg base N qual (defScope st) f cdv A outer s H E).nox (defBody st) t∧t { nx:=fun _ H'=>Q .non H',rt:=Q } (start N vs) H):FnOk P w K mg base CX0 (k+1) f fd ps sp:=by
 obtain ⟨oc,od,kV,doc,pm,an,cdv,ct,osl,rfl,lk,hcd⟩:=F.ex
 refine fn_of lk hcd S len fun A outer s H vs Q E hr hsp=>?_
 obtain ⟨t,h,q⟩:=hbody cdv A outer s H vs Q E hr hsp
 exact ⟨t,h.nox,q⟩
theorem Fun.binds {x qual:Str} {st:Stmt} {f:Addr} {fd:FuncData} {ps:List Str} (F:Fun K x qual st f fd)
 (h:∀ (kV doc pm:Value) (an:Option Addr) (cdv ct:Value) (us:List Value),us.length=ps.length→bindArgs (PySem.W.fnOf x qual (defArgs st) (defBody st) (defScope st) .none kV doc pm an cdv ct) ⟨us,[]⟩=pure (ps.zip us)):Binds K fd ps []:=by
 obtain ⟨oc,od,kV,doc,pm,an,cdv,ct,osl,rfl,lk,hcd⟩:=F.ex
 exact .all (h kV doc pm an cdv ct)
theorem fun_mk {x qual:Str} {st:Stmt} {f:Addr} {oc:Value} {od an:Option Addr} {osl:Array (Option Value)} {kV doc pm cdv ct:Value} (l:K.lookup f=some ⟨oc,od,.func (PySem.W.fnOf x qual (defArgs st) (defBody st) (defScope st) .none kV doc pm an cdv ct),osl⟩)
 (c:PySem.W.codeIn K cdv qual=true) (k:PySem.W.keepIn K (.ref f)=true):Fun K x qual st f (PySem.W.fnOf x qual (defArgs st) (defBody st) (defScope st) .none kV doc pm an cdv ct):=⟨⟨oc,od,kV,doc,pm,an,cdv,ct,osl,rfl,l,c⟩,k⟩
end
theorem hu_of {A:Around} {k:Nat} (hr:Room k A):A.units+1 < cLine:=Nat.lt_of_le_of_lt (Nat.add_le_add_left (by decide:1≤64) _) hr.units
section
variable {X:Cx}
theorem pv (i:Nat) {x:Str} {pos:Pos} (hN:X.N[i]? = some x:=by rfl) (hv:Vis X.env.scope x:=by first | exact Or.inl rfl | exact Or.inr (Or.inl rfl) | exact Or.inr (Or.inr rfl)) (hd:(x == ("__debug__" : Str))=false:=by decide)
 (hcd:(x == ("__classdict__" : Str))=false:=by decide):PE X (.Name x pos) (tVar i):=pe_var hN hv hd hcd
end
theorem iteF {A B:Prop} (h:B):if false=true then A else B:=by
 rw [if_neg Bool.false_ne_true]
 exact h
theorem iteT {A B:Prop} (h:A):if true=true then A else B:=by
 rw [if_pos rfl]
 exact h
theorem ite2 {c A B:Prop} [Decidable c] (h1:c→A) (h2:¬ c→B):if c then A else B:=by
 by_cases h:c
 · rw [if_pos h]
   exact h1 h
 · rw [if_neg h]
   exact h2 h
def Same (H H':Hp):Prop:=∀ b o,H b=some o→H' b=some o
theorem Same.refl (H:Hp):Same H H:=fun _ _ h=>h
theorem Same.trans {H H1 H2:Hp} (a:Same H H1) (b:Same H1 H2):Same H H2:=fun c o h=>b c o (a c o h)
end L2
namespace FM
def sg (t b:Int):Int:=if b < 0 then -(Int.gcd t b:Int) else (Int.gcd t b:Int)
theorem gcd_ne {t b:Int} (h:b≠0):(Int.gcd t b:Int)≠0:=by
 intro e
 have:=Int.gcd_eq_zero_iff.mp (Int.ofNat.inj e)
 exact h this.2
theorem sg_ne {t b:Int} (h:b≠0):sg t b≠0:=by
 have:=gcd_ne (t:=t) h
 unfold sg; split <;> omega
theorem fdiv_mul {c k:Int} (h:k≠0):(c * k).fdiv k=c:=Int.mul_fdiv_cancel c h
theorem fdiv_num {t b:Int} (h:b≠0):t.fdiv (sg t b)=(Rat.divInt t b).num:=by
 rw [Rat.num_divInt]
 obtain ⟨c,hc⟩:=Int.gcd_dvd_left t b
 have hg:=gcd_ne (t:=t) h
 have e:(b.gcd t:Int)=(t.gcd b:Int):=by rw [Int.gcd_comm]
 rw [e]
 unfold sg
 rcases Int.lt_or_gt_of_ne h with hb | hb
 · rw [if_pos hb,Int.sign_eq_neg_one_of_neg hb]
   generalize (t.gcd b:Int)=g at *
   subst hc
   rw [show g * c=(-c) * (-g) by rw [Int.neg_mul_neg,Int.mul_comm],fdiv_mul (by omega)]
   rw [show (-1:Int) * ((-c) * (-g))=(-c) * g by rw [Int.neg_mul_neg,Int.neg_mul,Int.one_mul,Int.neg_mul],Int.mul_ediv_cancel _ hg]
 · rw [if_neg (by omega),Int.sign_eq_one_of_pos hb,Int.one_mul]
   generalize (t.gcd b:Int)=g at *
   subst hc
   rw [Int.mul_comm,fdiv_mul hg,Int.mul_ediv_cancel _ hg]
theorem fdiv_den {t b:Int} (h:b≠0):b.fdiv (sg t b)=((Rat.divInt t b).den:Int):=by
 rw [Rat.den_divInt,if_neg h]
 obtain ⟨c,hc⟩:=Int.gcd_dvd_right t b
 have hg:=gcd_ne (t:=t) h
 have e:b.gcd t=t.gcd b:=by rw [Int.gcd_comm]
 rw [e,Int.natCast_ediv]
 unfold sg
 rcases Int.lt_or_gt_of_ne h with hb | hb
 · rw [if_pos hb,Int.ofNat_natAbs_of_nonpos (by omega)]
   generalize (t.gcd b:Int)=g at *
   subst hc
   rw [show g * c=(-c) * (-g) by rw [Int.neg_mul_neg,Int.mul_comm],fdiv_mul (by omega)]
   rw [show -((-c) * (-g))=(-c) * g by rw [Int.neg_mul_neg,Int.neg_mul],Int.mul_ediv_cancel _ hg]
 · rw [if_neg (by omega),Int.natAbs_of_nonneg (by omega)]
   generalize (t.gcd b:Int)=g at *
   subst hc
   rw [Int.mul_comm,fdiv_mul hg,Int.mul_ediv_cancel _ hg]
theorem low_num {t b:Int} (h:b≠0):(if 0 < b then t.fdiv (Int.gcd t b:Int) else 0 - t.fdiv (Int.gcd t b:Int))=(Rat.divInt t b).num:=by
 rw [← fdiv_num h]
 have hg:=gcd_ne (t:=t) h
 obtain ⟨c,hc⟩:=Int.gcd_dvd_left t b
 unfold sg
 by_cases hb:0 < b
 · rw [if_pos hb,if_neg (by omega)]
 · rw [if_neg hb,if_pos (by omega)]
   generalize (t.gcd b:Int)=g at *
   subst hc
   rw [show g * c=c * g by simp [Int.mul_comm],fdiv_mul hg]
   rw [show c * g=(-c) * (-g) by rw [Int.neg_mul_neg],fdiv_mul (by omega)]
   omega
theorem low_den {t b:Int} (h:b≠0):(b.natAbs:Int).fdiv (Int.gcd t b:Int)=((Rat.divInt t b).den:Int):=by
 rw [← fdiv_den h]
 have hg:=gcd_ne (t:=t) h
 obtain ⟨c,hc⟩:=Int.gcd_dvd_right t b
 unfold sg
 by_cases hb:b < 0
 · rw [if_pos hb,Int.ofNat_natAbs_of_nonpos (by omega)]
   generalize (t.gcd b:Int)=g at *
   subst hc
   rw [show g * c=(-c) * (-g) by rw [Int.neg_mul_neg,Int.mul_comm],fdiv_mul (by omega)]
   rw [show -((-c) * (-g))=(-c) * g by rw [Int.neg_mul_neg,Int.neg_mul],fdiv_mul hg]
 · rw [if_neg hb,Int.natAbs_of_nonneg (by omega)]
theorem gcd_fmod {a b:Int} (h:b≠0):Int.gcd b (a.fmod b)=Int.gcd a b:=by
 have e:a.fmod b=a - b * a.fdiv b:=by have:=Int.mul_fdiv_add_fmod a b; omega
 rw [e,Int.gcd_comm a b]
 have:=Int.gcd_sub_mul_left_right b a (a.fdiv b)
 first | exact this | (rw [← this]) | simpa using this
theorem fmod_abs_lt {a b:Int} (h:b≠0):(a.fmod b).natAbs < b.natAbs:=by
 rcases Int.lt_or_gt_of_ne h with hb | hb
 · have e:a.fmod b = -((-a).fmod (-b)):=by
    have:=Int.neg_fmod_neg a b
    omega
   have h1:=Int.fmod_nonneg_of_pos (-a) (show (0:Int) < -b by omega)
   have h2:=Int.fmod_lt_of_pos (-a) (show (0:Int) < -b by omega)
   omega
 · have h1:=Int.fmod_nonneg_of_pos a hb
   have h2:=Int.fmod_lt_of_pos a hb
   omega
def B (n:Nat) (q:Rat):Prop:=q.num.natAbs < 2 ^ n∧q.den < 2 ^ n
theorem B.mono {n m:Nat} {q:Rat} (h:B n q) (l:n≤m):B m q :=
 ⟨Nat.lt_of_lt_of_le h.1 (Nat.pow_le_pow_right (by decide) l),Nat.lt_of_lt_of_le h.2 (Nat.pow_le_pow_right (by decide) l)⟩
theorem natAbs_mul_lt {a b:Int} {n m:Nat} (h1:a.natAbs < 2 ^ n) (h2:b.natAbs < 2 ^ m):(a * b).natAbs < 2 ^ (n+m):=by
 rw [Int.natAbs_mul,Nat.pow_add]
 exact Nat.mul_lt_mul'' h1 h2
theorem divInt_num_le (t:Int) {b:Int} (h:b≠0):(Rat.divInt t b).num.natAbs≤t.natAbs:=by
 rw [Rat.num_divInt]
 have hs:(b.sign * t).natAbs≤t.natAbs:=by
  rw [Int.natAbs_mul]
  have:b.sign.natAbs≤1:=by
   rcases Int.lt_trichotomy b 0 with z | z | z
   · rw [Int.sign_eq_neg_one_of_neg z]; decide
   · omega
   · rw [Int.sign_eq_one_of_pos z]; decide
  calc b.sign.natAbs * t.natAbs≤1 * t.natAbs:=Nat.mul_le_mul_right _ this
   _=t.natAbs:=Nat.one_mul _
 obtain ⟨c,hc⟩:∃ c,b.sign * t=(b.gcd t:Int) * c:=by
  obtain ⟨c,hc⟩:=Int.gcd_dvd_right b t
  refine ⟨b.sign * c,?_⟩
  rw [← Int.mul_assoc,Int.mul_comm (b.gcd t:Int) b.sign,Int.mul_assoc,← hc]
 have hg:(b.gcd t:Int)≠0:=by
  intro e
  exact h (Int.gcd_eq_zero_iff.mp (Int.ofNat.inj e)).1
 rw [hc,Int.mul_ediv_cancel_left _ hg]
 have:c.natAbs≤(b.sign * t).natAbs:=by
  rw [hc,Int.natAbs_mul]
  have:1≤(b.gcd t:Int).natAbs:=by omega
  calc c.natAbs=1 * c.natAbs:=(Nat.one_mul _).symm
   _≤_:=Nat.mul_le_mul_right _ this
 omega
theorem divInt_den_le (t:Int) {b:Int} (h:b≠0):(Rat.divInt t b).den≤b.natAbs:=by
 rw [Rat.den_divInt,if_neg h]
 exact Nat.div_le_self _ _
theorem B_divInt {n:Nat} {t b:Int} (h:b≠0) (h1:t.natAbs < 2 ^ n) (h2:b.natAbs < 2 ^ n):B n (Rat.divInt t b) :=
 ⟨Nat.lt_of_le_of_lt (divInt_num_le t h) h1,Nat.lt_of_le_of_lt (divInt_den_le t h) h2⟩
theorem den_ne (q:Rat):(q.den:Int)≠0:=by have:=q.den_nz; omega
theorem mul_ne {p q:Rat}:(p.den:Int) * q.den≠0:=Int.mul_ne_zero (den_ne p) (den_ne q)
theorem gcd_one (q:Rat):Int.gcd q.num q.den=1:=by
 have:=q.reduced
 unfold Nat.Coprime at this
 simpa [Int.gcd] using this
theorem of_coprime {a b:Int} (hb:0 < b) (h:Int.gcd a b=1):(Rat.divInt a b).num=a∧((Rat.divInt a b).den:Int)=b:=by
 rw [Rat.num_divInt,Rat.den_divInt,if_neg (by omega),Int.gcd_comm b a,h,Int.sign_eq_one_of_pos hb]
 constructor
 · simp
 · simp; omega
theorem whole (a:Int):(Rat.divInt a 1).num=a∧((Rat.divInt a 1).den:Int)=1:=of_coprime (by decide) (by simp)
end FM
namespace L2
open PySem PySem.Spec PyProof.Rows
theorem compLoop_any {prog:Program} {w:World} {A:Around} {R:Result→Shared→Prop} {s:Shared} {elt target iter:Expr} {ifs:List Expr} {scope:Scope} {pos:Pos} {it acc:Value} {env:Env} (I:Nat→Shared→Prop)
 (turn:∀ n s,I n s→wpAny (model prog w) A (pyNext it) (fun r s₁=>match r with
   | none=>R (.ok .next) s₁
   | some v=>wpAny (model prog w) A (letOwnedTupleGo target it v) (fun _ s₀=>wpAny (model prog w) A (assign target env v) (fun _ s₂ =>
      wpAny (model prog w) A (forIn ifs true fun c r=>if r=true then do let ok ← isTrue c env (eval c env); pure (ForInStep.yield ok) else pure (ForInStep.yield r)) (fun ok s₃ =>
       if ok=true then wpAny (model prog w) A (eval elt env) (fun x s₄ =>
        wpAny (model prog w) A (call (.builtin "list.append") [acc,x]) (fun _ s₅=>∃ m,m < n∧I m s₅) (fun _ _=>False) s₄) (fun _ _=>False) s₃
       else ∃ m,m < n∧I m s₃) (fun _ _=>False) s₂) (fun _ _=>False) s₀) (fun _ _=>False) s₁) (fun _ _=>False) s)
 (n:Nat) (h:I n s) :
 codeAny (model prog w) A (.compLoop (.ListComp elt [⟨target,iter,ifs,0⟩] scope pos) 0 it acc env) R s:=by
 refine codeAny_loop rfl I (fun n s hI=>?_) n h
 show wpAny _ A ((compTurn (.ListComp elt [⟨target,iter,ifs,0⟩] scope pos) 0 it acc env).onRaise (fun x=>do noteFrame x env; theTreesLotGoes x)) _ _ s
 refine wpAny_noted ?_
 rw [compTurn_list]
 refine wpAny_bind (wpAny_standAt (wpAny_bind (wpAny_mono (turn n s hI) (fun r s₁ h₁=>?_) fun _ _ h'=>h'.elim)))
 cases r with
 | none=>exact wpAny_pure h₁
 | some v =>
   refine wpAny_bind (wpAny_mono h₁ (fun _ s₀ h₀=>?_) fun _ _ h'=>h'.elim)
   refine wpAny_bind (wpAny_mono h₀ (fun _ s₂ h₂=>wpAny_bind (wpAny_mono h₂ (fun ok s₃ h₃=>?_) fun _ _ h'=>h'.elim)) fun _ _ h'=>h'.elim)
   cases ok with
   | false=>exact wpAny_pure ⟨rfl,h₃⟩
   | true =>
     exact wpAny_bind (wpAny_bind (wpAny_mono h₃ (fun x s₄ h₄=>wpAny_bind (wpAny_mono h₄ (fun _ s₅ h₅=>wpAny_pure (wpAny_pure ⟨rfl,h₅⟩)) fun _ _ h'=>h'.elim)) fun _ _ h'=>h'.elim))
theorem cellsFrom_app:∀ (names:List (Str×NameKind)) (n:Nat) (acc:List (Str×Addr)),cellsFrom n names acc=cellsFrom n names []++acc
 | [],_,_=>rfl
 | (x,k) :: r,n,acc=>by
   unfold cellsFrom
   split
   · rw [cellsFrom_app r (n+1) ((x,n) :: acc),cellsFrom_app r (n+1) [(x,n)],List.append_assoc]; rfl
   · exact cellsFrom_app r n acc
theorem cellsFrom_mem {x:Str} {c:Addr}:∀ (names:List (Str×NameKind)) (n:Nat),(x,c)∈cellsFrom n names []→(x,NameKind.cell)∈names
 | [],_,h=>by simp [cellsFrom] at h
 | (y,k) :: r,n,h=>by
   unfold cellsFrom at h
   split at h
   · rename_i hk
     rw [cellsFrom_app] at h
     rcases List.mem_append.mp h with h | h
     · exact List.mem_cons_of_mem _ (cellsFrom_mem r _ h)
     · cases List.mem_singleton.mp h
       rw [show k=.cell by simpa using hk]
       exact List.mem_cons_self
   · exact List.mem_cons_of_mem _ (cellsFrom_mem r _ h)
theorem own_look {names:List (Str×NameKind)} {n:Nat} {cl:List (Str×Addr)} {x:Str} {c:Addr} (h:(cellsFrom n names cl).lookup x=some c):(cellsFrom n names []).lookup x=some c∨cl.lookup x=some c:=by
 rw [cellsFrom_app,List.lookup_append] at h
 cases e:(cellsFrom n names []).lookup x with
 | none=>rw [e] at h; exact .inr h
 | some c'=>rw [e] at h; exact .inl h
theorem newEnv_own {M:Model} {A:Around} {E:Value→Shared→Prop} {s:Shared} {scope:Scope} {globals:Addr} {cl:List (Str×Addr)} {qual:Str} {env:Env} {Q:Env→Shared→Prop}
 (hQ:∀ h',h'.Ns s.heap.objs.size (fun _=>none)→(∀ b o,s.heap.get? b=some o→h'.get? b=some o)→CellsOk h' (s.heap.objs.size+1) (cellsFrom (s.heap.objs.size+1) scope.names []) →
   Q (newEnv scope s.heap.objs.size globals (cellsFrom (s.heap.objs.size+1) scope.names cl) qual none .none (some env) builtinsNs) { s with heap:=h' }) :
 wpAny M A (newFunctionEnv scope globals cl [] qual none .none (some env)) Q E s:=by
 simp only [newFunctionEnv,Option.isSome_some,if_true]
 refine wpAny_bind (wpAny_alloc ?_)
 refine wpAny_bind (wpAny_layCells _ (fun name kind cells=>by cases hkc:kind == NameKind.cell <;> simp [hkc]) _ _ _ _ ?_)
 have ok:=cellsFrom_ok scope.names (s.heap.push { cls:=.type "dict",data:=.dict #[] }) (s.heap.objs.size+1) [] ⟨fun _ _ hm=>(nomatch hm),List.Pairwise.nil⟩ (by rw [Heap.size_push]; exact Nat.le_refl _)
 rw [Heap.size_push] at ok
 rw [show ({ s with heap:=s.heap.push { cls:=.type "dict",data:=.dict #[] } }:Shared).heap.objs.size=s.heap.objs.size+1 from Heap.size_push ..]
 rw [List.forIn_nil]
 exact wpAny_bind (wpAny_pure (wpAny_pure (hQ _ ((Heap.Ns.new s.heap (.type "dict")).keeps (pushCells_keeps _ _)) (fun b o e=>pushCells_keeps _ _ b o (Heap.get?_push_of_some _ e)) ok)))
def blk (X:Cx) (scope:Scope) (cl:List (Str×Addr)) (C:Addr) (N:List Str) (s3:Shared) (H3:Hp) (fp:List Addr):Cx where
 prog:=X.prog
 w:=X.w
 K:=X.K
 mg:=X.mg
 base:=X.base
 A:=X.A
 N:=N
 s₀:=s3
 H₀:=H3
 env:=compEnvC scope (cellsFrom (C+1) scope.names cl) C X.env
 outer:=X.stack
 stack:=X.stack
 ex:=fp
 fn:=fun x=>scope.names.lookup x == some .cell
 calm:=X.calm
 pn:=[]
 xe:=fun _ _=>False
structure LcO (X:Cx) (scope:Scope) (cl:List (Str×Addr)) (N:List Str) (fr:List (Option Nat)):Prop where
 clos:closureFor scope X.env=pure cl
 sub:∀ x c,cl.lookup x=some c→X.env.cells.lookup x=some c
 has:∀ x,((relabel scope X.env).names.lookup x=some .cell∨(relabel scope X.env).names.lookup x=some .free)→scope.names.lookup x=some .cell∨∃ c,cl.lookup x=some c
 kind:scope.kind=.function
 names:∀ y∈scope.names,y.2=.local→scope.names.lookup y.1=some .local
 len:fr.length=N.length
 from':∀ (i j:Nat),fr[i]? = some (some j)→∃ x,N[i]? = some x∧X.N[j]? = some x∧(X.env.scope.names.lookup x=some .cell∨X.env.scope.names.lookup x=some .free)∧((relabel scope X.env).names.lookup x=some .cell∨(relabel scope X.env).names.lookup x=some .free)∧(∃ c,cl.lookup x=some c)∧(x,NameKind.cell)∉scope.names
def lcStart (fr:List (Option Nat)) (σ:St):St:=fr.map fun o=>match o with
 | some j=>match σ[j]? with
   | some v=>v
   | none=>none
 | none=>none
theorem hok_but {P:Program} {w:World} {H:Hp} {h h':Heap} {a:Addr} (ok:HOk P w H h) (hfree:H a=none) (hs:Heap.SameBut a h h'):HOk P w H h':=fun b ob e=>by
 refine (ok b ob e).stay (fun c w' hc q=>(hs.2 c ?_).trans q) (fun _ q=>q) fun _ _ q=>q
 rintro rfl
 rcases hc with rfl | hc
 · rw [hfree] at e; cases e
 · rw [hfree] at hc; cases hc
theorem blk_ok {X:Cx} {pins:List (Addr×Obj)} {σ:St} {H:Hp} {s3:Shared} {h1:Heap} {scope:Scope} {cl:List (Str×Addr)} {N:List Str} {fr:List (Option Nat)} {fp:List Addr} (L:LcO X scope cl N fr) (I:Inv X pins σ H s3) (co:CellsOk h1 (s3.heap.objs.size+1) (cellsFrom (s3.heap.objs.size+1) scope.names []))
 (hf:∀ b∈fp,FpOk X pins H b) (hlt:∀ b∈fp,b < s3.heap.objs.size):(blk X scope cl s3.heap.objs.size N s3 H fp).Ok where
 mod:=I.ok.mod
 kind:=L.kind
 glob:=I.ok.glob
 blt:=I.ok.blt
 above:=Nat.le_refl _
 inj:=fun x y c h1 h2=>by
  have old:∀ z,cl.lookup z=some c→c < s3.heap.objs.size:=fun z e=>let ⟨_,k⟩:=I.cell z c (L.sub z c e); k.lt
  have new:∀ z,(cellsFrom (s3.heap.objs.size+1) scope.names []).lookup z=some c→s3.heap.objs.size+1≤c:=fun z e=>(co.empty z c (PySem.mem_of_lookup e)).2
  rcases own_look h1 with a | a <;> rcases own_look h2 with b | b
  · exact name_of_addr co.apart (PySem.mem_of_lookup a) (PySem.mem_of_lookup b)
  · exact absurd (Nat.lt_of_lt_of_le (old y b) (Nat.le_of_succ_le (new x a))) (Nat.lt_irrefl _)
  · exact absurd (Nat.lt_of_lt_of_le (old x a) (Nat.le_of_succ_le (new y b))) (Nat.lt_irrefl _)
  · exact I.ok.inj x y c (L.sub x c a) (L.sub y c b)
 has:=fun x h=>by
  refine Option.isSome_iff_exists.mp (PySem.W.cellsFrom_some scope.names (s3.heap.objs.size+1) cl ?_)
  rcases L.has x h with z | ⟨c,z⟩
  · exact .inl z
  · exact .inr (by rw [z]; rfl)
 cab:=fun x c h e=>by
  obtain ⟨c',e'⟩:=cell_has (sc:=scope) (n:=s3.heap.objs.size+1) (beq_iff_eq.mp (show (scope.names.lookup x == some .cell)=true from h))
  have e2:(cellsFrom (s3.heap.objs.size+1) scope.names cl).lookup x=some c:=e
  rw [cellsFrom_app,List.lookup_append,e'] at e2
  have e3:c'=c:=Option.some.inj e2
  subst e3
  exact Nat.le_of_succ_le (co.empty x c' (PySem.mem_of_lookup e')).2
 hd:=I.ok.hd
 frames:=I.ok.frames
 stk:=.inl rfl
 exf:=fun b hb=>⟨Nat.ne_of_lt (hlt b hb),fun x c h=>by
  rcases own_look h with a | a
  · exact Nat.ne_of_gt (Nat.lt_of_lt_of_le (hlt b hb) (Nat.le_of_succ_le (co.empty x c (PySem.mem_of_lookup a)).2))
  · exact (hf b hb).2.2.2.2.1 x c (L.sub x c a)⟩
 bs:=I.bs
 bsz:=Nat.le_trans I.ok.bsz I.sz
 noex:=fun b o e hb=>by
  rcases (hf b hb).2.2.2.1 with z | z
  · exact I.ok.noex b o e z
  · exact absurd (Nat.lt_of_lt_of_le (Heap.lt_size e) (Nat.le_trans I.ok.bsz z)) (Nat.lt_irrefl _)
 exfs:=fun b hb z=>by
  rcases List.mem_cons.mp (I.stkSub b z) with e | e
  · exact (hf b hb).2.1 e
  · exact (hf b hb).2.2.1 e
 funs:=I.stack
 frf:=I.stkFree
theorem blk_start {X:Cx} {pins:List (Addr×Obj)} {σ:St} {H:Hp} {s3:Shared} {h1:Heap} {t:Nat} {scope:Scope} {cl:List (Str×Addr)} {N:List Str} {fr:List (Option Nat)} {fp:List Addr} (L:LcO X scope cl N fr) (I:Inv X pins σ H s3) (co:CellsOk h1 (s3.heap.objs.size+1) (cellsFrom (s3.heap.objs.size+1) scope.names []))
 (hf:∀ b∈fp,FpOk X pins H b) (hlt:∀ b∈fp,b < s3.heap.objs.size) {m0:Str→Option Value} (hns:h1.Ns s3.heap.objs.size m0) (hk:∀ b o,s3.heap.get? b=some o→h1.get? b=some o) :
 Inv (blk X scope cl s3.heap.objs.size N s3 H fp) [] (lcStart fr σ) H { s3 with heap:=h1,toks:=t } where
 ok:=blk_ok L I co hf hlt
 os:=rfl
 bare:=I.bare
 base:=Un.kept hk
 loc:=⟨m0,hns,fun i x v e1 e2 e3=>by
  unfold lcStart at e2
  rw [List.getElem?_map] at e2
  cases q:fr[i]? with
  | none=>rw [q] at e2; cases e2
  | some o =>
    rw [q] at e2
    cases o with
    | none=>cases e2
    | some j =>
      obtain ⟨y,n1,n2,n3,n4,⟨c,hc⟩,n6⟩:=L.from' i j q
      have e1':N[i]? = some x:=e1
      rw [n1] at e1'
      cases e1'
      have e2':(match σ[j]? with | some v=>v | none=>none)=some v:=Option.some.inj e2
      have e2'':σ[j]? = some (some v):=by
       cases z:σ[j]? with
       | none=>rw [z] at e2'; cases e2'
       | some w'=>rw [z] at e2'; rw [show w'=some v from e2']
      obtain ⟨m,_,hl⟩:=I.loc
      obtain ⟨u,r,lk⟩:=hl j x v n2 e2'' (.inr n3)
      refine ⟨u,r,.inr ⟨n4,c,?_,?_⟩⟩
      · show (cellsFrom (s3.heap.objs.size+1) scope.names cl).lookup x=some c
        rw [cellsFrom_app,List.lookup_append]
        cases z:(cellsFrom (s3.heap.objs.size+1) scope.names []).lookup x with
        | none=>exact hc
        | some c'=>exact absurd (cellsFrom_mem _ _ (PySem.mem_of_lookup z)) n6
      rcases lk with ⟨k,_⟩ | ⟨k,c',hc',z⟩
      · exfalso
        have k':X.env.scope.names.lookup x=some .local:=k
        rcases n3 with z | z <;> rw [k'] at z <;> cases z
      · rw [L.sub x c hc] at hc'
        cases hc'
        obtain ⟨o,ho,hd⟩:=z
        exact ⟨o,hk _ _ ho,hd⟩⟩
 cell:=fun x c e=>by
  rcases own_look e with a | a
  · exact ⟨none,(co.empty x c (PySem.mem_of_lookup a)).1⟩
  · obtain ⟨v,o,ho,hd⟩:=I.cell x c (L.sub x c a)
    exact ⟨v,o,hk _ _ ho,hd⟩
 free:=I.hok.fresh (Nat.le_refl _)
 freeC:=fun x c e=>by
  rcases own_look e with a | a
  · exact .inl (I.hok.fresh (Nat.le_of_succ_le (co.empty x c (PySem.mem_of_lookup a)).2))
  · refine (I.freeC x c (L.sub x c a)).imp id fun ⟨_,z⟩=>⟨Bool.eq_false_iff.mpr fun q=>?_,z⟩
    obtain ⟨v,oc,hoc,_⟩:=I.cell x c (L.sub x c a)
    obtain ⟨c',e'⟩:=cell_has (sc:=scope) (n:=s3.heap.objs.size+1) (beq_iff_eq.mp (show (scope.names.lookup x == some .cell)=true from q))
    have e2:(cellsFrom (s3.heap.objs.size+1) scope.names cl).lookup x=some c:=e
    rw [cellsFrom_app,List.lookup_append,e'] at e2
    cases e2
    exact absurd (Nat.lt_of_lt_of_le (Heap.lt_size hoc) (Nat.le_of_succ_le (co.empty x c (PySem.mem_of_lookup e')).2)) (Nat.lt_irrefl _)
 pin:=fun p hp=>absurd (show p∈([]:List (Addr×Obj)) from hp) (by simp)
 hok:=I.hok.kept hk
 len:=by
  unfold lcStart
  rw [List.length_map]
  exact L.len
def PIfs (X:Cx) (ifs:List Expr) (t:TT):Prop :=
 ∀ (pins:List (Addr×Obj)) (s:Shared) (σ:St) (H:Hp) (Q:Bool→Hp→Prop),Inv X pins σ H s→t σ H Q →
   wpAny (model X.prog X.w) X.A (forIn ifs true fun c r=>if r=true then do let ok ← isTrue c X.env (eval c X.env); pure (ForInStep.yield ok) else pure (ForInStep.yield r)) (TP X pins σ Q) X.xe s
def tYes:TT:=fun _ H Q=>Q true H
theorem gName_yes {i:Nat} {x:V} {σ:St} {H:Hp} {A B:St→Hp→Prop} (h:A (σ.set i (some x)) H):gName i x σ H fun σ4 H4=>tYes σ4 H4 fun b H5=>if b=true then A σ4 H5 else B σ4 H5:=h
theorem pifs_nil {X:Cx}:PIfs X [] tYes:=fun _ _ _ H _ I h=>wpAny_tests_nil ⟨H,I,h⟩
def LcGo (J:It) (g:TG) (tt:TT) (te:TE) (σ0:St) (H1:Hp) (D:Addr) (Q:VK):Prop:=∃ W:Nat→Nat→St→Hp→Prop,(∃ m,W 0 m σ0 (upd H1 D (.lst []))) ∧
 ∀ i m σ2 H2,W i m σ2 H2→(J.stop i H2∧Q (.ref D) H2)∨(J.go i H2∧∀ x H3,J.yld i H2 x H3→g x σ2 H3 fun σ4 H4=>tt σ4 H4 fun b H5=>if b=true then te σ4 H5 fun y H6=>∃ ys,H6 D=some (.lst ys)∧ys.length < sizeLine ∧
   ∃ m',m' < m∧W (i+1) m' σ4 (upd H6 D (.lst (ys++[y]))) else ∃ m',m' < m∧W (i+1) m' σ4 H5)
def tLC (wi:TI) (g:TG) (tt:TT) (te:TE) (fr:List (Option Nat)):TE:=fun σ H Q=>wi σ H fun J H1=>∀ D,H1 D=none→LcGo J g tt te (lcStart fr σ) H1 D Q
abbrev NoX:Value→Shared→Prop:=fun _ _=>False
theorem cmp_close {X:Cx} {pins:List (Addr×Obj)} {σ σ7:St} {H3 H7:Hp} {s3 s7:Shared} {scope:Scope} {cl:List (Str×Addr)} {N:List Str} {fp:List Addr} (I3:Inv X pins σ H3 s3) (f3:∀ b∈fp,FpOk X pins H3 b) (I7:Inv (blk X scope cl s3.heap.objs.size N s3 H3 fp) [] σ7 H7 s7) :
 ∃ m7,s7.heap.Ns s3.heap.objs.size m7∧∀ h8,Heap.SameBut s3.heap.objs.size s7.heap h8→Inv X pins σ H7 { s7 with heap:=h8 }:=by
 obtain ⟨m7,hn7,_⟩:=I7.loc
 refine ⟨m7,hn7,fun h8 sb8=>?_⟩
 have un:=I7.base
 have neC:∀ b o,s3.heap.get? b=some o→b≠s3.heap.objs.size:=fun b o e=>Nat.ne_of_lt (Heap.lt_size e)
 refine I3.call' (s':={ s7 with heap:=h8 }) (ch:=fp) I7.os ?_ (hok_but I7.hok I7.free sb8) I7.bare (fun b hb=>⟨(f3 b hb).2.2.2.1,(f3 b hb).2.1,(f3 b hb).2.2.2.2.1,(f3 b hb).2.2.2.2.2⟩)
 refine ⟨fun b o e n' hb hx=>?_,fun b o e n' hb hx=>?_,un.free,fun b o e hx=>?_,un.tups,un.frzs,un.tbls⟩
 · exact sb8.extBut b o (neC b o e) (un.keep b o e n' hb hx)
 · obtain ⟨sl,q⟩:=un.slot b o e n' hb hx
   exact ⟨sl,sb8.extBut b _ (neC b o e) q⟩
 · obtain ⟨o',q⟩:=un.there b o e hx
   exact ⟨o',sb8.extBut b _ (neC b o e) q⟩
def CTurn (M:Model) (A:Around) (tg:Expr) (it:Value) (env:Env) (R:Result→Shared→Prop) (B:Nat→Shared→Prop) (n:Nat) (s:Shared):Prop :=
 wpAny M A (pyNext it) (fun r s1=>match r with
  | none=>R (.ok .next) s1
  | some v=>wpAny M A (letOwnedTupleGo tg it v) (fun _ s0=>wpAny M A (assign tg env v) (fun _ s2=>B n s2) NoX s0) NoX s1) NoX s
theorem cmp_core {X:Cx} {pins:List (Addr×Obj)} {σ:St} {H2:Hp} {s2:Shared} {scope:Scope} {cl:List (Str×Addr)} {N:List Str} {fr:List (Option Nat)} {tg:Expr} {g:TG} {J:It} {fp:List Addr} {it:Addr} {tn:Nat→Heap→Prop} {ac:HO} {o0:Obj} {W:Nat→Nat→St→Hp→Prop} {m0:Nat} {Qn:Hp→Prop} {Kn:Nat→Nat→St→Hp→Prop} {c:Expr} {R:Addr→Result→Shared→Prop} {B:(Nat→Shared→Prop)→Nat→Shared→Prop} {s3:Shared}
 (hs3:s3={ s2 with heap:=s2.heap.push o0 }) (hc:X.calm=true) (L:LcO X scope cl N fr) (hg:∀ C s3 H3 fp,PG (blk X scope cl C N s3 H3 fp) tg g)
 (I2:Inv X pins σ H2 s2) (T:Turn X.prog X.w X.K tg J fp it tn) (st2:tn 0 s2.heap) (f2:∀ b∈fp,FpOk X pins H2 b)
 (ok0:ObjOk X.prog X.w (upd H2 s2.heap.objs.size ac) (s2.heap.push o0) s2.heap.objs.size ac) (w0:W 0 m0 (lcStart fr σ) (upd H2 s2.heap.objs.size ac))
 (turn:∀ i m σ2 H2,W i m σ2 H2→(J.stop i H2∧Qn H2)∨(J.go i H2∧∀ x H3,J.yld i H2 x H3→g x σ2 H3 (Kn i m)))
 (start:∀ env s4,codeAny (model X.prog X.w) X.A (.compLoop c 0 (.ref it) (.ref s2.heap.objs.size) env) (R s3.heap.objs.size) s4→(∀ E,wpAny (model X.prog X.w) X.A (pyIter (.ref it)) (fun it' s'=>codeAny (model X.prog X.w) X.A (.compLoop c 0 it' (.ref s2.heap.objs.size) env) (R s3.heap.objs.size) s') E s4)→codeAny (model X.prog X.w) X.A (.compStart c 0 (.ref it) (.ref s2.heap.objs.size) env) (R s3.heap.objs.size) s4)
 (loop:∀ (LI:Nat→Shared→Prop) s4,(∀ n s,LI n s→CTurn (model X.prog X.w) X.A tg (.ref it) (blk X scope cl s3.heap.objs.size N s3 (upd H2 s2.heap.objs.size ac) fp).env (R s3.heap.objs.size) (B LI) n s)→∀ n,LI n s4→codeAny (model X.prog X.w) X.A (.compLoop c 0 (.ref it) (.ref s2.heap.objs.size) (blk X scope cl s3.heap.objs.size N s3 (upd H2 s2.heap.objs.size ac) fp).env) (R s3.heap.objs.size) s4)
 (stop:∀ H7 s7,Qn H7→Inv X pins σ (upd H2 s2.heap.objs.size ac) s3→H7 s3.heap.objs.size=none→(∃ m7,s7.heap.Ns s3.heap.objs.size m7∧∀ h8,Heap.SameBut s3.heap.objs.size s7.heap h8→Inv X pins σ H7 { s7 with heap:=h8 })→R s3.heap.objs.size (.ok .next) s7)
 (body:∀ (LI:Nat→Shared→Prop) n i σ9 H9 s9 ps,Inv (blk X scope cl s3.heap.objs.size N s3 (upd H2 s2.heap.objs.size ac) fp) ps σ9 H9 s9→Kn i n σ9 H9→(∀ {s11:Shared} {σ11:St} {H11:Hp} {m':Nat},Inv (blk X scope cl s3.heap.objs.size N s3 (upd H2 s2.heap.objs.size ac) fp) ps σ11 H11 s11→m' < n→W (i+1) m' σ11 H11→∃ m,m < n∧LI m s11)→B LI n s9) :
 wpAny (model X.prog X.w) X.A (newFunctionEnv scope X.env.globals cl [] X.env.qual none .none (some X.env)) (fun cenv s4=>codeAny (model X.prog X.w) X.A (.compStart c 0 (.ref it) (.ref s2.heap.objs.size) { cenv with scope:=relabel scope X.env }) (R cenv.locals) s4) X.xe s3:=by
 have fplt:∀ b∈fp,b < s2.heap.objs.size:=fun b hb=>by
  obtain ⟨o,q,_⟩:=T.obj _ _ st2 b hb
  exact Heap.lt_size q
 have k3:∀ b o,s2.heap.get? b=some o→s3.heap.get? b=some o:=fun b o e=>by rw [hs3]; exact Heap.get?_push_of_some _ e
 have I3:Inv X pins σ (upd H2 s2.heap.objs.size ac) s3:=by rw [hs3]; exact I2.laid (t':=s2.toks) (fun b o e=>Heap.get?_push_of_some _ e) (Nat.le_refl _) ok0
 have f3:∀ b∈fp,FpOk X pins (upd H2 s2.heap.objs.size ac) b:=fun b hb=>⟨by rw [upd_ne (Nat.ne_of_lt (fplt b hb))]; exact (f2 b hb).1,(f2 b hb).2⟩
 have st3:tn 0 s3.heap:=T.keep _ _ _ st2 fun b hb o e=>k3 b o e
 have fplt3:∀ b∈fp,b < s3.heap.objs.size:=fun b hb=>by
  obtain ⟨o,q,_⟩:=T.obj _ _ st2 b hb
  exact Heap.lt_size (k3 _ _ q)
 generalize upd H2 s2.heap.objs.size ac=H3 at *
 refine newEnv_own fun h1 hns1 k4 ok3=>?_
 have I4:=blk_start (t:=s3.toks) L I3 ok3 f3 fplt3 hns1 k4
 have st4:tn 0 h1:=T.keep _ _ _ st3 fun b hb o e=>k4 b o e
 have fpB:∀ {H':Hp} (b:Addr),b∈fp→H' b=none→FpOk (blk X scope cl s3.heap.objs.size N s3 H3 fp) [] H' b:=fun b hb hn =>
  ⟨hn,Nat.ne_of_lt (fplt3 b hb),fun z=>(blk_ok L I3 ok3 f3 fplt3).exfs b hb z,.inl hb,fun x c e=>((blk_ok L I3 ok3 f3 fplt3).exf b hb).2 x c e,fun p hp=>absurd (show p∈([]:List (Addr×Obj)) from hp) (by simp)⟩
 have lp:=loop (fun n s'=>∃ i σ' H',Inv (blk X scope cl s3.heap.objs.size N s3 H3 fp) [] σ' H' s'∧tn i s'.heap∧(∀ b∈fp,H' b=none)∧W i n σ' H') { s3 with heap:=h1 } (fun n s6=>?_) m0 ⟨0,_,_,I4,st4,fun b hb=>(f3 b hb).1,w0⟩
 · exact start _ _ lp fun E=>T.self _ 0 _ _ _ st4 lp
 · rintro ⟨i,σ6,H6,I6,st6,fr6,w6⟩
   unfold CTurn
   rcases turn i n σ6 H6 w6 with ⟨sp,qn⟩ | ⟨go,step⟩
   · refine thn (T.done (blk X scope cl s3.heap.objs.size N s3 H3 fp) rfl rfl rfl hc i [] s6 σ6 H6 (fun _ _=>False) I6 (fun b hb=>fpB b hb (fr6 b hb)) st6 sp) fun r s7 ⟨hr,I7⟩=>?_
     subst hr
     exact stop _ _ qn I3 I7.free (cmp_close I3 f3 I7)
   · refine thn (T.item (blk X scope cl s3.heap.objs.size N s3 H3 fp) rfl rfl rfl hc i [] s6 σ6 H6 (fun _ _=>False) I6 (fun b hb=>fpB b hb (fr6 b hb)) st6 go) fun r s7 ⟨u,hr,h7⟩=>?_
     subst hr
     refine thn h7 fun _ s8 ⟨x,H8,I8,r8,y8,st8,fr8⟩=>?_
     have I8':=I8.pinned (fun b hb=>fpB b hb (fr8 b hb)) (T.obj _ _ st8)
     refine thn (hg _ _ _ _ _ s8 σ6 H8 x u _ I8' r8 (step x H8 y8)) fun _ s9 ⟨σ9,H9,I9,q9⟩=>?_
     refine body _ n i σ9 H9 s9 _ I9 q9 fun {s11 σ11 H11 m'} I11 hm w11=>?_
     refine ⟨m',hm,i+1,σ11,H11,I11.unpinned,T.keep _ _ _ st8 fun b hb o e=>(I11.pin (b,o) (List.mem_append_right _ (List.mem_append_right _ (mem_pinsAt hb e)))).1,fun b hb=>?_,w11⟩
     obtain ⟨o,e,d⟩:=T.obj _ _ st8 b hb
     exact (I11.pin (b,o) (List.mem_append_right _ (List.mem_append_right _ (mem_pinsAt hb e)))).2.1
theorem lc_body {X:Cx} {scope:Scope} {cl:List (Str×Addr)} {N:List Str} {ifs:List Expr} {elt:Expr} {tt:TT} {te:TE} {D:Addr} {W:Nat→Nat→St→Hp→Prop} {C0:Addr} {s30:Shared} {H30:Hp} {fp0:List Addr}
 (ht:∀ C s3 H3 fp,PIfs (blk X scope cl C N s3 H3 fp) ifs tt) (he:∀ C s3 H3 fp,PE (blk X scope cl C N s3 H3 fp) elt te) (LI:Nat→Shared→Prop) (n i:Nat) (σ9:St) (H9:Hp) (s9:Shared) (ps:List (Addr×Obj)) (I9:Inv (blk X scope cl C0 N s30 H30 fp0) ps σ9 H9 s9)
 (q9:tt σ9 H9 fun b H5=>if b=true then te σ9 H5 fun y H6=>∃ ys,H6 D=some (.lst ys)∧ys.length < sizeLine∧∃ m',m' < n∧W (i+1) m' σ9 (upd H6 D (.lst (ys++[y]))) else ∃ m',m' < n∧W (i+1) m' σ9 H5)
 (again:∀ {s11:Shared} {σ11:St} {H11:Hp} {m':Nat},Inv (blk X scope cl C0 N s30 H30 fp0) ps σ11 H11 s11→m' < n→W (i+1) m' σ11 H11→∃ m,m < n∧LI m s11) :
 wpAny (model X.prog X.w) X.A (forIn ifs true fun c r=>if r=true then do let ok ← isTrue c (blk X scope cl C0 N s30 H30 fp0).env (eval c (blk X scope cl C0 N s30 H30 fp0).env); pure (ForInStep.yield ok) else pure (ForInStep.yield r)) (fun ok s₃ =>
  if ok=true then wpAny (model X.prog X.w) X.A (eval elt (blk X scope cl C0 N s30 H30 fp0).env) (fun x s₄ =>
   wpAny (model X.prog X.w) X.A (call (.builtin "list.append") [.ref D,x]) (fun _ s₅=>∃ m,m < n∧LI m s₅) (fun _ _=>False) s₄) (fun _ _=>False) s₃
  else ∃ m,m < n∧LI m s₃) (fun _ _=>False) s9:=by
 refine thn (ht _ _ _ _ ps s9 σ9 H9 _ I9 q9) fun b s10 ⟨H10,I10,q10⟩=>?_
 cases b with
 | false =>
   obtain ⟨m',hm,w11⟩:=q10
   exact again I10 hm w11
 | true =>
   refine thn (he _ _ _ _ ps s10 σ9 H10 _ I10 q10) fun y s11 ⟨yv,H11,I11,r11,ys,hys,hz,m',hm,w11⟩=>?_
   have ap:=mt_append (X:=blk X scope cl C0 N s30 H30 fp0) _ s11 σ9 H11 (.ref D) [yv] (.ref D) [y] (fun _ H'=>W (i+1) m' σ9 H') I11 rfl (.cons r11 .nil)
    ⟨_,ys,yv,rfl,rfl,hys,hz,w11⟩
   exact thn ap fun _ s12 ⟨_,H12,I12,_,q12⟩=>again I12 hm q12
theorem stop_ep {X:Cx} {pins:List (Addr×Obj)} {σ:St} {Q:VK} {H7:Hp} {s7:Shared} {C D:Addr} (qn:Q (.ref D) H7) (c:∃ m7,s7.heap.Ns C m7∧∀ h8,Heap.SameBut C s7.heap h8→Inv X pins σ H7 { s7 with heap:=h8 }):compPost (model X.prog X.w) X.A X.xe none (EP X pins σ Q) (.ref D) C (.ok .next) s7 :=
 let ⟨m7,hn7,c7⟩:=c
 ⟨m7,hn7,fun h8 sb8=>⟨.ref _,H7,c7 h8 sb8,rfl,qn⟩⟩
theorem pe_lc {X:Cx} {tg elt iter:Expr} {ifs:List Expr} {scope:Scope} {cl:List (Str×Addr)} {N:List Str} {fr:List (Option Nat)} {pos:Pos} {wi:TI} {g:TG} {tt:TT} {te:TE}
 (hc:X.calm=true) (L:LcO X scope cl N fr) (hi:PI X tg iter wi) (hg:∀ C s3 H3 fp,PG (blk X scope cl C N s3 H3 fp) tg g)
 (ht:∀ C s3 H3 fp,PIfs (blk X scope cl C N s3 H3 fp) ifs tt) (he:∀ C s3 H3 fp,PE (blk X scope cl C N s3 H3 fp) elt te)
 (hs:∀ x,foldedSetIterable iter X.env x=pure x:=by intro _; rfl):PE X (.ListComp elt [⟨tg,iter,ifs,0⟩] scope pos) (tLC wi g tt te fr):=by
 intro pins s σ H Q I h
 rw [eval_ListComp]
 refine wpAny_comprehension_free (use:=none) rfl hs L.clos L.kind L.names (thn (hi pins s σ H _ I h) fun v s1 h1=>thn h1 fun itv s2 h2=>?_)
 obtain ⟨it,fp,tn,J,H2,e,I2,T,st2,f2,h⟩:=h2
 subst e
 obtain ⟨W,⟨m0,w0⟩,turn⟩:=h s2.heap.objs.size (I2.hok.fresh (Nat.le_refl _))
 refine wpAny_newObj_type ?_
 refine cmp_core (ac:=.lst []) rfl hc L hg I2 T st2 f2 ⟨Nat.zero_le _,[],_,.nil,Heap.get?_push_size _ rfl⟩ w0 turn (fun _ _ a b=>codeAny_compStart_list a (b _)) (fun LI s4 t n h=>compLoop_any LI t n h) (fun H7 s7 qn _ _ c=>stop_ep qn c) (lc_body ht he)
def LcN (n:Nat) (Pv:Nat→St→Hp→Prop) (i m:Nat) (σ:St) (H:Hp):Prop:=i≤n∧m=n - i∧Pv i σ H
theorem lcN_push {n i:Nat} {Pv:Nat→St→Hp→Prop} {σ:St} {H:Hp} {D:Addr} {ys:List V} {y:V} (hi:i < n) (hD:H D=some (.lst ys)) (hl:ys.length < sizeLine) (p:Pv (i+1) σ (upd H D (.lst (ys++[y])))) :
 ∃ ys,H D=some (.lst ys)∧ys.length < sizeLine∧∃ m',m' < n - i∧LcN n Pv (i+1) m' σ (upd H D (.lst (ys++[y]))):=⟨ys,hD,hl,n - (i+1),by omega,by omega,rfl,p⟩
end L2
namespace L2
open PySem PySem.Spec PyProof.Rows
section
variable {X:Cx}
def CDivB (i j:Int):Prop:=j≠0∧j.natAbs < 2 ^ 8999
theorem log_lt {a n:Nat} (h:a < 2 ^ n) (hn:0 < n):a.log2 < n:=by
 rcases Nat.eq_zero_or_pos a with rfl | hp
 · simpa using hn
 · exact (Nat.log2_lt (Nat.ne_of_gt hp)).mpr h
theorem op_fdivB:OpR X (binaryOp .FloorDiv) (rI CDivB fun i j=>.int (i.fdiv j)):=opI fun _ _ _ _ _ _ _ hc q=>floordiv_int hc.1 q (.inl (PyProof.noPylong_of_log2 (Nat.lt_trans (log_lt hc.2 (by decide)) (by decide))))
def CMulB (i j:Int):Prop:=i.natAbs < 2 ^ 1000000∧j.natAbs < 2 ^ 1000000
theorem bits_le {i:Int} {n:Nat} (h:i.natAbs < 2 ^ n) (hn:0 < n):Builtin.Int.intBits i≤n:=by
 unfold Builtin.Int.intBits
 split
 · exact Nat.zero_le _
 · exact log_lt h hn
theorem CMulB.ok {i j:Int} (h:CMulB i j):IntMulOk i j:=by
 unfold IntMulOk
 have h1:=bits_le h.1 (by decide)
 have h2:=bits_le h.2 (by decide)
 have:Builtin.Int.intTooBig (Builtin.Int.intBits i+Builtin.Int.intBits j:Nat)=false:=by
  unfold Builtin.Int.intTooBig bitsLine
  refine decide_eq_false ?_
  omega
 intro z
 rw [Bool.and_eq_true] at z
 rw [show ((Builtin.Int.intBits i:Int)+(Builtin.Int.intBits j:Int))=((Builtin.Int.intBits i+Builtin.Int.intBits j:Nat):Int) by omega,this] at z
 exact absurd z.2 (by decide)
theorem op_mulB:OpR X (binaryOp .Mult) (rI CMulB fun i j=>.int (i * j)):=opI fun _ _ _ _ _ _ _ hc q=>mul_int q hc.ok
theorem valsI_at:∀ {ns:List Int} {us:List Value},Vals (ns.map V.int) us→∀ j (h:j < us.length),∃ t,us[j]=Value.int (ns.getD j 0) t
 | [],_,.nil,j,h=>absurd h (by simp)
 | n :: ns,u :: us,.cons r t,0,h=>by
   obtain ⟨k,rfl⟩:=(show ∃ k,u=Value.int n k from r)
   exact ⟨k,rfl⟩
 | n :: ns,u :: us,.cons r t,j+1,h=>by
   obtain ⟨k,e⟩:=valsI_at t j (by simpa using h)
   exact ⟨k,by simpa using e⟩
def eqNs (ns ms:List Int):Bool:=(List.range (min ns.length ms.length)).all (fun j=>ns.getD j 0 == ms.getD j 0) && ns.length == ms.length
theorem eqNs_iff {ns ms:List Int}:eqNs ns ms=decide (ns=ms):=by
 unfold eqNs
 by_cases h:ns=ms
 · subst h
   simp
 · rw [decide_eq_false h]
   rw [Bool.and_eq_false_iff]
   by_cases hl:ns.length=ms.length
   · left
     rw [Bool.eq_false_iff]
     intro z
     rw [List.all_eq_true] at z
     apply h
     apply List.ext_getElem hl
     intro i h1 h2
     have:=z i (by simp; omega)
     simpa [h1,h2] using this
   · right
     simpa using hl
def rEqT (K:PySem.W.Frag) (neg:Bool):R2:=fun x y H Q=>∃ (a b:Addr) (ns ms:List Int),x=.ref a∧y=.ref b∧SqT K H a (ns.map V.int)∧SqT K H b (ms.map V.int)∧Q (.bl (if neg then !decide (ns=ms) else decide (ns=ms))) H
theorem eqT_items {A:Around} {s:Shared} {ns ms:List Int} {us ws:List Value} (r1:Vals (ns.map V.int) us) (r2:Vals (ms.map V.int) ws) (j:Nat) (h1:j < us.toArray.size) (h2:j < ws.toArray.size):SeqAt.EqAt A s us.toArray[j] ws.toArray[j] (ns.getD j 0 == ms.getD j 0):=by
 simp only [List.size_toArray] at h1 h2
 simp only [List.getElem_toArray]
 obtain ⟨t,e⟩:=valsI_at r1 j h1
 obtain ⟨t',e'⟩:=valsI_at r2 j h2
 rw [e,e']
 exact SeqAt.EqAt.int_int _ _ _ _
theorem op_eqT (hu:X.A.units < cLine):OpR X (compareOp .Eq) (rEqT X.K false):=by
 intro pins s σ H x y v u Q I rx ry h
 obtain ⟨a,b,ns,ms,rfl,rfl,h1,h2,q⟩:=h
 cases rx; cases ry
 obtain ⟨us,r1,p1,_⟩:=I.tuple h1
 obtain ⟨ws,r2,p2,_⟩:=I.tuple h2
 refine SeqAt.eq_tupleAt (e:=fun j=>ns.getD j 0 == ms.getD j 0) p1 p2 hu (fun j h1 h2=>eqT_items r1 r2 j h1 h2) ⟨.bl _,H,I,rfl,?_⟩
 have l1:=r1.length
 have l2:=r2.length
 rw [List.length_map] at l1 l2
 rw [List.size_toArray,List.size_toArray,← l1,← l2]
 rw [show ((List.range (min ns.length ms.length)).all (fun j=>ns.getD j 0 == ms.getD j 0) && ns.length == ms.length)=eqNs ns ms from rfl,eqNs_iff]
 exact q
theorem call_isi:CallR X (.builtin "isinstance") (fun xs H Q=>∃ x T t b,xs=[x,.ty T]∧TyOf X.K H x t∧PySem.W.kitOne X.K t (.type T)=some b∧Q (.bl b) H):=by
 intro pins s σ H xs us Q I r h
 obtain ⟨x,T,t,b,rfl,ty,e,q⟩:=h
 cases r with
 | cons rx r =>
   cases r with
   | cons ry r =>
     cases r
     cases (show _=Value.type T from ry)
     exact isinst_ok I rx ty e fun tk=>⟨.bl b,H,I.tok _,rfl,q⟩
theorem vals_bools:∀ {bs:List Bool} {us:List Value} {i:Nat} {v:Value},Vals (bs.map V.bl) us→us[i]? = some v→∃ b,bs[i]? = some b∧v=Value.bool b
 | [],_,i,v,.nil,e=>by simp at e
 | b :: bs,u :: us,0,v,.cons r t,e=>by
   simp at e; subst e
   exact ⟨b,rfl,r⟩
 | b :: bs,u :: us,i+1,v,.cons r t,e=>by
   obtain ⟨c,h1,h2⟩:=vals_bools t (by simpa using e)
   exact ⟨c,by simpa using h1,h2⟩
theorem range_allB:∀ (bs:List Bool),((List.range bs.length).all fun i=>(bs[i]?).getD true)=bs.all id
 | []=>rfl
 | b :: bs=>by
   rw [List.length_cons,List.range_succ_eq_map,List.all_cons,List.all_map,List.all_cons,← range_allB bs]
   rfl
theorem kept_it {s:Shared} {h':Heap} {o:Obj} (hk:∀ b x,b∉[s.heap.objs.size]→(s.heap.push o).get? b=some x→h'.get? b=some x):∀ b x,s.heap.get? b=some x→h'.get? b=some x :=
 fun b x e=>hk b x (fun hm=>by rw [List.mem_singleton.mp hm] at e; exact Nat.lt_irrefl _ (Heap.lt_size e)) (Heap.get?_push_of_some _ e)
theorem call_allB (hc:X.calm=true):CallR X (.builtin "all") (fun xs H Q=>∃ (p:Addr) (bs:List Bool),xs=[.ref p]∧SqL X.K H p (bs.map V.bl)∧Q (.bl (bs.all id)) H):=by
 intro pins s σ H xs us Q I r h
 obtain ⟨p,bs,rfl,hq,q⟩:=h
 cases r with
 | cons rx r =>
   cases r
   cases (show _=Value.ref p from rx)
   obtain ⟨its,rv,pl,hz⟩:=I.list hq
   have hl:=pl.isList
   have hlt:p < s.heap.objs.size:=by obtain ⟨_,e,_⟩:=hl; exact Heap.lt_size e
   have hh:X.A.handled=none:=I.ok.hd hc
   refine call_all_walk (wpAny_pyIter_list hl ?_)
   refine ⟨s.heap.objs.size,[s.heap.objs.size,p],[s.heap.objs.size],its.toArray.size,_,_,fun i=>(bs[i]?).getD true,rfl,Walks.list (A:=X.A.in1) hh _ p (Nat.ne_of_lt hlt) its.toArray,
    ⟨⟨_,Heap.get?_push_size _ rfl,rfl,rfl⟩,hl.push _⟩,fun i v s' Q' E' hP hQ=>?_,fun h' tk hk=>?_⟩
   · obtain ⟨b,e,rfl⟩:=vals_bools rv (show its[i]? = some v by simpa using hP)
     simp only [e,Option.getD_some] at hQ
     exact wpAny_truthy_bool hQ
   · have e:((List.range its.toArray.size).all fun i=>(bs[i]?).getD true)=bs.all id:=by
      rw [List.size_toArray,← rv.length,List.length_map]; exact range_allB bs
     rw [e]
     exact ⟨.bl _,H,I.kept (kept_it hk),rfl,q⟩
def rCountB:V→List V→Hp→VK→Prop:=fun x vs H Q=>∃ (l:Addr) (bs:List Bool) (c:Bool),x=.ref l∧vs=[.bl c]∧H l=some (.lst (bs.map V.bl))∧Q (.int (bs.countP (· == c):Nat)) H
theorem count_eqU {c:Bool}:∀ {bs:List Bool} {us:List Value},Vals (bs.map V.bl) us→us.countP (eqU (.bl c))=bs.countP (· == c)
 | [],_,.nil=>rfl
 | b :: bs,u :: us,.cons r t=>by
   rw [List.countP_cons,List.countP_cons,count_eqU t,eqU_of r rfl]
   rfl
theorem all_flat:∀ (bs:List Bool),(bs.map V.bl).all flatV=true
 | []=>rfl
 | _ :: bs=>by rw [List.map_cons,List.all_cons,all_flat bs]; rfl
theorem mt_countB:MtR X "list.count" rCountB:=by
 intro pins s σ H x vs v us Q I rx rv h
 obtain ⟨l,bs,c,rfl,rfl,hH,q⟩:=h
 cases rx
 obtain ⟨u,rfl,ru⟩:=rv.one
 obtain ⟨its,n,r,e,hz⟩:=I.lst hH
 refine call_meets F.slot_list_count ⟨_,e,rfl⟩ F.entry_list_count (F.args_list_count_2 _ _) (SeqAt.list_countAt l its.toArray n none #[] u (eqU (.bl c))) ⟨e,fun y hy=>mem_eqAt ru rfl r (all_flat bs) y (by simpa using hy),?_⟩
 refine ⟨.int _,H,I.tok _,⟨_,rfl⟩,?_⟩
 have z:(its.toArray.toList.countP (eqU (.bl c)))=bs.countP (· == c):=count_eqU r
 rw [z]
 exact q
end
structure Cal (P:Program) (w:World) (K:PySem.W.Frag) (mg:Str→Option Value) (base:Heap) (x:Str) (k:Nat) (ps:List Str) (sp:Sp):Prop where
 ex:∃ (f:Addr) (fd:FuncData),FnOk P w K mg base CX0 k f fd ps sp∧mg x=some (.ref f)∧PySem.W.keepIn K (.ref f)=true∧Binds K fd ps []
theorem pe_cal {X:Cx} {x:Str} {k j:Nat} {ps:List Str} {sp:Sp} {p pos:Pos} {e:Expr} {es:List Expr} {t:TA} (C:Cal X.prog X.w X.K X.mg X.base x k ps sp) (hr:Room j X.A) (hj:k≤j) (hg:Gl X x) (ha:PA X (e :: es) t)
 (hdb:(x == ("__debug__" : Str))=false:=by decide) (he:starEach (e :: es) X.env=(false,eval e X.env) :: starEach es X.env:=by rfl) (hpl:(backTo pos (starEach es X.env)).any (·.1)=false:=by rfl) :
 PE X (.Call (.Name x p) (e :: es) [] pos) (fun σ H Q=>t σ H fun vs H1=>sp vs H1 Q E0):=by
 obtain ⟨f,fd,F,hm,hk,hb⟩:=C.ex
 have h:=pe_call (dvs:=[]) (E:=E0) (p:=p) F (hr.mono hj) hg hm hk hb .nil pass0 ha hdb he hpl
 intro pins s σ H Q I hw
 refine h pins s σ H Q I ?_
 unfold tCall
 simpa only [List.append_nil] using hw
end L2
namespace L2
open PySem PySem.Spec PyProof.Rows
structure FunD (K:PySem.W.Frag) (x qual:Str) (st:Stmt) (f:Addr) (fd:FuncData):Prop where
 ex:∃ (oc:Value) (od:Option Addr) (dV kV doc pm:Value) (an:Option Addr) (cdv ct:Value) (osl:Array (Option Value)),
  fd=PySem.W.fnOf x qual (defArgs st) (defBody st) (defScope st) dV kV doc pm an cdv ct∧K.lookup f=some ⟨oc,od,.func fd,osl⟩∧PySem.W.codeIn K cdv qual=true
 kp:PySem.W.keepIn K (.ref f)=true
section
variable {P:Program} {w:World} {K:PySem.W.Frag} {mg:Str→Option Value} {base:Heap}
theorem funD_mk {x qual:Str} {st:Stmt} {f:Addr} {oc:Value} {od an:Option Addr} {osl:Array (Option Value)} {dV kV doc pm cdv ct:Value} (l:K.lookup f=some ⟨oc,od,.func (PySem.W.fnOf x qual (defArgs st) (defBody st) (defScope st) dV kV doc pm an cdv ct),osl⟩)
 (c:PySem.W.codeIn K cdv qual=true) (k:PySem.W.keepIn K (.ref f)=true):FunD K x qual st f (PySem.W.fnOf x qual (defArgs st) (defBody st) (defScope st) dV kV doc pm an cdv ct):=⟨⟨oc,od,dV,kV,doc,pm,an,cdv,ct,osl,rfl,l,c⟩,k⟩
end
def Keep (l:Addr) (H H':Hp):Prop:=∀ b o,b≠l→H b=some o→H' b=some o
theorem Keep.trans {l:Addr} {H H1 H2:Hp} (a:Keep l H H1) (b:Keep l H1 H2):Keep l H H2:=fun c o n h=>b c o n (a c o n h)
theorem Keep.new {l p:Addr} {H:Hp} {o:HO} (h:H p=none):Keep l H (upd H p o):=fun b u _ e=>by rw [upd_ne (ne_of_none e h)]; exact e
theorem Keep.upd {l:Addr} {H:Hp} {o:HO}:Keep l H (upd H l o):=fun b u n e=>by rw [upd_ne n]; exact e
theorem Same.new {p:Addr} {H:Hp} {o:HO} (h:H p=none):Same H (upd H p o):=fun b u e=>by rw [upd_ne (ne_of_none e h)]; exact e
theorem Same.keep {l:Addr} {H H':Hp} (s:Same H H'):Keep l H H':=fun b o _ e=>s b o e
end L2
namespace L2
open PySem PySem.Spec PyProof.Rows
theorem sum_shown:∀ (xs:List PyData),(PyData.shownAll xs).length=xs.length
 | []=>rfl
 | _ :: xs=>by simp only [PyData.shownAll,List.length_cons,sum_shown xs]
section
variable {X:Cx}
end
end L2
namespace L2
open PySem PySem.Spec PyProof.Rows
end L2
namespace L2
open PySem PySem.Spec PyProof.Rows
mutual
inductive Dt (N:Addr→Prop) (H:Hp) (k:Nat):V→PyData→Prop
 | non:Dt N H k .non .none
 | bl (b:Bool):Dt N H k (.bl b) (.bool b)
 | int {i:Int}:i.natAbs < 2 ^ k→Dt N H k (.int i) (.int i)
 | str (x:Str):Dt N H k (.str x) (.str x)
 | tup {a:Addr} {xs:List V} {ds:List PyData}:H a=some (.tup xs)→Dts N H k xs ds→Dt N H k (.ref a) (.tuple ds)
 | lst {a:Addr} {xs:List V} {ds:List PyData}:H a=some (.lst xs)→¬ N a→a≠sysModules→Dts N H k xs ds→Dt N H k (.ref a) (.list ds)
 | dic {a:Addr}:H a=some (.dK [])→Dt N H k (.ref a) (.dict [])
inductive Dts (N:Addr→Prop) (H:Hp) (k:Nat):List V→List PyData→Prop
 | nil:Dts N H k [] []
 | cons {x:V} {xs:List V} {d:PyData} {ds:List PyData}:Dt N H k x d→Dts N H k xs ds→Dts N H k (x :: xs) (d :: ds)
end
variable {N:Addr→Prop} {k:Nat}
mutual
theorem Dt.reads {X:Cx} {pins:List (Addr×Obj)} {σ:St} {H:Hp} {s:Shared} (I:Inv X pins σ H s):∀ {v:V} {d:PyData} {u:Value},Dt N H k v d→RelV v u→∃ as,Reads s.heap u d as∧sysModules∉as
 | _,_,_,.non,r=>by cases r; exact ⟨_,.none,by simp⟩
 | _,_,_,.bl b,r=>by cases r; exact ⟨_,.bool b,by simp⟩
 | _,_,_,.int (i:=i) _,r=>by obtain ⟨t,rfl⟩:=r; exact ⟨_,.int i t,by simp⟩
 | _,_,_,.str x,r=>by obtain ⟨t,rfl⟩:=r; exact ⟨_,.str x t,by simp⟩
 | _,_,_,.tup (a:=a) (xs:=xs) h rs,r=>by
   cases r
   obtain ⟨_,its,rv,o,e,hc,n,hd⟩:=(show ObjOk X.prog X.w H s.heap a (.tup xs) from I.hok a _ h)
   obtain ⟨as,ra,na⟩:=Dts.reads I rs rv
   exact ⟨_,.tuple e hc hd (by simpa using ra),na⟩
 | _,_,_,.lst (a:=a) (xs:=xs) h _ ns rs,r=>by
   cases r
   obtain ⟨_,its,n,rv,e⟩:=(show ObjOk X.prog X.w H s.heap a (.lst xs) from I.hok a _ h)
   obtain ⟨as,ra,na⟩:=Dts.reads I rs rv
   exact ⟨_,.list e rfl rfl (by simpa using ra),by
    intro hm
    rcases List.mem_cons.mp hm with e | e
    · exact ns e.symm
    · exact na e⟩
 | _,_,_,.dic (a:=a) h,r=>by
   cases r
   obtain ⟨_,hS,vs,rel,o,es,ep,e,ex,hd,_,he,_⟩:=(show ObjOk X.prog X.w H s.heap a (.dK []) from I.hok a _ h)
   cases rel
   have hes:es.toList=[]:=by
    generalize es.toList=z at he
    cases he
    rfl
   refine ⟨_,.dict (kvs:=[]) (as:=[]) (bs:=[]) e ex.1 hd (by rw [hes]; exact .nil) (by rw [hes]; exact .nil),?_⟩
   intro hm
   have:sysModules=a:=by simpa using hm
   rw [this] at hS
   simp at hS
theorem Dts.reads {X:Cx} {pins:List (Addr×Obj)} {σ:St} {H:Hp} {s:Shared} (I:Inv X pins σ H s):∀ {vs:List V} {ds:List PyData} {us:List Value},Dts N H k vs ds→Vals vs us→∃ as,ReadsAll s.heap us ds as∧sysModules∉as
 | _,_,_,.nil,.nil=>⟨_,.nil,by simp⟩
 | _,_,_,.cons r rs,.cons q qs=>by
   obtain ⟨as,ra,na⟩:=Dt.reads I r q
   obtain ⟨bs,rb,nb⟩:=Dts.reads I rs qs
   exact ⟨_,.cons ra rb,by
    intro hm
    rcases List.mem_append.mp hm with e | e
    · exact na e
    · exact nb e⟩
end
mutual
theorem Dt.same {H H':Hp} (s:Same H H'):∀ {v:V} {d:PyData},Dt N H k v d→Dt N H' k v d
 | _,_,.non=>.non
 | _,_,.bl b=>.bl b
 | _,_,.int h=>.int h
 | _,_,.str x=>.str x
 | _,_,.tup h r=>.tup (s _ _ h) (Dts.same s r)
 | _,_,.lst h n m r=>.lst (s _ _ h) n m (Dts.same s r)
 | _,_,.dic h=>.dic (s _ _ h)
theorem Dts.same {H H':Hp} (s:Same H H'):∀ {vs:List V} {ds:List PyData},Dts N H k vs ds→Dts N H' k vs ds
 | _,_,.nil=>.nil
 | _,_,.cons r rs=>.cons (Dt.same s r) (Dts.same s rs)
end
mutual
theorem Dt.keep {H H':Hp} {l:Addr} {ys:List V} (hN:N l) (hl:H l=some (.lst ys)) (s:Keep l H H'):∀ {v:V} {d:PyData},Dt N H k v d→Dt N H' k v d
 | _,_,.non=>.non
 | _,_,.bl b=>.bl b
 | _,_,.int h=>.int h
 | _,_,.str x=>.str x
 | _,_,.tup h r=>.tup (s _ _ (ne_of h hl (by intro z; cases z)) h) (Dts.keep hN hl s r)
 | _,_,.lst h n m r=>.lst (s _ _ (fun z=>n (z ▸ hN)) h) n m (Dts.keep hN hl s r)
 | _,_,.dic h=>.dic (s _ _ (ne_of h hl (by intro z; cases z)) h)
theorem Dts.keep {H H':Hp} {l:Addr} {ys:List V} (hN:N l) (hl:H l=some (.lst ys)) (s:Keep l H H'):∀ {vs:List V} {ds:List PyData},Dts N H k vs ds→Dts N H' k vs ds
 | _,_,.nil=>.nil
 | _,_,.cons r rs=>.cons (Dt.keep hN hl s r) (Dts.keep hN hl s rs)
end
mutual
theorem Dt.up {H:Hp} {k':Nat} (hk:k≤k'):∀ {v:V} {d:PyData},Dt N H k v d→Dt N H k' v d
 | _,_,.non=>.non
 | _,_,.bl b=>.bl b
 | _,_,.int h=>.int (Nat.lt_of_lt_of_le h (Nat.pow_le_pow_right (by decide) hk))
 | _,_,.str x=>.str x
 | _,_,.tup h r=>.tup h (Dts.up hk r)
 | _,_,.lst h n m r=>.lst h n m (Dts.up hk r)
 | _,_,.dic h=>.dic h
theorem Dts.up {H:Hp} {k':Nat} (hk:k≤k'):∀ {vs:List V} {ds:List PyData},Dts N H k vs ds→Dts N H k' vs ds
 | _,_,.nil=>.nil
 | _,_,.cons r rs=>.cons (Dt.up hk r) (Dts.up hk rs)
end
theorem Dts.app {H:Hp}:∀ {xs ys:List V} {ds es:List PyData},Dts N H k xs ds→Dts N H k ys es→Dts N H k (xs++ys) (ds++es)
 | _,_,_,_,.nil,h=>h
 | _,_,_,_,.cons r rs,h=>.cons r (Dts.app rs h)
theorem Dts.len {H:Hp}:∀ {xs:List V} {ds:List PyData},Dts N H k xs ds→xs.length=ds.length
 | _,_,.nil=>rfl
 | _,_,.cons _ rs=>by rw [List.length_cons,List.length_cons,Dts.len rs]
theorem Dts.take {H:Hp}:∀ {xs:List V} {ds:List PyData} (n:Nat),Dts N H k xs ds→Dts N H k (xs.take n) (ds.take n)
 | _,_,0,_=>by rw [List.take_zero,List.take_zero]; exact .nil
 | _,_,_+1,.nil=>.nil
 | _,_,n+1,.cons r rs=>by rw [List.take_succ_cons,List.take_succ_cons]; exact .cons r (Dts.take n rs)
theorem Dts.drop {H:Hp}:∀ {xs:List V} {ds:List PyData} (n:Nat),Dts N H k xs ds→Dts N H k (xs.drop n) (ds.drop n)
 | _,_,0,h=>h
 | _,_,_+1,.nil=>.nil
 | _,_,n+1,.cons r rs=>by rw [List.drop_succ_cons,List.drop_succ_cons]; exact Dts.drop n rs
theorem Dts.rev {H:Hp}:∀ {xs:List V} {ds:List PyData},Dts N H k xs ds→Dts N H k xs.reverse ds.reverse
 | _,_,.nil=>.nil
 | _,_,.cons r rs=>by rw [List.reverse_cons,List.reverse_cons]; exact Dts.app (Dts.rev rs) (.cons r .nil)
theorem Dts.get {H:Hp}:∀ {xs:List V} {ds:List PyData} {n:Nat} {v:V},Dts N H k xs ds→xs[n]? = some v→∃ d,ds[n]? = some d∧Dt N H k v d
 | _,_,_,_,.nil,h=>by simp at h
 | _,_,0,_,.cons r rs,h=>by simp at h; subst h; exact ⟨_,rfl,r⟩
 | _,_,n+1,_,.cons r rs,h=>by
   obtain ⟨d,e,q⟩:=Dts.get rs (by simpa using h)
   exact ⟨d,by simpa using e,q⟩
mutual
def nz:PyData→Nat
 | .none=>1
 | .bool _=>1
 | .int _=>1
 | .str x=>(reprText x).length
 | .list xs=>1+nzAll xs
 | .tuple xs=>1+nzAll xs
 | .dict _=>1
def nzAll:List PyData→Nat
 | []=>0
 | x :: xs=>nz x+1+nzAll xs
end
theorem nzAll_app (xs ys:List PyData):nzAll (xs++ys)=nzAll xs+nzAll ys:=by
 induction xs with
 | nil=>simp [nzAll]
 | cons x xs ih=>simp only [List.cons_append,nzAll,ih]; omega
theorem nzAll_rev (xs:List PyData):nzAll xs.reverse=nzAll xs:=by
 induction xs with
 | nil=>rfl
 | cons x xs ih=>rw [List.reverse_cons,nzAll_app,ih]; simp only [nzAll]; omega
theorem nzAll_take (n:Nat) (xs:List PyData):nzAll (xs.take n)≤nzAll xs:=by
 have:=nzAll_app (xs.take n) (xs.drop n)
 rw [List.take_append_drop] at this
 omega
theorem nzAll_drop (n:Nat) (xs:List PyData):nzAll (xs.drop n)≤nzAll xs:=by
 have:=nzAll_app (xs.take n) (xs.drop n)
 rw [List.take_append_drop] at this
 omega
theorem depthAll_app (xs ys:List PyData):PyData.depthAll (xs++ys)=max (PyData.depthAll xs) (PyData.depthAll ys):=by
 induction xs with
 | nil=>simp [PyData.depthAll]
 | cons x xs ih=>simp only [List.cons_append,PyData.depthAll,ih]; omega
theorem depthAll_rev (xs:List PyData):PyData.depthAll xs.reverse=PyData.depthAll xs:=by
 induction xs with
 | nil=>rfl
 | cons x xs ih=>rw [List.reverse_cons,depthAll_app,ih]; simp only [PyData.depthAll]; omega
theorem depthAll_take (n:Nat) (xs:List PyData):PyData.depthAll (xs.take n)≤PyData.depthAll xs:=by
 have:=depthAll_app (xs.take n) (xs.drop n)
 rw [List.take_append_drop] at this
 omega
theorem depthAll_drop (n:Nat) (xs:List PyData):PyData.depthAll (xs.drop n)≤PyData.depthAll xs:=by
 have:=depthAll_app (xs.take n) (xs.drop n)
 rw [List.take_append_drop] at this
 omega
theorem log2_small {i:Int} {n:Nat} (h:i.natAbs < 2 ^ n) (hn:n < 1920):i.natAbs.log2 < 1920:=by
 rcases Nat.eq_zero_or_pos n with rfl | hp
 · have:i.natAbs=0:=by simpa using h
   rw [this]; decide
 · by_cases h0:i.natAbs=0
   · rw [h0]; decide
   · exact Nat.lt_trans ((Nat.log2_lt h0).mpr h) hn
mutual
theorem Dt.showable {H:Hp} (hk:k < 1920):∀ {v:V} {d:PyData},Dt N H k v d→d.showable=true
 | _,_,.non=>rfl
 | _,_,.bl b=>rfl
 | _,_,.int h=>decide_eq_true (log2_small h hk)
 | _,_,.str x=>rfl
 | _,_,.tup h r=>Dts.showable hk r
 | _,_,.lst h n m r=>Dts.showable hk r
 | _,_,.dic h=>rfl
theorem Dts.showable {H:Hp} (hk:k < 1920):∀ {vs:List V} {ds:List PyData},Dts N H k vs ds→PyData.showableAll ds=true
 | _,_,.nil=>rfl
 | _,_,.cons r rs=>by
   show (_ && _)=true
   rw [Dt.showable hk r,Dts.showable hk rs]; rfl
end
mutual
theorem Dt.shownLen {H:Hp} (hk:k < 1920):∀ {v:V} {d:PyData},Dt N H k v d→d.shown.length≤2000 * nz d
 | _,_,.non=>by decide +kernel
 | _,_,.bl true=>by decide +kernel
 | _,_,.bl false=>by decide +kernel
 | _,_,.int (i:=i) h=>by
   have:=int_text_length_le (by decide) (log2_small h hk)
   show (Str.ofString (toString i)).length≤2000 * 1
   rw [PySem.ofString_length]
   omega
 | _,_,.str x=>by
   show (reprText x).length≤2000 * (reprText x).length
   omega
 | _,_,.tup (ds:=ds) h r=>by
   have:=Dts.shownLen hk r
   have z:=tupleText_len_le (PyData.shownAll ds)
   rw [sum_shown] at z
   show (tupleText (PyData.shownAll ds)).length≤2000 * (1+nzAll ds)
   omega
 | _,_,.lst (ds:=ds) h n m r=>by
   have:=Dts.shownLen hk r
   have z:=listText_len_le (PyData.shownAll ds)
   rw [sum_shown] at z
   show (listText (PyData.shownAll ds)).length≤2000 * (1+nzAll ds)
   omega
 | _,_,.dic h=>by decide +kernel
theorem Dts.shownLen {H:Hp} (hk:k < 1920):∀ {vs:List V} {ds:List PyData},Dts N H k vs ds→((PyData.shownAll ds).map (·.length)).sum+2 * ds.length≤2000 * nzAll ds
 | _,_,.nil=>by simp [PyData.shownAll,nzAll]
 | _,_,.cons r rs=>by
   have a:=Dt.shownLen hk r
   have b:=Dts.shownLen hk rs
   simp only [PyData.shownAll,nzAll,List.map_cons,List.sum_cons,List.length_cons]
   omega
end
section
variable {X:Cx}
theorem call_reprD {j:Nat} (hr:Room j X.A):CallR X (.builtin "repr") (fun xs H Q=>∃ N k v d,xs=[v]∧Dt N H k v d∧k < 1920∧d.depth≤20∧nz d≤8000∧Q (.str d.shown) H):=by
 intro pins s σ H xs us Q I r h
 obtain ⟨N,k,v,d,rfl,rd,hk,h3,h4,q⟩:=h
 have h1:=rd.showable hk
 have hz:d.shown.length≤sizeLine:=by
  have:=rd.shownLen hk
  have e:sizeLine=16777216:=sizeLine_eq
  omega
 cases r with
 | cons rx r =>
   cases r
   have hu:=hr.un
   have R:=Dt.reads I rd rx
   have go:∀ a,RelV v (Value.ref a)→wpAny (model X.prog X.w) X.A (call (.builtin "repr") [Value.ref a]) (EP X pins σ Q) X.xe s:=fun a rx=>by
    obtain ⟨as,ra,na⟩:=Dt.reads I rd rx
    exact repr_of_reads' ra h1 (fun _=>na) hr.gd (by omega) (fun _ _ e=>e) (fun h' u tk hk=>⟨.str _,H,I.kept hk,⟨_,rfl⟩,q⟩) hz
   cases rd with
   | non=>cases (show _=Value.none from rx); exact PySem.P.repr_of_none ⟨.str _,H,I.tok _,⟨_,rfl⟩,q⟩
   | bl b=>cases (show _=Value.bool b from rx); exact PySem.P.repr_of_bool ⟨.str _,H,I.tok _,⟨_,rfl⟩,q⟩
   | int hi=>obtain ⟨t,rfl⟩:=(show ∃ t,_=Value.int _ t from rx); exact PySem.P.repr_of_int (log2_small hi hk) ⟨.str _,H,I.tok _,⟨_,rfl⟩,q⟩
   | str x=>obtain ⟨t,rfl⟩:=(show ∃ t,_=Value.str x t from rx); exact PySem.P.repr_of_str ⟨.str _,H,I.tok _,⟨_,rfl⟩,q⟩ hz
   | tup h rs=>cases (show _=Value.ref _ from rx); exact go _ rx
   | lst h n m rs=>cases (show _=Value.ref _ from rx); exact go _ rx
   | dic h=>cases (show _=Value.ref _ from rx); exact go _ rx
end
end L2
namespace HT
open PySem PyProof.Rows
section
variable {prog:Program} {w:World} {A:Around} {E:Value→Shared→Prop} {s:Shared}
theorem adjust_back (n:Nat):Builtin.Slice.sliceAdjust none none (-1) (n:Int)=((n:Int) - 1,-1):=by
 unfold Builtin.Slice.sliceAdjust
 simp
theorem places_back (n:Nat):Builtin.Slice.slicePlaces ((n:Int) - 1) (-1) (-1)=n:=by
 unfold Builtin.Slice.slicePlaces
 have h1:¬ ((-1:Int) > 0):=by omega
 simp only [h1,if_false]
 split
 · rw [show -(-1:Int)=1 by decide,Int.ediv_one]; omega
 · omega
theorem sliceApplied_back {sl:Addr} {n:Nat} {t:Tok} {Q:Int×Int×Nat→Shared→Prop} (hs:s.heap.IsSliceOf sl .none .none (.int (-1) t))
 (h:Q ((n:Int) - 1,-1,n) s):wpAny (model prog w) A (Builtin.Slice.sliceApplied (.ref sl) (pure (n:Int))) Q E s:=by
 obtain ⟨os,hos,hcs,hds⟩:=id hs
 unfold Builtin.Slice.sliceApplied Builtin.Slice.sliceFields
 refine wpAny_bind (wpAny_bind (wpAny_field hos hds (x:=.none) rfl (wpAny_bind (wpAny_field hos hds (x:=.none) rfl (wpAny_bind (wpAny_field hos hds (x:=.int (-1) t) rfl (wpAny_pure ?_)))))))
 refine wpAny_bind (slicePart_int ?_)
 show wpAny _ _ (if ((-1:Int) == 0)=true then _ else _) _ _ s
 rw [if_neg (by decide)]
 refine wpAny_bind (slicePart_none (wpAny_bind (slicePart_none (wpAny_bind (wpAny_pure ?_)))))
 show wpAny _ _ (match Builtin.Slice.sliceAdjust none none (-1) (n:Int) with | (lo,hi)=>pure (lo,(-1:Int),Builtin.Slice.slicePlaces lo hi (-1))) _ _ s
 rw [adjust_back n]
 show wpAny _ _ (pure ((n:Int) - 1,(-1:Int),Builtin.Slice.slicePlaces ((n:Int) - 1) (-1) (-1))) _ _ s
 rw [places_back]
 exact wpAny_pure h
theorem fm_all {α β:Type} (f:α→Option β) (g:α→β):∀ (xs:List α),(∀ x∈xs,f x=some (g x))→xs.filterMap f=xs.map g
 | [],_=>rfl
 | x :: xs,h=>by
   rw [List.filterMap_cons,h x (List.mem_cons_self ..),fm_all f g xs (fun y hy=>h y (List.mem_cons_of_mem _ hy))]
   rfl
theorem pick_back (xs:Array Value):((List.range xs.size).filterMap fun (m:Nat)=>xs[(((xs.size:Int) - 1)+(m:Int) * (-1)).toNat]?).toArray=xs.toList.reverse.toArray:=by
 congr 1
 refine List.ext_getElem? fun i=>?_
 have e:((List.range xs.size).filterMap fun (m:Nat)=>xs[(((xs.size:Int) - 1)+(m:Int) * (-1)).toNat]?)=(List.range xs.size).map (fun m=>xs.getD (xs.size - 1 - m) .none):=by
  refine fm_all _ _ _ fun m hm=>?_
  have hm':m < xs.size:=List.mem_range.mp hm
  have z:(((xs.size:Int) - 1)+(m:Int) * (-1)).toNat=xs.size - 1 - m:=by omega
  have hlt:xs.size - 1 - m < xs.size:=by omega
  rw [z,Array.getElem?_eq_getElem hlt,Array.getD,dif_pos hlt]
  rfl
 rw [e,List.getElem?_map]
 by_cases hi:i < xs.size
 · have hlt:xs.size - 1 - i < xs.size:=by omega
   rw [List.getElem?_range hi,List.getElem?_reverse (by simpa using hi),Array.length_toList,Array.getElem?_toList,Array.getElem?_eq_getElem hlt]
   show some (xs.getD (xs.size - 1 - i) .none)=_
   rw [Array.getD,dif_pos hlt]
   rfl
 · rw [List.getElem?_eq_none (by simpa using hi),List.getElem?_eq_none (by simpa using hi)]
   rfl
theorem getItem_tuple_back {t sl:Addr} {items:Array Value} {tk:Tok} {Q:Value→Shared→Prop} (ht:IsTup s.heap t items) (hs:s.heap.IsSliceOf sl .none .none (.int (-1) tk))
 (h:Q (.ref s.heap.objs.size) { s with heap:=s.heap.push { cls:=.type "tuple",data:=.seq items.toList.reverse.toArray } })
 (hsz:items.size≤sizeLine):wpAny (model prog w) A (getItem (.ref t) (.ref sl)) Q E s:=by
 have htake:sizeOk (.seq items.toList.reverse.toArray):=by
  show items.toList.reverse.toArray.size≤sizeLine
  rw [List.size_toArray,List.length_reverse,Array.length_toList]
  omega
 obtain ⟨os,hos,hcs,hds⟩:=id hs
 have hTs:s.TypeIs (.ref sl) "slice" := ⟨os,hos,hcs⟩
 unfold getItem
 try with_reducible refine wpAny_holding ?_
 first | refine wpAny_bind (wpAny_pure ?_) | skip
 refine wpAny_bind (wpAny_sequenceKey ht.typeIs (by decide) ?_)
 refine wpAny_bind (wpAny_callSpecial?_slot (name:=Str.ofString "__getitem__") ht.typeIs PyProof.Rows.slot_tuple_getitem
  (wpAny_call_entry PyProof.Rows.slot_tuple_getitem ht.typeIs entry_tuple_getitem ?_ (args_tuple_getitem _ _)))
 show wpAny _ _ (Builtin.Tuple.tupleItemsOf (.ref t) >>= _) _ _ s
 refine wpAny_bind (tupleItemsOf_ ht ?_)
 refine wpAny_bind (wpAny_typeOf hTs ?_)
 rw [if_pos (by decide)]
 refine wpAny_bind (sliceApplied_back hs ?_)
 have hno:¬ (((items.size:Int) - 1 == 0 && (-1:Int) == 1 && items.size == items.size)=true):=by
  intro q
  rw [Bool.and_eq_true,Bool.and_eq_true] at q
  exact absurd q.1.2 (by decide)
 show wpAny _ _ (if ((items.size:Int) - 1 == 0 && (-1:Int) == 1 && items.size == items.size)=true then _ else _) _ _ s
 rw [if_neg hno,pick_back]
 first
  | exact wpAny_bind (m:=Builtin.Tuple.tupleExact _) (wpAny_newObj_type (wpAny_pure ⟨_,rfl,wpAny_pure h⟩) htake)
  | exact wpAny_bind (m:=Builtin.Tuple.tupleExact _) (wpAny_newObj_type (wpAny_bind (wpAny_pure (wpAny_pure ⟨_,rfl,wpAny_pure h⟩))) htake)
  | exact wpAny_bind (wpAny_bind (m:=Builtin.Tuple.tupleExact _) (wpAny_newObj_type (wpAny_pure (wpAny_pure ⟨_,rfl,wpAny_pure h⟩)) htake))
  | exact wpAny_bind (wpAny_bind (m:=Builtin.Tuple.tupleExact _) (wpAny_newObj_type (wpAny_pure ⟨_,rfl,wpAny_pure h⟩) htake))
theorem getItem_tuple_whole {t sl:Addr} {items:Array Value} {vl vu:Value} {lo hi:Option Int} {Q:Value→Shared→Prop} (ht:IsTup s.heap t items) (hs:s.heap.IsSliceOf sl vl vu .none) (pl:IsPart vl lo) (pu:IsPart vu hi)
 (hw:sIx items.size 0 lo=0∧sIx items.size items.size hi=items.size)
 (h:Q (.ref t) s):wpAny (model prog w) A (getItem (.ref t) (.ref sl)) Q E s:=by
 obtain ⟨os,hos,hcs,hds⟩:=id hs
 have hTs:s.TypeIs (.ref sl) "slice" := ⟨os,hos,hcs⟩
 unfold getItem
 try with_reducible refine wpAny_holding ?_
 first | refine wpAny_bind (wpAny_pure ?_) | skip
 refine wpAny_bind (wpAny_sequenceKey ht.typeIs (by decide) ?_)
 refine wpAny_bind (wpAny_callSpecial?_slot (name:=Str.ofString "__getitem__") ht.typeIs PyProof.Rows.slot_tuple_getitem
  (wpAny_call_entry PyProof.Rows.slot_tuple_getitem ht.typeIs entry_tuple_getitem ?_ (args_tuple_getitem _ _)))
 show wpAny _ _ (Builtin.Tuple.tupleItemsOf (.ref t) >>= _) _ _ s
 refine wpAny_bind (tupleItemsOf_ ht ?_)
 refine wpAny_bind (wpAny_typeOf hTs ?_)
 rw [if_pos (by decide)]
 refine wpAny_bind (sliceApplied_gen hs pl pu ?_)
 rw [hw.1,hw.2]
 have hyes:(((0:Nat):Int) == 0 && (1:Int) == 1 && (items.size - 0) == items.size)=true:=by simp
 show wpAny _ _ (if (((0:Nat):Int) == 0 && (1:Int) == 1 && (items.size - 0) == items.size)=true then _ else _) _ _ s
 rw [if_pos hyes]
 have hx:(Builtin.Tuple.tupleIsExact (.ref t))=(do pure ((← typeOf (.ref t)) == .type "tuple")):=by first | rfl | (unfold Builtin.Tuple.tupleIsExact; rfl)
 rw [hx]
 refine wpAny_bind (wpAny_bind (wpAny_typeOf ht.typeIs (wpAny_pure ?_)))
 rw [if_pos (by decide)]
 exact wpAny_bind (wpAny_rule (wpAny_pure ⟨_,rfl,wpAny_pure h⟩))
end
end HT
namespace L2
open PySem PySem.Spec PyProof.Rows
section
variable {X:Cx} {e:Expr} {es:List Expr} {te:TE} {t:TA} {pos p2:Pos}
theorem vrev:∀ {xs:List V} {us:List Value},Vals xs us→Vals xs.reverse us.reverse:=by
 have app:∀ {xs ys:List V} {us ws:List Value},Vals xs us→Vals ys ws→Vals (xs++ys) (us++ws):=by
  intro xs ys us ws h1 h2
  induction h1 with
  | nil=>exact h2
  | cons r _ ih=>exact .cons r ih
 intro xs us h
 induction h with
 | nil=>exact .nil
 | cons r _ ih=>rw [List.reverse_cons,List.reverse_cons]; exact app ih (.cons r .nil)
def tSlBack (te:TE) (K:PySem.W.Frag):TE:=fun σ H Q=>te σ H fun x H1=>∃ a xs,x=.ref a∧SqT K H1 a xs∧∀ p,H1 p=none→Q (.ref p) (upd H1 p (.tup xs.reverse))
theorem pe_slback {st:Expr} (hst:PE X st (fun _ H Q=>Q (.int (-1)) H)) (he:PE X e te):PE X (.Subscript e (.Slice none none (some st) p2) pos) (tSlBack te X.K):=by
 intro pins s σ H Q I h
 refine Subscript_ (thn (he pins s σ H _ I h) fun v s1 ⟨x,H1,I1,r1,q1⟩=>?_)
 refine wpAny_Slice ?_
 rw [evalPart_none,evalPart_some]
 refine wpAny_pure (wpAny_pure ?_)
 obtain ⟨a,xs,rfl,hx,q⟩:=q1
 refine thn (hst pins s1 σ H1 (fun v H'=>v=.int (-1)∧H'=H1) I1 ⟨rfl,rfl⟩) fun u s3 ⟨y,H3,I3,ry,ey,eH⟩=>?_
 subst ey eH
 obtain ⟨tk,rfl⟩:=ry
 cases r1
 have I4:Inv X pins σ H3 { s3 with heap:=s3.heap.push { cls:=.type "slice",data:=.fields #[.none,.none,.int (-1) tk] } }:=I3.kept (t':=s3.toks) fun b ob q=>Heap.get?_push_of_some _ q
 obtain ⟨its,r,ht,hz⟩:=I4.tuple hx
 have hlen:its.toArray.size=xs.length:=by rw [List.size_toArray]; exact r.length.symm
 show wpAny (model X.prog X.w) X.A (subscriptTail e (.Slice none none (some st) p2) (.ref a) (.ref s3.heap.objs.size)) (EP X pins σ Q) X.xe { s3 with heap:=s3.heap.push { cls:=.type "slice",data:=.fields #[.none,.none,.int (-1) tk] } }
 refine tail_any (ops:=[.ref a,.ref s3.heap.objs.size]) ht.typeIs PyProof.Rows.slot_tuple_getitem.lookup ?_ (by with_unfolding_all rfl)
 refine HT.getItem_tuple_back ht (Heap.IsSliceOf.new ..) ?_ (by rw [hlen]; exact hz)
 refine ⟨.ref _,_,I4.laid (t':=s3.toks) (o:=.tup xs.reverse) (fun b ob q=>Heap.get?_push_of_some _ q) (Nat.le_refl _) ?_,rfl,q _ (I4.hok.fresh (Nat.le_refl _))⟩
 exact ⟨by rw [List.length_reverse]; exact hz,_,vrev r,IsTup.new _ _⟩
def rCatU:R2:=fun x y H Q=>∃ a b xs ys,x=.ref a∧y=.ref b∧H a=some (.tup xs)∧H b=some (.tup ys)∧xs.length+ys.length≤sizeLine∧∀ p H',Same H H'→H' p=some (.tup (xs++ys))→Q (.ref p) H'
theorem op_catU:OpR X (binaryOp .Add) rCatU:=by
 intro pins s σ H x y v u Q I rx ry h
 obtain ⟨a,b,xs,ys,rfl,rfl,ha,hb,hz,q⟩:=h
 cases rx
 cases ry
 obtain ⟨its,r1,p1,_⟩:=I.tuple (SqT.of ha)
 obtain ⟨its2,r2,p2,_⟩:=I.tuple (SqT.of hb)
 by_cases hx:xs=[]
 · subst hx
   have e:its=[]:=r1.nil_iff.mpr rfl
   subst e
   obtain ⟨⟨cls,dd,data,sl⟩,ho,hc,n,hd⟩:=id p1
   obtain ⟨⟨cls2,dd2,data2,sl2⟩,ho2,hc2,n2,hd2⟩:=id p2
   simp only at hc hd hc2 hd2
   subst hc hd hc2 hd2
   exact concat_meets ⟨_,ho,rfl⟩ ⟨_,ho2,rfl⟩ noFill_tuple_add seq_tuple_add PySem.F.slot_tuple_add PySem.F.entry_tuple_add (PySem.F.args_tuple_add_2 _ _)
    (tuple_addW0 a b _ its2.toArray n n2 dd dd2 sl sl2 (by simp)) ⟨ho,ho2,⟨.ref b,H,I,rfl,q b H (Same.refl H) hb⟩⟩
 · refine op_catT pins s σ H (.ref a) (.ref b) _ _ Q I rfl rfl ⟨a,b,xs,ys,rfl,rfl,SqT.of ha,SqT.of hb,hx,hz,?_,?_⟩
   · rintro rfl
     exact q a H (Same.refl H) (by rw [List.append_nil]; exact ha)
   · intro _ p hp
     exact q p _ (Same.new hp) upd_same
def rSlU:V→Option Int→Option Int→Hp→VK→Prop:=fun x lo hi H Q=>∃ a xs,x=.ref a∧H a=some (.tup xs)∧∀ p H',Same H H'→H' p=some (.tup (cutV xs lo hi))→Q (.ref p) H'
theorem sl_tupU:SlR X rSlU:=by
 intro pins s σ H x v vl vu lo hi sl Q I rx hs pl pu h
 obtain ⟨a,xs,rfl,hx,q⟩:=h
 by_cases hw:HT.sIx xs.length 0 lo=0∧HT.sIx xs.length xs.length hi=xs.length
 · cases rx
   obtain ⟨its,r,ht,hz⟩:=I.tuple (SqT.of hx)
   have hlen:its.toArray.size=xs.length:=by rw [List.size_toArray]; exact r.length.symm
   refine ⟨"tuple",_,PyProof.Rows.slot_tuple_getitem.lookup,ht.typeIs,?_⟩
   refine HT.getItem_tuple_whole ht hs pl pu (by rw [hlen]; exact hw) ⟨.ref a,H,I,rfl,q a H (Same.refl H) ?_⟩
   unfold cutV
   rw [hw.1,hw.2,List.drop_zero,Nat.sub_zero,List.take_length]
   exact hx
 · exact sl_tup pins s σ H _ _ vl vu lo hi sl Q I rx hs pl pu ⟨a,xs,rfl,SqT.of hx,hw,fun p hp=>q p _ (Same.new hp) upd_same⟩
def rNe0 (K:PySem.W.Frag):R2:=fun x y H Q=>∃ a b xs,x=.ref a∧y=.ref b∧SqT K H a xs∧SqT K H b []∧Q (.bl (!decide (xs=[]))) H
theorem op_ne0 (hu:X.A.units < cLine):OpR X (compareOp .NotEq) (rNe0 X.K):=by
 intro pins s σ H x y v u Q I rx ry h
 obtain ⟨a,b,xs,rfl,rfl,h1,h2,q⟩:=h
 cases rx; cases ry
 obtain ⟨us,r1,p1,_⟩:=I.tuple h1
 obtain ⟨ws,r2,p2,_⟩:=I.tuple h2
 have l1:=r1.length
 have e:ws=[]:=r2.nil_iff.mpr rfl
 subst e
 refine SeqAt.RcNeAt.tuples (e:=fun j=>true) p1 p2 hu (fun j h1 h2=>absurd h2 (by simp)) _ _ _ _ ⟨.bl _,H,I,rfl,?_⟩
 have z:(!((List.range (min us.toArray.size (([]:List Value).toArray).size)).all (fun _=>true) && us.toArray.size == (([]:List Value).toArray).size))=(!decide (xs=[])):=by
  rw [List.size_toArray,← l1]
  cases xs <;> simp
 rw [z]
 exact q
theorem pe_m1 {j:Nat} {pa pb:Pos}:PE X (.UnaryOp .USub (.Constant (.int 1) j pa) pb) (fun _ H Q=>Q (.int (-1)) H):=fun pins s σ H Q I h=>pe_un un_neg pe_int pins s σ H Q I ⟨1,rfl,h⟩
theorem pe_never:PE X e (fun _ _ _=>False):=fun _ _ _ _ _ _ h=>h.elim
theorem big_sys {pins:List (Addr×Obj)} {σ:St} {H:Hp} {s:Shared} (I:Inv X pins σ H s):sysModules < s.heap.objs.size:=by
 have h:mainGlobals < s.heap.objs.size:=(I.mod.glob.keeps I.bk).lt
 exact Nat.lt_trans (by decide) h
def tLstN (t:TA):TE:=fun σ H Q=>t σ H fun xs H1=>xs.length≤sizeLine∧∀ p,H1 p=none→p≠sysModules→Q (.ref p) (upd H1 p (.lst xs))
theorem pe_lstN (h:PA X es t):PE X (.List es pos) (tLstN t):=by
 intro pins s σ H Q I hq
 refine wpAny_List_spliced (thn (h pos pins s σ H _ I hq) fun us s1 ⟨xs,H1,I1,r,z,q⟩=>⟨by rw [← r.length]; exact z,?_⟩)
 have hf:H1 s1.heap.objs.size=none:=I1.hok.fresh (Nat.le_refl _)
 refine ⟨.ref s1.heap.objs.size,upd H1 s1.heap.objs.size (.lst xs),I1.laid (t':=s1.toks) (fun b u e=>Heap.get?_push_of_some _ e) (Nat.le_refl _) ?_,rfl,q _ hf (Nat.ne_of_gt (big_sys I1))⟩
 exact ⟨z,us,0,r,Heap.get?_push_size _ rfl⟩
theorem call_listN:CallR X (.type "list") (fun xs H Q=>∃ p ys,xs=[.ref p]∧(SqL X.K H p ys∨SqT X.K H p ys)∧∀ l,H l=none→l≠sysModules→Q (.ref l) (upd H l (.lst ys))):=by
 intro pins s σ H xs us Q I r h
 obtain ⟨p,ys,rfl,hq,q⟩:=h
 obtain ⟨u,rfl,rx⟩:=vals1 r
 cases rx
 have fin:∀ (its:List Value),Vals ys its→ys.length≤sizeLine→∀ (h':Heap) (c':Nat),(∀ b o',s.heap.get? b=some o'→h'.get? b=some o') →
  h'.get? s.heap.objs.size=some { cls:=.type "list",dict:=none,data:=.seq its.toArray c',slots:=#[] }→EP X pins σ Q (.ref s.heap.objs.size) { s with heap:=h' }:=fun its r' hz h' c' kp e =>
  ⟨.ref s.heap.objs.size,_,I.laid (t':=s.toks) kp (Nat.le_refl _) (show ObjOk X.prog X.w _ h' _ (.lst ys) from ⟨hz,its,c',r',e⟩),rfl,q _ (I.hok.fresh (Nat.le_refl _)) (Nat.ne_of_gt (big_sys I))⟩
 rcases hq with hq | hq
 · obtain ⟨its,r',pl,hz⟩:=I.list hq
   have hlen:=r'.length
   obtain ⟨o,ho,hc,n,hd⟩:=pl.isList
   exact call_list_seq p (.inl rfl) ho hc hd (fun h' c' kp e=>fin its r' hz h' c' kp e) (by simp only [List.size_toArray] <;> omega)
 · obtain ⟨its,r',pl,hz⟩:=I.tuple hq
   have hlen:=r'.length
   obtain ⟨o,ho,hc,n,hd⟩:=pl
   exact call_list_seq p (.inr rfl) ho hc hd (fun h' c' kp e=>fin its r' hz h' c' kp e) (by simp only [List.size_toArray] <;> omega)
def tDic0:TE:=fun _ H Q=>∀ p,H p=none→Q (.ref p) (upd H p (.dK []))
theorem pe_dic0:PE X (.Dict [] [] pos) tDic0:=fun pins s σ H Q I h =>
 wpAny_Dict_empty ⟨.ref s.heap.objs.size,_,I.laid (a:=s.heap.objs.size) (o:=.dK []) (t':=s.toks) (fun _ _ q=>Heap.get?_push_of_some _ q) (Nat.le_refl _)
  ⟨Nat.zero_le _,beq_eq_false_iff_ne.mpr (Ne.symm (Nat.ne_of_lt (big_sys I))),[],.nil,Heap.DictOf.new s.heap⟩,rfl,h _ (I.hok.fresh (Nat.le_refl _))⟩
end
theorem lc_tup {K:PySem.W.Frag} {a D:Addr} {xs:List V} {g:TG} {tt:TT} {te:TE} {σ0:St} {H:Hp} {Q:VK} (Pv:Nat→St→Hp→Prop) (h0:Pv 0 σ0 (upd H D (.lst []))) (hx:∀ i σ H,i≤xs.length→Pv i σ H→SqT K H a xs)
 (hs:∀ i x σ2 H2,xs[i]? = some x→Pv i σ2 H2→g x σ2 H2 fun σ4 H4=>tt σ4 H4 fun b H5=>if b=true then te σ4 H5 fun y H6=>∃ ys,H6 D=some (.lst ys)∧ys.length < sizeLine ∧
   ∃ m',m' < xs.length - i∧LcN xs.length Pv (i+1) m' σ4 (upd H6 D (.lst (ys++[y]))) else ∃ m',m' < xs.length - i∧LcN xs.length Pv (i+1) m' σ4 H5)
 (hd:∀ σ2 H2,Pv xs.length σ2 H2→Q (.ref D) H2) :
 LcGo (Itt K a) g tt te σ0 H D Q:=by
 refine ⟨LcN xs.length Pv,⟨_,Nat.zero_le _,rfl,h0⟩,?_⟩
 rintro i m σ2 H2 ⟨hi,rfl,p⟩
 have sq:=hx i σ2 H2 hi p
 by_cases hlt:i < xs.length
 · right
   refine ⟨⟨xs,xs[i],sq,List.getElem?_eq_getElem hlt⟩,?_⟩
   rintro x H3 ⟨rfl,hy⟩
   exact hs i x σ2 H3 (hy xs sq) p
 · left
   have e:i=xs.length:=by omega
   subst e
   exact ⟨⟨xs,sq,Nat.le_refl _⟩,hd σ2 H2 p⟩
end L2
namespace L2
open PySem PySem.Spec PyProof.Rows
def isI:PyData→Bool
 | .int _=>true
 | _=>false
def isT:PyData→Bool
 | .tuple _=>true
 | _=>false
def isFr:PyData→Bool
 | .tuple [.int a,.int b]=>decide (1≤b) && decide (Int.gcd a b=1)
 | _=>false
section
variable {K:PySem.W.Frag} {N:Addr→Prop} {k:Nat} {H:Hp} {v:V} {d:PyData}
theorem Dt.isI (h:Dt N H k v d):(∃ i,v=.int i∧d=.int i∧i.natAbs < 2 ^ k)∨L2.isI d=false:=by
 cases h with
 | int hi=>exact .inl ⟨_,rfl,rfl,hi⟩
 | _=>exact .inr rfl
theorem Dt.isT (h:Dt N H k v d):(∃ a xs ds,v=.ref a∧d=.tuple ds∧H a=some (.tup xs)∧Dts N H k xs ds)∨L2.isT d=false:=by
 cases h with
 | tup h r=>exact .inl ⟨_,_,_,rfl,rfl,h,r⟩
 | _=>exact .inr rfl
theorem Dt.ty (h:Dt N H k v d):∃ t,TyOf K H v t∧PySem.W.kitOne K t (.type "tuple")=some (L2.isT d):=by
 cases h with
 | non=>exact ⟨_,TyOf.non,rfl⟩
 | bl b=>exact ⟨_,TyOf.bl b,rfl⟩
 | int hi=>exact ⟨_,TyOf.int _,rfl⟩
 | str x=>exact ⟨_,TyOf.str x,rfl⟩
 | tup h r=>exact ⟨_,TyOf.tup h,rfl⟩
 | lst h n m r=>exact ⟨_,TyOf.lst h,rfl⟩
 | dic h=>exact ⟨_,TyOf.dK h,rfl⟩
theorem Dts.len0 {xs:List V} {ds:List PyData} (h:Dts N H k xs ds) (hl:xs.length≠2):L2.isFr (.tuple ds)=false:=by
 have e:=h.len
 match ds,e with
 | [],_=>rfl
 | [d],_=>cases d <;> rfl
 | [_,_],e=>exact absurd e hl
 | d :: d2 :: _ :: _,_=>cases d <;> cases d2 <;> rfl
theorem fr_1 {d e:PyData} (h:L2.isI d=false):L2.isFr (.tuple [d,e])=false:=by
 cases d <;> first | rfl | (cases h)
theorem fr_2 {d e:PyData} (h:L2.isI e=false):L2.isFr (.tuple [d,e])=false:=by
 cases d <;> cases e <;> first | rfl | (cases h)
theorem fr_low {i j:Int} (hj:0 < j):decide ([(Rat.divInt i j).num,((Rat.divInt i j).den:Int)]=[i,j])=(decide (1≤j) && decide (Int.gcd i j=1)):=by
 rw [decide_eq_true (show 1≤j by omega),Bool.true_and]
 refine decide_eq_decide.mpr ⟨fun h=>?_,fun h=>?_⟩
 · injection h with h1 h2
   injection h2 with h2 _
   have:=FM.gcd_one (Rat.divInt i j)
   rw [h1,h2] at this
   exact this
 · have hb:j≠0:=by omega
   have a:=FM.low_num (t:=i) hb
   have b:=FM.low_den (t:=i) hb
   rw [if_pos hj,h] at a
   rw [h] at b
   rw [← a,← b]
   have e1:Int.fdiv i ((1:Nat):Int)=i:=by simp
   have e2:Int.fdiv (j.natAbs:Int) ((1:Nat):Int)=j:=by
    rw [show ((1:Nat):Int)=1 from rfl,Int.fdiv_one]; omega
   rw [e1,e2]
theorem atI_mem {xs:List V} {r:Int} (h0:0≤r) (h1:r < xs.length):∃ v,atI xs r=some v∧v∈xs:=by
 obtain ⟨n,rfl⟩:=Int.eq_ofNat_of_zero_le h0
 have hn:n < xs.length:=by omega
 exact ⟨xs[n],atI_nat (List.getElem?_eq_getElem hn),List.getElem_mem hn⟩
def Dom (N:Addr→Prop) (H:Hp):Prop:=∀ b,N b→∃ o,H b=some o
theorem Dom.same {H':Hp} (h:Dom N H) (s:Same H H'):Dom N H':=fun b z=>let ⟨o,e⟩:=h b z; ⟨o,s b o e⟩
theorem Dom.keep {H':Hp} {l:Addr} {o:HO} (h:Dom N H) (s:Keep l H H') (hl:H' l=some o):Dom N H':=fun b z=>by
 by_cases e:b=l
 · subst e; exact ⟨_,hl⟩
 · obtain ⟨o,q⟩:=h b z; exact ⟨o,s b o e q⟩
theorem Dom.new {p:Addr} (h:Dom N H) (n:H p=none):¬ N p:=fun z=>by
 obtain ⟨o,e⟩:=h p z
 rw [n] at e; cases e
def Tg (N:Addr→Prop) (H:Hp) (k n m:Nat) (v:V):Prop:=∃ d,Dt N H k v d∧d.depth≤n∧nz d≤m
def Tgs (N:Addr→Prop) (H:Hp) (k n m:Nat) (xs:List V):Prop:=∀ v∈xs,Tg N H k n m v
variable {n m:Nat}
theorem Tg.same {H':Hp} (s:Same H H') (h:Tg N H k n m v):Tg N H' k n m v:=let ⟨d,a,b⟩:=h; ⟨d,a.same s,b⟩
theorem Tg.keep {H':Hp} {l:Addr} {ys:List V} (hN:N l) (hl:H l=some (.lst ys)) (s:Keep l H H') (h:Tg N H k n m v):Tg N H' k n m v:=let ⟨d,a,b⟩:=h; ⟨d,a.keep hN hl s,b⟩
theorem Tg.up {k' n' m':Nat} (h:Tg N H k n m v) (hk:k≤k') (hn:n≤n') (hm:m≤m'):Tg N H k' n' m' v:=let ⟨d,a,b,c⟩:=h; ⟨d,a.up hk,Nat.le_trans b hn,Nat.le_trans c hm⟩
theorem Tgs.nil:Tgs N H k n m []:=fun v h=>by cases h
theorem Tgs.cons {xs:List V} (h:Tg N H k n m v) (t:Tgs N H k n m xs):Tgs N H k n m (v :: xs):=fun w z=>by
 rcases List.mem_cons.mp z with rfl | z
 · exact h
 · exact t w z
theorem Tgs.app {xs ys:List V} (h:Tgs N H k n m xs) (t:Tgs N H k n m ys):Tgs N H k n m (xs++ys):=fun w z=>(List.mem_append.mp z).elim (h w) (t w)
theorem Tgs.same {H':Hp} {xs:List V} (s:Same H H') (h:Tgs N H k n m xs):Tgs N H' k n m xs:=fun v z=>(h v z).same s
theorem Tgs.keep {H':Hp} {l:Addr} {xs ys:List V} (hN:N l) (hl:H l=some (.lst ys)) (s:Keep l H H') (h:Tgs N H k n m xs):Tgs N H' k n m xs:=fun v z=>(h v z).keep hN hl s
theorem Tgs.up {xs:List V} {k' n' m':Nat} (h:Tgs N H k n m xs) (hk:k≤k') (hn:n≤n') (hm:m≤m'):Tgs N H k' n' m' xs:=fun v z=>(h v z).up hk hn hm
theorem cut_take (xs:List V) (r:Nat):cutV xs none (some (r:Int))=xs.take r:=by
 unfold cutV
 rw [HT.sIx_none,HT.sIx_nat,List.drop_zero,Nat.sub_zero]
 by_cases h:r≤xs.length
 · rw [Nat.min_eq_left h]
 · rw [Nat.min_eq_right (by omega),List.take_length,List.take_of_length_le (by omega)]
theorem cut_drop (xs:List V) (r:Nat):cutV xs (some (r:Int)) none=xs.drop r:=by
 unfold cutV
 rw [HT.sIx_none,HT.sIx_nat]
 by_cases h:r≤xs.length
 · rw [Nat.min_eq_left h,List.take_of_length_le (by rw [List.length_drop]; omega)]
 · rw [Nat.min_eq_right (by omega),List.drop_of_length_le (show xs.length≤r by omega)]
   simp
theorem Dts.cut {xs:List V} {ds:List PyData} (h:Dts N H k xs ds) (lo hi:Option Int):∃ es,Dts N H k (cutV xs lo hi) es∧nzAll es≤nzAll ds∧PyData.depthAll es≤PyData.depthAll ds:=by
 refine ⟨_,(h.drop _).take _,?_,?_⟩
 · exact Nat.le_trans (nzAll_take _ _) (nzAll_drop _ _)
 · exact Nat.le_trans (depthAll_take _ _) (depthAll_drop _ _)
theorem get_parts:∀ {ds:List PyData} {r:Nat} {d:PyData},ds[r]? = some d→nzAll ds=nzAll (ds.take r)+(nz d+1)+nzAll (ds.drop (r+1))∧d.depth≤PyData.depthAll ds
 | [],_,_,h=>by simp at h
 | x :: xs,0,d,h=>by
   simp at h; subst h
   refine ⟨by simp [nzAll],?_⟩
   simp only [PyData.depthAll]; omega
 | x :: xs,r+1,d,h=>by
   obtain ⟨a,b⟩:=get_parts (ds:=xs) (r:=r) (d:=d) (by simpa using h)
   refine ⟨?_,?_⟩
   · simp only [List.take_succ_cons,List.drop_succ_cons,nzAll]; omega
   · simp only [PyData.depthAll]; omega
theorem len_nz:∀ (ds:List PyData),ds.length≤nzAll ds
 | []=>Nat.le_refl _
 | x :: xs=>by have:=len_nz xs; simp only [List.length_cons,nzAll]; omega
end
end L2
namespace L2
open PySem PySem.Spec PyProof.Rows
section
variable {N:Addr→Prop} {k n m:Nat} {H:Hp} {p:Addr}
end
end L2
namespace L2
open PySem PySem.Spec PyProof.Rows
section
variable {X:Cx}
theorem mt_bits:MtR X "int.bit_length" (fun x vs H Q=>∃ i:Int,x=.int i∧vs=[]∧Q (.int (Builtin.Int.intBits i)) H):=by
 intro pins s σ H x vs v us Q I rx rv h
 obtain ⟨i,rfl,rfl,q⟩:=h
 obtain ⟨t,rfl⟩:=rx
 cases rv
 exact call_int_bit_length ⟨.int _,H,I.tok _,⟨_,rfl⟩,q⟩
theorem pe_gint {x:Str} {i:Int} {pos:Pos} (h:∃ t,X.mg x=some (.int i t)) (hg:Gl X x) (hd:(x == ("__debug__" : Str))=false:=by decide):PE X (.Name x pos) (tC (.int i)):=by
 obtain ⟨t,h⟩:=h
 exact pe_glob hg h ⟨t,rfl⟩ hd
end
end L2
namespace L2
open PySem PySem.Spec PyProof.Rows
section
variable {X:Cx} {pins:List (Addr×Obj)} {σ:List (Option V)} {H:Hp} {s:Shared} {h':Heap}
end
inductive SK where
 | l
 | t
section
variable {prog:Program} {w:World} {A:Around} {E:Value→Shared→Prop} {s:Shared}
end
end L2
namespace L2
open PySem PySem.Spec PyProof.Rows
open AutoSeq1 (wpAny_loadPart')
section
variable {prog:Program} {w:World} {A:Around} {E:Value→Shared→Prop} {s:Shared} {k:SK}
end
section
variable {X:Cx} {es:List Expr} {x1:Nat} {tp:Pos}
end
theorem lc_gen {J:It} {n:Nat} {D:Addr} {g:TG} {tt:TT} {te:TE} {σ0:St} {H:Hp} {Q:VK} (Pv:Nat→St→Hp→Prop) (h0:Pv 0 σ0 (upd H D (.lst [])))
 (hx:∀ i σ H,i < n→Pv i σ H→J.go i H) (hz:∀ σ H,Pv n σ H→J.stop n H)
 (hs:∀ i x σ2 H2 H3,i < n→J.yld i H2 x H3→Pv i σ2 H2→g x σ2 H3 fun σ4 H4=>tt σ4 H4 fun b H5=>if b=true then te σ4 H5 fun y H6=>∃ ys,H6 D=some (.lst ys)∧ys.length < sizeLine ∧
   ∃ m',m' < n - i∧LcN n Pv (i+1) m' σ4 (upd H6 D (.lst (ys++[y]))) else ∃ m',m' < n - i∧LcN n Pv (i+1) m' σ4 H5)
 (hd:∀ σ2 H2,Pv n σ2 H2→Q (.ref D) H2):LcGo J g tt te σ0 H D Q:=by
 refine ⟨LcN n Pv,⟨_,Nat.zero_le _,rfl,h0⟩,?_⟩
 rintro i m σ2 H2 ⟨hi,rfl,p⟩
 by_cases hlt:i < n
 · exact .inr ⟨hx i σ2 H2 hlt p,fun x H3 y=>hs i x σ2 H2 H3 hlt y p⟩
 · have e:i=n:=by omega
   subst e
   exact .inl ⟨hz σ2 H2 p,hd σ2 H2 p⟩
end L2
namespace L2
open PySem PySem.Spec PyProof.Rows
open AutoSeq1 (wpAny_loadPart')
section
variable {X:Cx} {pins:List (Addr×Obj)} {σ:List (Option V)} {H H':Hp} {s:Shared} {h':Heap}
theorem Inv.turnGen {t':Nat} {ch:List Addr} (I:Inv X pins σ H s) (k:∀ b u,b∉ch→s.heap.get? b=some u→h'.get? b=some u) (hf:∀ b∈ch,FpOk X pins H b)
 (old:∀ b u,H b=some u→H' b=some u) (non:∀ b u,s.heap.get? b=some u→H b=none→H' b=none) (new:∀ b u,H b=none→H' b=some u→ObjOk X.prog X.w H' h' b u):Inv X pins σ H' { s with heap:=h',toks:=t' }:=by
 have nc:∀ b u,H b=some u→b∉ch:=fun b u e z=>by rw [(hf b z).1] at e; cases e
 refine I.step (g':=s.gens) (d':=s.drawn) (ch:=ch) (fun b hb=>?_) (fun b u _ _ hc e _=>k b u hc e) (fun b u _ _ hc e _=>⟨u.slots,k b u hc e⟩) (fun b u _ e n=>non b u e n)
  (fun b u hc e=>⟨u,k b u hc e⟩) (fun b xs e=>old b _ e) (fun b u v e=>old b _ e) (fun b ps e=>⟨#[],by rw [old b _ e]; simp⟩) (fun m hm=>?_) (fun b u e=>?_) I.bare
 · obtain ⟨f0,f1,f2,f3,f4,f5⟩:=hf b hb
   exact ⟨f3,f1,f4,f5⟩
 · obtain ⟨u,es,ep,hu,r⟩:=hm
   exact ⟨u,es,ep,k _ u (fun z=>(hf _ z).2.1 rfl) hu,r⟩
 · cases hb:H b with
   | none=>exact new b u hb e
   | some v =>
     rw [old b v hb] at e
     cases e
     refine (I.hok b _ hb).stay (fun c w hc q=>k c w ?_ q) (fun c q=>old c _ q) fun c xs q=>old c _ q
     rcases hc with z | z
     · rw [z]; exact nc b _ hb
     · exact nc c _ z
end
section
variable {X:Cx} {es:List Expr} {x1:Nat} {tp:Pos}
end
end L2
namespace L2
open PySem PySem.Spec PyProof.Rows
def Tk (H H':Hp):Prop:=∀ a xs,H a=some (.tup xs)→H' a=some (.tup xs)
theorem Same.tk {H H':Hp} (s:Same H H'):Tk H H':=fun a xs e=>s a _ e
theorem Tk.upd_lst {H:Hp} {D:Addr} {ys zs:List V} (e:H D=some (.lst ys)):Tk H (upd H D (.lst zs)):=fun a xs q=>by rw [upd_ne (ne_of q e (by intro z; cases z))]; exact q
def Al {α:Type} (R:V→α→Prop) (vs:List V) (xs:List α):Prop:=vs.length=xs.length∧∀ (i:Nat) (v:V) (x:α),vs[i]? = some v→xs[i]? = some x→R v x
theorem Al.nil {α:Type} {R:V→α→Prop}:Al R [] []:=⟨rfl,fun i v x e=>by simp at e⟩
theorem Al.snoc {α:Type} {R:V→α→Prop} {vs:List V} {xs:List α} {v:V} {x:α} (h:Al R vs xs) (r:R v x):Al R (vs++[v]) (xs++[x]):=by
 refine ⟨by simp [h.1],fun i w y e1 e2=>?_⟩
 by_cases hi:i < vs.length
 · rw [List.getElem?_append_left hi] at e1
   rw [List.getElem?_append_left (by rw [← h.1]; exact hi)] at e2
   exact h.2 i w y e1 e2
 · have:i=vs.length:=by
    have:=(List.getElem?_eq_some_iff.mp e1).1
    simp at this; omega
   subst this
   rw [List.getElem?_append_right (Nat.le_refl _)] at e1
   rw [h.1,List.getElem?_append_right (Nat.le_refl _)] at e2
   simp at e1 e2
   subst e1; subst e2
   exact r
theorem Al.imp {α:Type} {R S:V→α→Prop} {vs:List V} {xs:List α} (h:Al R vs xs) (f:∀ v x,R v x→S v x):Al S vs xs:=⟨h.1,fun i v x e1 e2=>f v x (h.2 i v x e1 e2)⟩
theorem Al.get {α:Type} {R:V→α→Prop} {vs:List V} {xs:List α} {i:Nat} {v:V} (h:Al R vs xs) (e:vs[i]? = some v):∃ x,xs[i]? = some x∧R v x:=by
 have hi:i < xs.length:=by rw [← h.1]; exact (List.getElem?_eq_some_iff.mp e).1
 exact ⟨xs[i],List.getElem?_eq_getElem hi,h.2 i v _ e (List.getElem?_eq_getElem hi)⟩
theorem Al.got {α:Type} {R:V→α→Prop} {vs:List V} {xs:List α} {i:Nat} {x:α} (h:Al R vs xs) (e:xs[i]? = some x):∃ v,vs[i]? = some v∧R v x:=by
 have hi:i < vs.length:=by rw [h.1]; exact (List.getElem?_eq_some_iff.mp e).1
 exact ⟨vs[i],List.getElem?_eq_getElem hi,h.2 i _ x (List.getElem?_eq_getElem hi) e⟩
theorem lc_map {J:It} {n:Nat} {D:Addr} {g:TG} {te:TE} {σ0:St} {H:Hp} {Q:VK} {α:Type} (R:Hp→V→α→Prop) (hR:∀ H1 H2 v x,Tk H1 H2→R H1 v x→R H2 v x) (ys_:List α) (hn:ys_.length=n) (hz:n≤1000) (ok:St→Prop) (h0:ok σ0) (hD:H D=none)
 (hgo:∀ i H2,Same H H2→i < n→J.go i H2) (hstop:∀ H2,Same H H2→J.stop n H2)
 (hs:∀ i x σ2 H2 H3 (C:St→V→Hp→Prop),i < n→Same H H2→J.yld i H2 x H3→ok σ2→(∀ σ4 y H5 z,ok σ4→Same H2 H5→ys_[i]? = some z→R H5 y z→C σ4 y H5)→g x σ2 H3 fun σ4 H4=>te σ4 H4 (C σ4))
 (hd:∀ H2 vs,Same H H2→H2 D=some (.lst vs)→Al (R H2) vs ys_→Q (.ref D) H2):LcGo J g tYes te σ0 H D Q:=by
 refine lc_gen (n:=n) (fun i σ H2=>Same H H2∧ok σ∧∃ vs,H2 D=some (.lst vs)∧Al (R H2) vs (ys_.take i)) ⟨Same.new hD,h0,[],upd_same,by rw [List.take_zero]; exact .nil⟩ (fun i σ H2 hi p=>hgo i H2 p.1 hi) (fun σ H2 p=>hstop H2 p.1) (fun i x σ2 H2 H3 hi y p=>?_) (fun σ2 H2 p=>?_)
 · obtain ⟨s2,o2,vs,e2,a2⟩:=p
   have:=hs i x σ2 H2 H3 (fun σ4 y H6=>∃ ys,H6 D=some (.lst ys)∧ys.length < sizeLine∧∃ m',m' < n - i∧LcN n (fun i σ H2=>Same H H2∧ok σ∧∃ vs,H2 D=some (.lst vs)∧Al (R H2) vs (ys_.take i)) (i+1) m' σ4 (upd H6 D (.lst (ys++[y])))) hi s2 y o2 ?_
   · exact this
   · intro σ4 v H5 z o4 s5 ez rz
     have e5:H5 D=some (.lst vs):=s5 _ _ e2
     refine ⟨vs,e5,?_,n - (i+1),by omega,by omega,rfl,fun b o e=>?_,o4,vs++[v],upd_same,?_⟩
     · rw [a2.1,List.length_take,sizeLine_eq]; omega
     · rw [upd_ne (ne_of_none e hD)]; exact s5 _ _ (s2 _ _ e)
     · have tk:Tk H5 (upd H5 D (.lst (vs++[v]))):=Tk.upd_lst e5
       have hi':i < ys_.length:=by omega
       rw [List.take_succ_eq_append_getElem hi']
       rw [List.getElem?_eq_getElem hi'] at ez
       cases ez
       exact (a2.imp fun v x r=>hR _ _ v x tk (hR _ _ v x s5.tk r)).snoc (hR _ _ _ _ tk rz)
 · obtain ⟨s2,_,vs,e2,a2⟩:=p
   rw [List.take_of_length_le (by omega)] at a2
   exact hd H2 vs s2 e2 a2
end L2
namespace L2
open PySem PySem.Spec PyProof.Rows
def SK.At (H:Hp) (a:Addr) (vs:List V):SK→Prop
 | .l=>H a=some (.lst vs)
 | .t=>H a=some (.tup vs)
theorem SK.At.same {k:SK} {H H':Hp} {a:Addr} {vs:List V} (h:k.At H a vs) (s:Same H H'):k.At H' a vs:=by
 cases k with
 | l=>exact s _ _ h
 | t=>exact s _ _ h
def SK.Itk (K:PySem.W.Frag) (a:Addr):SK→L2.It
 | .l=>Itl K a
 | .t=>Itt K a
theorem itk_go {k:SK} {K:PySem.W.Frag} {a:Addr} {H:Hp} {vs:List V} {i:Nat} (h:k.At H a vs) (hi:i < vs.length):(k.Itk K a).go i H:=by
 cases k with
 | l=>exact ⟨vs,vs[i],SqL.of h,List.getElem?_eq_getElem hi⟩
 | t=>exact ⟨vs,vs[i],SqT.of h,List.getElem?_eq_getElem hi⟩
theorem itk_stop {k:SK} {K:PySem.W.Frag} {a:Addr} {H:Hp} {vs:List V} {i:Nat} (h:k.At H a vs) (hi:vs.length≤i):(k.Itk K a).stop i H:=by
 cases k with
 | l=>exact ⟨vs,SqL.of h,hi⟩
 | t=>exact ⟨vs,SqT.of h,hi⟩
theorem itk_yld {k:SK} {K:PySem.W.Frag} {a:Addr} {H H':Hp} {vs:List V} {i:Nat} {x:V} (h:k.At H a vs) (y:(k.Itk K a).yld i H x H'):H'=H∧vs[i]? = some x:=by
 cases k with
 | l=>exact ⟨y.1,y.2 vs (SqL.of h)⟩
 | t=>exact ⟨y.1,y.2 vs (SqT.of h)⟩
theorem lc_T {k:SK} {K:PySem.W.Frag} {a D:Addr} {vs:List V} {te:TE} {u0:Option V} {rest:St} {H:Hp} {Q:VK} {α:Type} (R:Hp→V→α→Prop) (hR:∀ H1 H2 v x,Tk H1 H2→R H1 v x→R H2 v x) (ys:List α) (hn:ys.length=vs.length) (hz:vs.length≤1000) (hD:H D=none) (ha:k.At H a vs)
 (hs:∀ (i:Nat) (w:V) (H2:Hp) (C:V→Hp→Prop),vs[i]? = some w→Same H H2→(∀ y H5 z,Same H2 H5→ys[i]? = some z→R H5 y z→C y H5)→te (some w :: rest) H2 C)
 (hd:∀ H2 us,Same H H2→H2 D=some (.lst us)→Al (R H2) us ys→Q (.ref D) H2):LcGo (k.Itk K a) (gName 0) tYes te (u0 :: rest) H D Q:=by
 refine lc_map R hR ys hn hz (fun σ=>∃ u,σ=u :: rest) ⟨_,rfl⟩ hD (fun i H2 s hi=>itk_go (ha.same s) hi) (fun H2 s=>itk_stop (ha.same s) (Nat.le_refl _)) (fun i x σ2 H2 H3 C hi s y o c=>?_) hd
 obtain ⟨u,rfl⟩:=o
 obtain ⟨rfl,e⟩:=itk_yld (ha.same s) y
 exact hs i x H3 (C (some x :: rest)) e s fun y H5 z s5 ez rz=>c _ y H5 z ⟨_,rfl⟩ s5 ez rz
def IsTup' {α:Type} (R:Hp→V→α→Prop) (H:Hp) (v:V) (xs:List α):Prop:=∃ a vs,v=.ref a∧H a=some (.tup vs)∧Al (R H) vs xs
end L2
namespace L2
open PySem PySem.Spec PyProof.Rows
theorem lcs_plain {X:Cx} {scope:Scope} {N:List Str} {fr:List (Option Nat)} (h:scope.names.all (fun y=>y.2 != .cell && y.2 != .free)=true) (hk:scope.kind=.function)
 (hn:∀ y∈scope.names,y.2=.local→scope.names.lookup y.1=some .local) (hl:fr.length=N.length) (hf:fr.all (·.isNone)=true):LcO X scope [] N fr:=by
 have no:∀ y∈scope.names,y.2≠.cell∧y.2≠.free:=fun y hy=>by
  have:=List.all_eq_true.mp h y hy
  rw [Bool.and_eq_true] at this
  simpa using this
 refine ⟨closureFor_none fun x hx=>(no x hx).2,fun x c e=>by simp at e,fun x e=>?_,hk,hn,hl,fun i j e=>?_⟩
 · exfalso
   have key:∀ k,(relabel scope X.env).names.lookup x=some k→k≠.cell∧k≠.free:=fun k e=>by
    obtain ⟨⟨n,k'⟩,hm,e2⟩:=List.mem_map.mp (PySem.mem_of_lookup e)
    have b:(k' == NameKind.free)=false:=by simpa using (no _ hm).2
    simp only [b,Bool.false_and,Bool.false_eq_true,if_false] at e2
    cases e2
    exact no _ hm
   rcases e with e | e
   · exact (key _ e).1 rfl
   · exact (key _ e).2 rfl
 · have:=List.all_eq_true.mp hf _ (List.mem_of_getElem? e)
   cases this
end L2
namespace L2
open PySem PySem.Spec PyProof.Rows
theorem ps_lcS {X:Cx} {x:Str} {pos' spos:Pos} {tg elt iter:Expr} {ifs:List Expr} {scope:Scope} {cl:List (Str×Addr)} {N:List Str} {fr:List (Option Nat)} {pos:Pos} {wi:TI} {g g':TG} {tt:TT} {te:TE}
 (hw:swapsWith (.ListComp elt [⟨tg,iter,ifs,0⟩] scope pos) (some (.Name x pos')) spos.line X.env=pure true)
 (hc:X.calm=true) (hg':PG X (.Name x pos') g') (L:LcO X scope cl N fr) (hi:PI X tg iter wi) (hg:∀ C s3 H3 fp,PG (blk X scope cl C N s3 H3 fp) tg g)
 (ht:∀ C s3 H3 fp,PIfs (blk X scope cl C N s3 H3 fp) ifs tt) (he:∀ C s3 H3 fp,PE (blk X scope cl C N s3 H3 fp) elt te)
 (hs:∀ x,foldedSetIterable iter X.env x=pure x:=by intro _; rfl):PS X (.Assign [.Name x pos'] (.ListComp elt [⟨tg,iter,ifs,0⟩] scope pos) spos) (tAsg (tLC wi g tt te fr) g'):=by
 intro pins s σ H D I h
 rw [exec_Assign_Name_used _ _ _ _ hw]
 refine wpAny_bind (wpAny_standAt (wpAny_bind ?_))
 rw [arm_evalThenUse_ListComp]
 refine wpAny_bind (wpAny_comprehension_free (Q:=fun _ s'=>wpAny (model X.prog X.w) X.A (pure ()) (fun _ s''=>wpAny (model X.prog X.w) X.A (pure Flow.next) (SP X pins D) X.xe s'') X.xe s') (use:=some (assign (.Name x pos') X.env)) rfl hs L.clos L.kind L.names (thn (hi pins s σ H _ I h) fun v s1 h1=>thn h1 fun itv s2 h2=>?_))
 obtain ⟨it,fp,tn,J,H2,e,I2,T,st2,f2,h⟩:=h2
 subst e
 obtain ⟨W,⟨m0,w0⟩,turn⟩:=h s2.heap.objs.size (I2.hok.fresh (Nat.le_refl _))
 refine wpAny_newObj_type ?_
 generalize hs3:({ s2 with heap:=s2.heap.push { cls:=.type "list",dict:=none,data:=.seq ([]:List Value).toArray } }:Shared)=s3
 refine cmp_core (ac:=.lst []) hs3.symm hc L hg I2 T st2 f2 ⟨Nat.zero_le _,[],_,.nil,Heap.get?_push_size _ rfl⟩ w0 turn (fun _ _ a b=>codeAny_compStart_list a (b _)) (fun LI s4 t n h=>compLoop_any LI t n h) (fun H6 s7 qn I3 fr7 c=>?_) (lc_body ht he)
 obtain ⟨m7,hn7,c7⟩:=c
 have I8:Inv X pins σ H6 s7:=c7 s7.heap (Heap.SameBut.refl ..)
 have fpC:∀ {H6:Hp},H6 s3.heap.objs.size=none→∀ b∈[s3.heap.objs.size],FpOk X pins H6 b:=fun fr b hb=>by
  rw [List.mem_singleton] at hb
  subst hb
  exact I3.fpOk (Nat.le_refl _) fr
 obtain ⟨oC,esC,epC,geC,dC,skC,nfC⟩:=hn7
 have I9:=I8.pinned (fpC fr7) (fun b hb=>by
  rw [List.mem_singleton] at hb
  subst hb
  exact ⟨oC,geC,fun v z=>by rw [dC] at z; cases z⟩)
 refine thn (hg' _ s7 σ H6 (.ref s2.heap.objs.size) (.ref s2.heap.objs.size) _ I9 rfl qn) fun _ s9 ⟨σ9,H9,I10,q9⟩=>?_
 have pC:=I10.pin (s3.heap.objs.size,oC) (List.mem_append_right _ (List.mem_append_right _ (mem_pinsAt (List.mem_singleton.mpr rfl) geC)))
 refine ⟨m7,⟨oC,esC,epC,pC.1,dC,skC,nfC⟩,fun h' sb=>?_⟩
 refine wpAny_pure (wpAny_pure ?_)
 exact ⟨σ9,H9,I10.unpinned.turnGen (t':=s9.toks) (ch:=[s3.heap.objs.size]) (fun b u nb e=>(sb.2 b (fun z=>nb (by rw [z]; exact List.mem_singleton.mpr rfl))).trans e) (fpC pC.2.1) (fun _ _ e=>e) (fun _ _ _ e=>e) (fun b u e1 e2=>by rw [e1] at e2; cases e2),q9⟩
end L2
namespace L2
open PySem PySem.Spec PyProof.Rows
open AutoSeq1 (wpAny_loadPart')
section
variable {X:Cx}
def EqT {α:Type} [DecidableEq α] (X:Cx) (d:Nat) (R:Hp→V→α→Prop):Prop:=∀ (A:Around) (pins:List (Addr×Obj)) (σ:St) (H:Hp) (s:Shared) (v u:V) (a b:Value) (x y:α),A.units+d < cLine→Inv X pins σ H s→R H v x→R H u y→RelV v a→RelV u b→SeqAt.EqAt A s a b (decide (x=y))
theorem all_dec {α:Type} [DecidableEq α] [Inhabited α] (xs ys:List α):((List.range (min xs.length ys.length)).all (fun j=>decide (xs.getD j default=ys.getD j default)) && xs.length == ys.length)=decide (xs=ys):=by
 by_cases h:xs=ys
 · subst h
   simp
 · rw [decide_eq_false h,Bool.and_eq_false_iff]
   by_cases hl:xs.length=ys.length
   · left
     rw [Bool.eq_false_iff]
     intro z
     rw [List.all_eq_true] at z
     apply h
     apply List.ext_getElem hl
     intro i h1 h2
     have:=z i (by simp; omega)
     simpa [h1,h2] using this
   · right
     simpa using hl
theorem al_items {α:Type} [DecidableEq α] [Inhabited α] {d:Nat} {R:Hp→V→α→Prop} (E:EqT X d R) {A:Around} {pins:List (Addr×Obj)} {σ:St} {H:Hp} {s:Shared} (hu:A.units+d < cLine) (I:Inv X pins σ H s) {vs us:List V} {xs ys:List α} (h1:Al (R H) vs xs) (h2:Al (R H) us ys) {as bs:List Value} (r1:Vals vs as) (r2:Vals us bs) (j:Nat) (z1:j < as.toArray.size) (z2:j < bs.toArray.size):SeqAt.EqAt A s as.toArray[j] bs.toArray[j] (decide (xs.getD j default=ys.getD j default)):=by
 simp only [List.size_toArray] at z1 z2
 simp only [List.getElem_toArray]
 have l1:=r1.length
 have l2:=r2.length
 have g1:vs[j]? = some vs[j]:=List.getElem?_eq_getElem (by omega)
 have g2:us[j]? = some us[j]:=List.getElem?_eq_getElem (by omega)
 obtain ⟨a,e1,ra⟩:=r1.get g1
 obtain ⟨b,e2,rb⟩:=r2.get g2
 obtain ⟨x,ex,rx⟩:=h1.get g1
 obtain ⟨y,ey,ry⟩:=h2.get g2
 rw [List.getElem?_eq_getElem z1] at e1
 rw [List.getElem?_eq_getElem z2] at e2
 cases e1
 cases e2
 rw [List.getD_eq_getElem?_getD,List.getD_eq_getElem?_getD,ex,ey]
 exact E A pins σ H s _ _ _ _ x y hu I rx ry ra rb
theorem eqT_tup {α:Type} [DecidableEq α] [Inhabited α] {d:Nat} {R:Hp→V→α→Prop} (E:EqT X d R) (inj:∀ H v x y,R H v x→R H v y→x=y):EqT X (d+1) (IsTup' R):=by
 intro A pins σ H s v u a b xs ys hu I h1 h2 r1 r2
 obtain ⟨p,vs,rfl,e1,a1⟩:=h1
 obtain ⟨q,us,rfl,e2,a2⟩:=h2
 cases r1
 cases r2
 by_cases hpq:p=q
 · subst hpq
   rw [e1] at e2
   cases e2
   have:xs=ys:=by
    apply List.ext_getElem (by rw [← a1.1,← a2.1])
    intro i z1 z2
    obtain ⟨v,ev,rv⟩:=a1.got (List.getElem?_eq_getElem z1)
    exact inj H v _ _ rv (a2.2 i v _ ev (List.getElem?_eq_getElem z2))
   rw [decide_eq_true this]
   exact SeqAt.EqAt.same _
 · obtain ⟨as,q1,p1,_⟩:=I.tuple (SqT.of e1)
   obtain ⟨bs,q2,p2,_⟩:=I.tuple (SqT.of e2)
   have l1:=q1.length
   have l2:=q2.length
   have h:=SeqAt.RcAt.tuples (A:=A) (e:=fun j=>decide (xs.getD j default=ys.getD j default)) p1 p2 (by omega) fun j z1 z2=>al_items E (A:=A.in1) (by rw [Around.in1_units]; omega) I a1 a2 q1 q2 j z1 z2
   rw [List.size_toArray,List.size_toArray,← l1,← l2,a1.1,a2.1,all_dec] at h
   exact SeqAt.EqAt.of_refs hpq h
def rEqG {α:Type} [DecidableEq α] (R:Hp→V→α→Prop) (neg:Bool):R2:=fun x y H Q=>∃ xs ys:List α,IsTup' R H x xs∧IsTup' R H y ys∧Q (.bl (if neg then !decide (xs=ys) else decide (xs=ys))) H
theorem op_neG {α:Type} [DecidableEq α] [Inhabited α] {d:Nat} {R:Hp→V→α→Prop} (E:EqT X d R) (hu:X.A.units+d+1 < cLine):OpR X (compareOp .NotEq) (rEqG R true):=by
 intro pins s σ H x y v u Q I rx ry h
 obtain ⟨xs,ys,⟨p,vs,rfl,e1,a1⟩,⟨q,us,rfl,e2,a2⟩,k⟩:=h
 cases rx
 cases ry
 obtain ⟨as,q1,p1,_⟩:=I.tuple (SqT.of e1)
 obtain ⟨bs,q2,p2,_⟩:=I.tuple (SqT.of e2)
 have l1:=q1.length
 have l2:=q2.length
 refine SeqAt.RcNeAt.tuples (e:=fun j=>decide (xs.getD j default=ys.getD j default)) p1 p2 (by omega) (fun j z1 z2=>al_items E (A:=X.A.in1) (by rw [Around.in1_units]; omega) I a1 a2 q1 q2 j z1 z2) _ _ _ _ ⟨.bl _,H,I,rfl,?_⟩
 rw [List.size_toArray,List.size_toArray,← l1,← l2,a1.1,a2.1,all_dec]
 exact k
def rNeLG {α:Type} [DecidableEq α] (R:Hp→V→α→Prop) (neg:Bool):R2:=fun x y H Q=>∃ (a b:Addr) (vs us:List V) (xs ys:List α),x=.ref a∧y=.ref b∧H a=some (.lst vs)∧H b=some (.lst us)∧Al (R H) vs xs∧Al (R H) us ys∧Q (.bl (if neg then !decide (xs=ys) else decide (xs=ys))) H
theorem all_dec2 {α:Type} [DecidableEq α] [Inhabited α] (xs ys:List α) (hl:xs.length=ys.length):((List.range xs.length).all (fun j=>decide (xs.getD j default=ys.getD j default)))=decide (xs=ys):=by
 rw [← all_dec xs ys,← hl,Nat.min_self,beq_self_eq_true,Bool.and_true]
theorem op_neLG {α:Type} [DecidableEq α] [Inhabited α] {d:Nat} {R:Hp→V→α→Prop} (E:EqT X d R) (hu:X.A.units+d+1 < cLine):OpR X (compareOp .NotEq) (rNeLG R true):=by
 intro pins s σ H x y v u Q I rx ry h
 obtain ⟨p,q,vs,us,xs,ys,rfl,rfl,e1,e2,a1,a2,k⟩:=h
 cases rx
 cases ry
 obtain ⟨as,q1,p1,_⟩:=I.list (SqL.of e1)
 obtain ⟨bs,q2,p2,_⟩:=I.list (SqL.of e2)
 have l1:=q1.length
 have l2:=q2.length
 by_cases hl:xs.length=ys.length
 · refine SeqAt.RcNeAt.lists (e:=fun j=>decide (xs.getD j default=ys.getD j default)) p1.isList p2.isList (by rw [List.size_toArray,List.size_toArray,← l1,← l2,a1.1,a2.1,hl]) (by omega) (fun j z1 z2=>al_items E (A:=X.A.in1) (by rw [Around.in1_units]; omega) I a1 a2 q1 q2 j z1 z2) _ _ _ _ ⟨.bl _,H,I,rfl,?_⟩
   rw [List.size_toArray,← l1,a1.1,all_dec2 xs ys hl]
   exact k
 · refine SeqAt.RcNeAt.lists_lengths p1.isList p2.isList (by rw [List.size_toArray,List.size_toArray,← l1,← l2,a1.1,a2.1]; simpa using hl) (by omega) _ _ _ _ ⟨.bl true,H,I,rfl,?_⟩
   have:¬ xs=ys:=fun z=>hl (by rw [z])
   rw [decide_eq_false this] at k
   exact k
end
end L2
namespace L2
open PySem PySem.Spec PyProof.Rows
theorem relV_abs {v:V} {u:Value} (h:RelV v u):absV u=some v:=by
 cases v <;> simp only [RelV] at h <;> first | (subst h; rfl) | (obtain ⟨_,rfl⟩:=h; rfl)
theorem relV_inj {v v':V} {u:Value} (h:RelV v u) (h':RelV v' u):v=v':=Option.some.inj ((relV_abs h).symm.trans (relV_abs h'))
section
variable {X:Cx} {α:Type} [DecidableEq α] {R:Hp→V→α→Prop} {d:Nat}
noncomputable def eqOf (R:Hp→V→α→Prop) (H:Hp) (a:α) (y:Value):Bool:=@decide (∃ v,RelV v y∧R H v a) (Classical.propDecidable _)
theorem eqOf_at {H:Hp} {v:V} {y:Value} {x a:α} (inj:∀ v x y,R H v x→R H v y→x=y) (rv:RelV v y) (r:R H v x):eqOf R H a y=decide (x=a):=by
 unfold eqOf
 rw [Bool.eq_iff_iff]
 simp only [decide_eq_true_iff]
 refine ⟨fun ⟨v',h1,h2⟩=>?_,fun h=>⟨v,rv,h ▸ r⟩⟩
 rw [relV_inj h1 rv] at h2
 exact inj v x a r h2
theorem mem_at {A:Around} {pins:List (Addr×Obj)} {σ:St} {H:Hp} {s:Shared} (E:EqT X d R) (inj:∀ v x y,R H v x→R H v y→x=y) (hu:A.units+d < cLine) (I:Inv X pins σ H s) {vs:List V} {us:List Value} {xs:List α} (r:Vals vs us) (al:Al (R H) vs xs) {x:V} {v:Value} {a:α} (rx:RelV x v) (ra:R H x a) :
 ∀ y∈us.toArray,SeqAt.EqAt A s y v (eqOf R H a y):=fun y hy=>by
 obtain ⟨i,hi,e⟩:=List.getElem_of_mem (show y∈us by simpa using hy)
 have l1:=r.length
 obtain ⟨u,eu,ru⟩:=r.get (List.getElem?_eq_getElem (show i < vs.length by omega))
 rw [List.getElem?_eq_getElem hi,e] at eu
 cases eu
 obtain ⟨z,ez,rz⟩:=al.get (List.getElem?_eq_getElem (show i < vs.length by omega))
 rw [eqOf_at inj ru rz]
 exact E A pins σ H s _ _ _ _ z a hu I rz ra ru rx
theorem mt_indexG (E:EqT X d R) (inj:∀ H v x y,R H v x→R H v y→x=y) (hu:X.A.units+d+1 < cLine):MtR X "list.index" (fun x xs H Q=>∃ (p:Addr) (vs:List V) (ys:List α) (v:V) (a:α) (j:Nat),x=.ref p∧xs=[v]∧H p=some (.lst vs)∧Al (R H) vs ys∧R H v a∧ys[j]? = some a∧(∀ m,m < j→ys[m]?≠some a)∧ys.length≤1000∧Q (.int j) H):=by
 intro pins s σ H x xs v us Q I rx rv h
 obtain ⟨p,vs,ys,y,a,j,rfl,rfl,e,al,ra,ej,hno,hz,q⟩:=h
 cases rx
 obtain ⟨u,rfl,ru⟩:=rv.one
 obtain ⟨its,r,pl,_⟩:=I.list (SqL.of e)
 obtain ⟨⟨cls,dd,data,sl⟩,ho,hc,n,hd⟩:=id pl.isList
 simp only at hc hd
 subst hc hd
 have l1:=r.length
 have l2:=al.1
 have hj:j < ys.length:=(List.getElem?_eq_some_iff.mp ej).1
 have at_:∀ m (hm:m < its.toArray.size) z,ys[m]? = some z→eqOf R H a its.toArray[m]=decide (z=a):=fun m hm z ez=>by
  have hm':m < its.length:=by simpa using hm
  obtain ⟨w,ew,rw'⟩:=r.get (List.getElem?_eq_getElem (show m < vs.length by omega))
  rw [List.getElem?_eq_getElem hm'] at ew
  cases ew
  simp only [List.getElem_toArray]
  exact eqOf_at (inj H) rw' (al.2 m _ z (List.getElem?_eq_getElem (by omega)) ez)
 refine call_meets F.slot_list_index ⟨_,ho,rfl⟩ F.entry_list_index (F.args_list_index_2 _ _) (SeqAt.list_indexAt p its.toArray n dd sl u (eqOf R H a) j (by simp; omega) (by omega) ?_ ?_) ⟨ho,mem_at E (inj H) (by rw [Around.in1_units]; omega) I r al ru ra,?_⟩
 · rw [at_ j (by simp; omega) a ej]; exact decide_eq_true rfl
 · intro m hm hlt
   have hm':m < ys.length:=by omega
   rw [at_ m hm ys[m] (List.getElem?_eq_getElem hm')]
   exact decide_eq_false fun z=>hno m hlt (by rw [List.getElem?_eq_getElem hm',z])
 · exact ⟨.int j,H,I.tok _,⟨_,rfl⟩,q⟩
end
end L2
namespace L2
open PySem PySem.Spec PyProof.Rows PySem.W
theorem fsc {N P:List Str} {sc:Scope} (h:sc.kind=.function∧sc.isCoroutine=false∧sc.isGenerator=false∧N.Nodup∧N.take P.length=P∧(∀ x∈P,sc.names.lookup x=some .local∨sc.names.lookup x=some .cell)∧∀ y∈sc.names,y.2≠.free):FnScope N P sc:=let ⟨a,b,c,d,e,f,g⟩:=h; ⟨a,b,c,d,e,f,g⟩
end L2
set_option maxHeartbeats 4000000
namespace L2
open PySem PySem.Spec PyProof.Rows
section
variable {M:Model} {A:Around} {E:Value→Shared→Prop} {s:Shared}
def FO (h:Heap) (a:Addr) (C:Value) (d:Option Addr) (vs:Array Value):Prop:=∃ o:Obj,h.get? a=some o∧o.cls=C∧o.dict=d∧o.data=.fields vs
theorem dict_mapF {o:Obj} {f:Array Value→Array Value}:(Obj.mapFields f o).dict=o.dict:=by
 obtain ⟨c,d,dt,sl⟩:=o
 cases dt <;> rfl
theorem FO.set {h:Heap} {a:Addr} {C:Value} {d:Option Addr} {vs:Array Value} (x:FO h a C d vs) (f:Array Value→Array Value):FO (h.update a (Obj.mapFields f)) a C d (f vs) :=
 let ⟨o,e,hc,hd,hv⟩:=x
 ⟨_,Heap.get?_update_self _ e (Obj.isFreed_of_fields (Obj.data_mapFields hv f)),(Obj.cls_mapFields _ _).trans hc,dict_mapF.trans hd,Obj.data_mapFields hv f⟩
theorem FO.keep {h h':Heap} {a:Addr} {C:Value} {d:Option Addr} {vs:Array Value} (x:FO h a C d vs) (k:∀ o,h.get? a=some o→h'.get? a=some o):FO h' a C d vs :=
 let ⟨o,e,r⟩:=x
 ⟨o,k o e,r⟩
theorem up_ne {h:Heap} {a b:Addr} {o:Obj} {g:Obj→Obj} (n:b≠a) (e:h.get? b=some o):(h.update a g).get? b=some o:=(Heap.get?_update_other h g (Ne.symm n)).trans e
def Fly (h:Heap) (G:Heap) (e T:Addr) (C:Value):Prop :=
 G.get? e=none∧G.get? T=none∧T≠e∧(∃ vs,FO h e C none vs∧vs[1]? = some (.ref T))∧∃ cT dT ts,FO h T cT dT ts∧ts[3]? = some .none
theorem Fly.lo {h G G':Heap} {e T:Addr} {C:Value} (f:Fly h G e T C) (l:∀ b,G.get? b=none→G'.get? b=none):Fly h G' e T C:=⟨l _ f.1,l _ f.2.1,f.2.2⟩
def Fly0 (h:Heap) (G:Heap) (e:Addr) (C:Value):Prop:=G.get? e=none∧∃ vs,FO h e C none vs∧vs[1]? = some .none
def LftX (fs:List Addr) (S:Addr→Prop) (h h':Heap):Prop :=
 (∀ b o,¬ S b→b∉fs→h.get? b=some o→h'.get? b=some o)∧∀ b o,b∈fs→h.get? b=some o→∃ sl,h'.get? b=some { o with slots:=sl }
theorem FO.ne_frame {base h:Heap} {l:List Env} {a:Addr} {C:Value} {d:Option Addr} {vs:Array Value} (x:FO h a C d vs) (hl:h.FunFrames base l):a∉frs l:=fun hm=>by
 obtain ⟨o,e,_,_,hv⟩:=x
 obtain ⟨_,o',e',nf⟩:=hl.mem hm
 rw [e] at e'; cases e'; exact nf vs hv
theorem lv_new {base:Heap} {env:Env} {outer:List Env} {L e:Addr} {C head:Value} {vs:Array Value} {hadNext:Bool} {G:Heap} {Q:Unit→Shared→Prop}
 (hfr:A.frames=some (env :: outer)) (hl:s.heap.FunFrames base (env :: outer)) (hf:env.frame=some L) (x:FO s.heap e C none vs) (hG:G.get? e=none) (hsz:1 < vs.size) (hz:G.get? s.heap.objs.size=none)
 (h:∀ h',LftX (frs (env :: outer)) (· = e) s.heap h'→Fly h' G e s.heap.objs.size C→Q () { s with heap:=h' }) :
 wpAny M A (do let a ← frameOf env; let pl ← entryPlaceOf L hadNext; let b ← EntryCells.newEntry head a .none (rawInt L) .none pl; setField (.ref e) 1 b) (fun _ s'=>wpAny M A (setFlight (.ref e) none) Q E s') E s:=by
 have nf:=x.ne_frame hl
 refine wpAny_bind (wpAny_frameOf_fun hfr hl hf fun g ⟨gz,gk,gs⟩=>wpAny_bind (wpAny_entryPlaceOf fun pl hpl=>wpAny_bind ?_))
 refine wpAny_newObj_type ?_ (hpl.sizeOk5 _ _ _ _ _)
 generalize hts:(([head,Value.ref L,.none,rawInt L,.none]++(if pl.isEmpty then List.replicate 6 Value.none else pl)).toArray:Array Value)=ts
 have hts3:3 < ts.size:=by
  rw [← hts]; simp only [List.size_toArray,List.length_append,List.length_cons,List.length_nil]; omega
 have x1:FO g e C none vs:=x.keep fun o q=>(gk e nf).trans q
 have ne:g.objs.size≠e:=Nat.ne_of_gt (let ⟨_,q,_⟩:=x1; Heap.lt_size q)
 have y1:FO (g.push { cls:=.type "traceback",dict:=none,data:=.fields ts }) g.objs.size (.type "traceback") none ts:=⟨_,Heap.get?_push_size g rfl,rfl,rfl,rfl⟩
 have x2:=x1.keep (h':=g.push { cls:=.type "traceback",dict:=none,data:=.fields ts }) fun o q=>Heap.get?_push_of_some _ q
 have x3:=x2.set (·.setIfInBounds 1 (.ref g.objs.size))
 have y3:=y1.keep (h':=(g.push { cls:=.type "traceback",dict:=none,data:=.fields ts }).update e (Obj.mapFields (·.setIfInBounds 1 (.ref g.objs.size)))) fun o q=>up_ne ne q
 obtain ⟨o2,a2,_,_,v2⟩:=id x2
 obtain ⟨o3,a3,_,_,v3⟩:=id x3
 obtain ⟨p3,b3,_,_,w3⟩:=id y3
 have one:(vs.setIfInBounds 1 (.ref g.objs.size))[1]? = some (.ref g.objs.size):=by simp [hsz]
 refine wpAny_setField a2 v2 hsz (wpAny_bind (wpAny_field a3 v3 one ?_))
 rw [if_pos (by simp)]
 refine wpAny_setField b3 w3 hts3 ?_
 have y4:=y3.set (·.setIfInBounds 3 ((none:Option Addr).elim Value.none fun f=>rawInt f))
 have x4:=x3.keep fun o q=>up_ne (g:=Obj.mapFields (·.setIfInBounds 3 ((none:Option Addr).elim Value.none fun f=>rawInt f))) (Ne.symm ne) q
 have keep:∀ b o,b≠e→g.get? b=some o→_:=fun b o n q=>up_ne (g:=Obj.mapFields (·.setIfInBounds 3 ((none:Option Addr).elim Value.none fun f=>rawInt f))) (Nat.ne_of_lt (Heap.lt_size q)) (up_ne (g:=Obj.mapFields (·.setIfInBounds 1 (.ref g.objs.size))) n (Heap.get?_push_of_some { cls:=.type "traceback",dict:=none,data:=.fields ts } q))
 refine h _ ⟨fun b o n hb q=>keep b o n ((gk b hb).trans q),fun b o hb q=>?_⟩ ?_
 · obtain ⟨sl,q2⟩:=gs b o q
   exact ⟨sl,keep b _ (fun z=>nf (z ▸ hb)) q2⟩
 · rw [← gz]
   exact ⟨hG,by rw [gz]; exact hz,ne,⟨_,x4,one⟩,_,_,_,y4,by simp [hts3]⟩
theorem lv_first {base:Heap} {env:Env} {outer:List Env} {L e:Addr} {C:Value} {G:Heap} {Q:Unit→Shared→Prop}
 (hfr:A.frames=some (env :: outer)) (hl:s.heap.FunFrames base (env :: outer)) (hf:env.frame=some L) (f:Fly0 s.heap G e C) (hz:G.get? s.heap.objs.size=none)
 (h:∀ h',LftX (frs (env :: outer)) (· = e) s.heap h'→Fly h' G e s.heap.objs.size C→Q () { s with heap:=h' }):wpAny M A (leaving env (.ref e)) Q E s:=by
 obtain ⟨hG,vs,x,h1⟩:=f
 obtain ⟨oe,he,_,_,hd⟩:=id x
 unfold leaving noteFrame
 simp only [hf]
 refine wpAny_bind (wpAny_bind (wpAny_field he hd h1 ?_))
 rw [if_neg (by decide)]
 exact lv_new hfr hl hf x hG (Array.getElem?_eq_some_iff.mp h1).1 hz h
theorem lv_note {base:Heap} {env:Env} {outer:List Env} {L e T:Addr} {C:Value} {G:Heap} {Q:Unit→Shared→Prop}
 (hfr:A.frames=some (env :: outer)) (hl:s.heap.FunFrames base (env :: outer)) (hf:env.frame=some L) (f:Fly s.heap G e T C) (hz:G.get? s.heap.objs.size=none)
 (h:∀ h',LftX (frs (env :: outer)) (fun b=>b=e∨b=T) s.heap h'→Fly h' G e s.heap.objs.size C→Q () { s with heap:=h' }) :
 wpAny M A (noteFrame (.ref e) env) (fun _ s'=>wpAny M A (setFlight (.ref e) none) Q E s') E s:=by
 obtain ⟨hG,hT,ne,⟨vs,x,h1⟩,cT,dT,ts,y,h3⟩:=f
 obtain ⟨oe,he,_,_,hd⟩:=id x
 obtain ⟨oT,eT,_,_,hdT⟩:=id y
 have nT:=y.ne_frame hl
 unfold noteFrame
 simp only [hf]
 refine wpAny_bind (wpAny_field he hd h1 ?_)
 rw [if_pos (by simp)]
 refine wpAny_bind (wpAny_field eT hdT h3 ?_)
 rw [if_neg (by simp [rawInt])]
 refine wpAny_bind (wpAny_setField eT hdT (Array.getElem?_eq_some_iff.mp h3).1 ?_)
 have sz:(s.heap.update T (Obj.mapFields (·.setIfInBounds 3 .none))).objs.size=s.heap.objs.size:=Heap.size_after_update ..
 have hl':(s.heap.update T (Obj.mapFields (·.setIfInBounds 3 .none))).FunFrames base (env :: outer):=hl.of_keeps fun b o q nf=>⟨o,up_ne (fun z=>by rw [z,eT] at q; cases q; exact nf ts hdT) q,rfl⟩
 refine lv_new (s:={ s with heap:=s.heap.update T (Obj.mapFields (·.setIfInBounds 3 .none)) }) hfr hl' hf (x.keep fun o q=>up_ne (Ne.symm ne) q) hG (Array.getElem?_eq_some_iff.mp h1).1 (by rw [sz]; exact hz) fun h' ⟨k1,k2⟩ k3=>?_
 exact h h' ⟨fun b o n hb q=>k1 b o (fun z=>n (.inl z)) hb (up_ne (fun z=>n (.inr z)) q),fun b o hb q=>k2 b o hb (up_ne (fun z=>nT (z ▸ hb)) q)⟩ (by rw [← sz]; exact k3)
theorem lv_next {base:Heap} {env:Env} {outer:List Env} {L e T:Addr} {C:Value} {G:Heap} {Q:Unit→Shared→Prop}
 (hfr:A.frames=some (env :: outer)) (hl:s.heap.FunFrames base (env :: outer)) (hf:env.frame=some L) (f:Fly s.heap G e T C) (hz:G.get? s.heap.objs.size=none)
 (h:∀ h',LftX (frs (env :: outer)) (fun b=>b=e∨b=T) s.heap h'→Fly h' G e s.heap.objs.size C→Q () { s with heap:=h' }):wpAny M A (leaving env (.ref e)) Q E s:=by
 unfold leaving
 exact wpAny_bind (lv_note hfr hl hf f hz h)
def CX1 (P:Program) (w:World):CXT:=fun outer H s E e s'=>∃ ea T C H',e=.ref ea∧s'.os=s.os∧AllBare s'.gens∧Un (frs outer) [] H H' s.heap s'.heap∧HOk P w H' s'.heap∧Fly s'.heap s.heap ea T (.ref C)∧H' ea=none∧H' T=none∧E (.ref C) none H'
end
structure XeOk (X:Cx) (E:XK):Prop where
 st:X.stack=X.env :: X.outer
 fr:X.env.frame=some X.env.locals
 ex:X.ex=[]
 xe:∀ e s',wpAny (model X.prog X.w) X.A (leaving X.env e) (fun _ s''=>CX1 X.prog X.w X.outer X.H₀ X.s₀ E e s'') (fun _ _=>False) s'→X.xe e s'
section
variable {X:Cx} {E:XK} {pins:List (Addr×Obj)} {σ:St} {H:Hp} {s:Shared} {ea T C:Addr}
theorem Inv.newX (I:Inv X pins σ H s) {b:Addr} (z:s.heap.get? b=none) (hx:b∉X.ex):X.s₀.heap.get? b=none:=by
 cases q:X.s₀.heap.get? b with
 | none=>rfl
 | some o =>
   obtain ⟨o',e⟩:=I.base.there b o q hx
   rw [z] at e; cases e
theorem Inv.new0 (I:Inv X pins σ H s) {b:Addr} (z:s.heap.objs.size≤b):X.s₀.heap.get? b=none:=Heap.get?_none_of_le (Nat.le_trans I.sz z)
theorem Inv.fsIn (I:Inv X pins σ H s):∀ b∈X.fs,b∈frs X.stack:=fun b hb=>by
 rcases I.ok.stk with e | ⟨e,hf⟩
 · rw [e]; exact hb
 · rw [e]
   show b∈List.filterMap _ (_ :: X.outer)
   rw [List.filterMap_cons]
   split
   · exact hb
   · exact List.mem_cons_of_mem _ hb
theorem Inv.oldOut (I:Inv X pins σ H s) {b:Addr} {o:Obj} (e:X.s₀.heap.get? b=some o) (hb:b∉X.fs):b∉frs X.stack:=fun z=>by
 rcases List.mem_cons.mp (I.stkSub b z) with q | q
 · exact absurd (Heap.lt_size e) (Nat.not_lt.mpr (by rw [q]; exact I.ok.above))
 · exact hb q
theorem xe_end (o:XeOk X E) (I:Inv X pins σ H s) {h':Heap} (k1:∀ b o,(X.s₀.heap.get? b≠none∨H b≠none)→b∉frs X.stack→s.heap.get? b=some o→h'.get? b=some o)
 (k2:∀ b o,b∈frs X.stack→s.heap.get? b=some o→∃ sl,h'.get? b=some { o with slots:=sl }) (k3:Fly h' X.s₀.heap ea s.heap.objs.size (.ref C)) (n1:H ea=none) (hE:E (.ref C) none H) :
 CX1 X.prog X.w X.outer X.H₀ X.s₀ E (.ref ea) { s with heap:=h' }:=by
 have hx:∀ {b:Addr},b∉([]:List Addr)→b∉X.ex:=fun z=>by rw [o.ex]; exact z
 refine ⟨ea,s.heap.objs.size,C,H,rfl,I.os,I.bare,⟨fun b u q n hb z=>?_,fun b u q n hb z=>?_,fun b u q n z=>I.base.free b u q n (hx z),fun b u q z=>?_,I.base.tups,I.base.frzs,I.base.tbls⟩,fun b u e=>?_,k3,n1,I.hok.fresh (Nat.le_refl _),hE⟩
 · exact k1 b u (.inl (by rw [q]; simp)) (I.oldOut q hb) (I.base.keep b u q n hb (hx z))
 · obtain ⟨sl,e1⟩:=I.base.slot b u q n hb (hx z)
   obtain ⟨sl',e2⟩:=k2 b _ (I.fsIn b hb) e1
   exact ⟨sl',e2⟩
 · obtain ⟨o',e1⟩:=I.base.there b u q (hx z)
   by_cases hb:b∈frs X.stack
   · obtain ⟨sl',e2⟩:=k2 b _ hb e1
     exact ⟨_,e2⟩
   · exact ⟨o',k1 b o' (.inl (by rw [q]; simp)) hb e1⟩
 · refine (I.hok b u e).stay (fun c v hc q=>k1 c v ?_ ?_ q) (fun _ q=>q) fun _ _ q=>q
   · rcases hc with z | z
     · rw [z]; exact .inr (by rw [e]; simp)
     · exact .inr (by rw [z]; simp)
   · intro hm
     have:=I.stkFree c hm
     rcases hc with z | z
     · rw [z,e] at this; cases this
     · rw [z] at this; cases this
theorem xe_first (o:XeOk X E) (I:Inv X pins σ H s) (f0:Fly0 s.heap X.s₀.heap ea (.ref C)) (n1:H ea=none) (hE:E (.ref C) none H):X.xe (.ref ea) s:=by
 refine o.xe _ _ (lv_first (G:=X.s₀.heap) (I.ok.frames.trans (congrArg some o.st)) (o.st ▸ I.stack) o.fr f0 (I.new0 (Nat.le_refl _)) fun h' k k3=>?_)
 rw [← o.st] at k
 refine xe_end o I (fun b u hb hf e=>k.1 b u ?_ hf e) k.2 k3 n1 hE
 rintro rfl
 rcases hb with z | z
 · exact z f0.1
 · exact z n1
theorem xe_next (o:XeOk X E) (I:Inv X pins σ H s) (f1:Fly s.heap X.s₀.heap ea T (.ref C)) (n1:H ea=none) (n2:H T=none) (hE:E (.ref C) none H):X.xe (.ref ea) s:=by
 refine o.xe _ _ (lv_next (G:=X.s₀.heap) (I.ok.frames.trans (congrArg some o.st)) (o.st ▸ I.stack) o.fr f1 (I.new0 (Nat.le_refl _)) fun h' k k3=>?_)
 rw [← o.st] at k
 refine xe_end o I (fun b u hb hf e=>k.1 b u ?_ hf e) k.2 k3 n1 hE
 rintro (rfl | rfl)
 · rcases hb with z | z
   · exact z f1.1
   · exact z n1
 · rcases hb with z | z
   · exact z f1.2.1
   · exact z n2
theorem XeOk.passes (o:XeOk X E):Passes (CX1 X.prog X.w) X E:=by
 rintro pins σ H s e s' I ⟨ea,T,C,H',rfl,os,bare,un,hok,fly,n1,n2,hE⟩
 exact xe_next o (I.call' (ch:=[]) os un hok bare (fun b z=>absurd z (by simp))) (fly.lo fun b z=>I.newX z (by rw [o.ex]; simp)) n1 n2 hE
end
section
variable {P:Program} {w:World} {K:PySem.W.Frag} {mg:Str→Option Value} {base:Heap} {N:List Str} {qual:Str} {scope:Scope} {f:Addr} {cd:Value} {A:Around} {outer:List Env} {s₀:Shared} {H₀:Hp} {E:XK}
theorem xeOk1:XeOk (cxOf (CX1 P w) P w K mg base N qual scope f cd A outer s₀ H₀ E) E:=⟨rfl,rfl,rfl,fun _ _ h=>wpAny_mono h (fun _ _ z=>z) fun _ _ z=>z.elim⟩
end
end L2
namespace L2
open PySem PySem.Spec PyProof.Rows
theorem exc_obj {K:PySem.W.Frag} {h:Heap} {C:Addr} {bmB:List Value} {newId:String} (X:K.In h) (q:PySem.W.excIn K C bmB newId=true) :
 ∃ (bm:List Value) (N:Addr) (nm qn:Str) (bs:List Value) (hd:Bool) (sn:List Str) (sub:List Value) (ab:Bool) (col:Option Bool) (dd:Option Addr) (k0 k1 k2 k3 k5:Option Value) (mN:Str→Option Value),
   h.get? C=some (excClassObj nm qn C N bs bm hd sn sub ab col dd k0 k1 k2 k3 k5 newId)∧h.Ns N mN∧mN "__init__" = none∧OwnTail h bmB bm:=by
 unfold PySem.W.excIn at q
 split at q
 · rename_i dd cd sl ho
   split at q
   · rename_i C' bm k0 k1 k2 k3 n k5 hm hs
     simp only [Bool.and_eq_true,beq_iff_eq,Bool.not_eq_true'] at q
     obtain ⟨⟨⟨⟨⟨rfl,rfl⟩,hdel⟩,ht⟩,hok⟩,hni⟩:=q
     obtain ⟨nm,bs,mro,ns,qn,hd,sn,sub,ab,col,del⟩:=cd
     dsimp only at hm hdel hok hni
     subst hm hdel
     have hsl:sl=#[k0,k1,k2,k3,some (.builtin n),k5]:=by
      obtain ⟨l⟩:=sl
      simp only at hs
      rw [hs]
     subst hsl
     exact ⟨bm,ns,nm,qn,bs,hd,sn,sub,ab,col,dd,k0,k1,k2,k3,k5,_,X _ _ ho,.of_isNs (PySem.W.isNs_of_in X hok),PySem.W.nsMap_none_of_in X hok hni,PySem.W.tail_of_in X ht⟩
   · cases q
 · cases q
structure ExcK (K:PySem.W.Frag) (C:Addr):Prop where
 ex:∃ (bmB:List Value) (newId initId:String),ExcBaseFacts "ValueError" newId initId bmB∧PySem.W.excIn K C bmB newId=true
theorem ObjOk.there {P:Program} {w:World} {H:Hp} {h:Heap} {a:Addr} {o:HO} (x:ObjOk P w H h a o):∃ ob,h.get? a=some ob:=by
 cases o with
 | lst xs=>obtain ⟨_,_,_,_,e⟩:=x; exact ⟨_,e⟩
 | tup xs=>obtain ⟨_,_,_,_,e,_⟩:=x; exact ⟨_,e⟩
 | dK kvs=>obtain ⟨_,_,_,_,o,_,_,e,_⟩:=x; exact ⟨_,e⟩
 | dT kvs=>obtain ⟨_,_,_,_,o,_,_,e,_⟩:=x; exact ⟨_,e⟩
 | set S n=>obtain ⟨o,_,_,_,e,_⟩:=x; exact ⟨_,e⟩
 | ins C dx fs=>obtain ⟨_,_,_,e,_⟩:=x; exact ⟨_,e⟩
 | own y=>exact x
 | xd fs=>obtain ⟨_,⟨o,_,_,e,_⟩,_⟩:=x; exact ⟨_,e⟩
 | rng lo hi=>obtain ⟨_,_,_,e⟩:=x; exact ⟨_,e⟩
 | frz o u=>exact ⟨_,x.1⟩
 | tbl ps=>exact ⟨_,show h.get? a=some _ from x⟩
 | met f y=>exact ⟨_,show h.get? a=some _ from x⟩
 | ext φ=>exact x.2.1
def tRaise (E:XK) (C:Addr):TS:=fun _ _ H=>E (.ref C) none H
section
variable {X:Cx} {E:XK}
theorem ps_raise {x t:Str} {j:Nat} {np sp cpos pos:Pos} {C:Addr} (hx:XeOk X E) (hc:X.calm=true) (hg:Gl X x) (hm:X.mg x=some (.ref C)) (Z:ExcK X.K C) (hd:(x == ("__debug__" : Str))=false:=by decide) :
 PS X (.Raise (some (.Call (.Name x np) [.Constant (.str t) j sp] [] cpos)) none pos) (tRaise E C):=by
 intro pins s σ H D I h
 obtain ⟨bmB,newId,initId,F,q⟩:=Z.ex
 obtain ⟨bm,N,nm,qn,bs,hd',sn,sub,ab,col,dd,k0,k1,k2,k3,k5,mN,hC,hN,hni,TL⟩:=exc_obj I.mod.kin q
 refine wpAny_Raise_call_subT (C:=C) (nm:=nm) (q:=qn) (N:=N) (bs:=bs) (bm:=bm) (bmB:=bmB) (hdct:=hd') (sn:=sn) (sub:=sub) (ab:=ab) (col:=col) (dd:=dd) (k0:=k0) (k1:=k1) (k2:=k2) (k3:=k3) (k5:=k5) (mN:=mN) F (TL.hasType F.hasBase) (I.ok.hd hc) rfl hni (ld_glob I hg hm ⟨rfl,?_⟩ hd)
 have ha:PA X [.Constant (.str t) j sp] _:=pa_cons pe_str pa_nil rfl
 refine Calls.evalArgs_plain (thn (ha cpos pins s σ H (fun vs H1=>H1=H∧vs.length=1) I ⟨rfl,rfl⟩) fun us s1 ⟨vs,H1,I1,r,eH,hl⟩=>?_)
 subst eH
 refine ⟨rfl,by rw [← r.length,hl]; decide,I1.bk _ _ hC,hN.keeps I1.bk,TL.keeps I1.bk,fun h' e hm'=>?_⟩
 obtain ⟨kp,nw,t',e1,_,_⟩:=hm'
 have I2:Inv X pins σ H1 { s1 with heap:=h' }:=I1.kept (t':=s1.toks) kp
 refine xe_first hx I2 ⟨I1.newX nw (by rw [hx.ex]; simp),_,⟨_,e1,rfl,rfl,rfl⟩,rfl⟩ ?_ h
 cases z:H1 e with
 | none=>rfl
 | some u =>
   obtain ⟨o,e2⟩:=(I1.hok e u z).there
   rw [show s1.heap.get? e=none from nw] at e2; cases e2
end
section
variable {P:Program} {w:World} {K:PySem.W.Frag} {mg:Str→Option Value} {base:Heap}
theorem Fun.okX {x qual:Str} {st:Stmt} {f:Addr} {fd:FuncData} {N ps:List Str} {k:Nat} {sp:Sp} (F:Fun K x qual st f fd) (S:FnScope N ps (defScope st)) (len:∀ vs H Q E,sp vs H Q E→vs.length=ps.length)
 (hbody:∀ (cdv:Value) (A:Around) (outer:List Env) (s:Shared) (H:Hp) (vs:List V) (Q:VK) (E:XK),Room k (A.deeper (envOfC qual (defScope st) s.heap.objs.size f cdv))→sp vs H Q E →
   ∃ t,PSs (cxOf (CX1 P w) P w K mg base N qual (defScope st) f cdv A outer s H E) (defBody st) t∧t { nx:=fun _ H'=>Q .non H',rt:=Q } (start N vs) H):FnOk P w K mg base (CX1 P w) (k+1) f fd ps sp:=by
 obtain ⟨oc,od,kV,doc,pm,an,cdv,ct,osl,rfl,lk,hcd⟩:=F.ex
 exact fn_of lk hcd S len fun A outer s H vs Q E hr hsp=>hbody cdv A outer s H vs Q E hr hsp
structure CalX (P:Program) (w:World) (K:PySem.W.Frag) (mg:Str→Option Value) (base:Heap) (x:Str) (k:Nat) (ps:List Str) (sp:Sp):Prop where
 ex:∃ (f:Addr) (fd:FuncData),FnOk P w K mg base (CX1 P w) k f fd ps sp∧mg x=some (.ref f)∧PySem.W.keepIn K (.ref f)=true∧Binds K fd ps []
theorem pe_calX {X:Cx} {x:Str} {k j:Nat} {ps:List Str} {sp:Sp} {E:XK} {p pos:Pos} {e:Expr} {es:List Expr} {t:TA} (C:CalX X.prog X.w X.K X.mg X.base x k ps sp) (hx:Passes (CX1 X.prog X.w) X E) (hr:Room j X.A) (hj:k≤j) (hg:Gl X x) (ha:PA X (e :: es) t)
 (hdb:(x == ("__debug__" : Str))=false:=by decide) (he:starEach (e :: es) X.env=(false,eval e X.env) :: starEach es X.env:=by rfl) (hpl:(backTo pos (starEach es X.env)).any (·.1)=false:=by rfl) :
 PE X (.Call (.Name x p) (e :: es) [] pos) (fun σ H Q=>t σ H fun vs H1=>sp vs H1 Q E):=by
 obtain ⟨f,fd,F,hm,hk,hb⟩:=C.ex
 have h:=pe_call (dvs:=[]) (E:=E) (p:=p) F (hr.mono hj) hg hm hk hb .nil hx ha hdb he hpl
 intro pins s σ H Q I hw
 refine h pins s σ H Q I ?_
 unfold tCall
 simpa only [List.append_nil] using hw
end
end L2
namespace L2
open PySem PySem.Spec PyProof.Rows
section
variable {X:Cx} {pins:List (Addr×Obj)} {σ:St} {H:Hp} {s:Shared}
theorem Inv.left {h':Heap} {S:Addr→Prop} (I:Inv X pins σ H s) (k:LftX (frs X.stack) S s.heap h') (tk:Nat)
 (hS:∀ b,S b→H b=none∧X.s₀.heap.get? b=none∧(∀ p∈X.pn++pins,p.1≠b)∧∃ C d vs,FO s.heap b C d vs):Inv X pins σ H { s with heap:=h',toks:=tk }:=by
 obtain ⟨k1,k2⟩:=k
 have nS:∀ b o,s.heap.get? b=some o→(∀ vs,o.data≠.fields vs)→¬ S b:=fun b o e nf z=>by
  obtain ⟨_,_,_,_,_,vs,o',e',_,_,hv⟩:=hS b z
  rw [e] at e'; cases e'; exact nf vs hv
 have any:∀ b o,s.heap.get? b=some o→(∀ vs,o.data≠.fields vs)→∃ sl,h'.get? b=some { o with slots:=sl }:=fun b o e nf=>by
  by_cases hb:b∈frs X.stack
  · exact k2 b o hb e
  · exact ⟨o.slots,k1 b o (nS b o e nf) hb e⟩
 have old:∀ b o,X.s₀.heap.get? b=some o→¬ S b:=fun b o e z=>by rw [(hS b z).2.1] at e; cases e
 have ce:∀ c v,s.heap.IsCell c v→h'.IsCell c v:=fun c v ⟨o,e,hd⟩=>by
  obtain ⟨sl,q⟩:=any c o e fun vs z=>by rw [hd] at z; cases z
  exact ⟨_,q,hd⟩
 refine ⟨I.ok,I.os,I.bare,⟨fun b o e n hb hx=>?_,fun b o e n hb hx=>?_,I.base.free,fun b o e hx=>?_,I.base.tups,I.base.frzs,I.base.tbls⟩,?_,fun x c e=>?_,I.free,I.freeC,fun p hp=>?_,fun b u e=>?_,I.len⟩
 · exact k1 b o (old b o e) (I.oldOut e hb) (I.base.keep b o e n hb hx)
 · obtain ⟨sl,e1⟩:=I.base.slot b o e n hb hx
   obtain ⟨sl',e2⟩:=k2 b _ (I.fsIn b hb) e1
   exact ⟨sl',e2⟩
 · obtain ⟨o',e1⟩:=I.base.there b o e hx
   by_cases hb:b∈frs X.stack
   · obtain ⟨sl',e2⟩:=k2 b _ hb e1
     exact ⟨_,e2⟩
   · exact ⟨o',k1 b o' (old b o e) hb e1⟩
 · obtain ⟨m,⟨o,es,ep,ho,hd,r⟩,hl⟩:=I.loc
   obtain ⟨sl,q⟩:=any _ o ho fun vs z=>by rw [hd] at z; cases z
   refine ⟨m,⟨_,es,ep,q,hd,r⟩,fun i x v e1 e2 e3=>?_⟩
   obtain ⟨u,ru,l⟩:=hl i x v e1 e2 e3
   refine ⟨u,ru,?_⟩
   rcases l with l | ⟨kk,c,e,z⟩
   · exact .inl l
   · exact .inr ⟨kk,c,e,ce c _ z⟩
 · obtain ⟨v,z⟩:=I.cell x c e
   exact ⟨v,ce c v z⟩
 · obtain ⟨e,n,ne,nf,d⟩:=I.pin p hp
   refine ⟨k1 p.1 p.2 (fun z=>(hS _ z).2.2.1 p hp rfl) (fun z=>?_) e,n,ne,nf,d⟩
   rcases List.mem_cons.mp (I.stkSub _ z) with q | q
   · exact ne q
   · exact nf q
 · refine (I.hok b u e).stay (fun c v hc q=>k1 c v (fun z=>?_) (fun z=>?_) q) (fun _ q=>q) fun _ _ q=>q
   · have:=(hS c z).1
     rcases hc with r | r
     · rw [r,e] at this; cases this
     · rw [r] at this; cases this
   · have:=I.stkFree c z
     rcases hc with r | r
     · rw [r,e] at this; cases this
     · rw [r] at this; cases this
theorem Inv.track {a C:Addr} {C':Value} {d:Option Addr} {vs:Array Value} {o:HO} (I:Inv X pins σ H s) (x:FO s.heap a C' d vs) (n:H a=none) (n0:X.s₀.heap.get? a=none) (np:∀ p∈X.pn++pins,p.1≠a)
 (new:ObjOk X.prog X.w (upd H a o) s.heap a o):Inv X pins σ (upd H a o) s:=by
 obtain ⟨oa,ea,_,_,hv⟩:=id x
 have ne:∀ b u,H b=some u→b≠a:=fun b u e z=>by rw [z,n] at e; cases e
 have un:∀ b,b≠a→(upd H a o) b=H b:=fun b hb=>upd_ne hb
 have isr:∀ b o',s.heap.get? b=some o'→(∀ vs,o'.data≠.fields vs)→b≠a:=fun b o' e nf z=>by
  rw [z,ea] at e; cases e; exact nf vs hv
 refine ⟨I.ok,I.os,I.bare,⟨I.base.keep,I.base.slot,fun b u e q hx=>?_,I.base.there,fun b xs e=>?_,fun b w' u e=>?_,fun b ps e=>?_⟩,I.loc,I.cell,?_,fun y c e=>?_,fun p hp=>?_,fun b u e=>?_,I.len⟩
 · rw [un b fun z=>by rw [z,n0] at e; cases e]; exact I.base.free b u e q hx
 · have q:=I.base.tups b xs e; rw [un b (ne b _ q)]; exact q
 · have q:=I.base.frzs b w' u e; rw [un b (ne b _ q)]; exact q
 · obtain ⟨m,q⟩:=I.base.tbls b ps e; exact ⟨m,by rw [un b (ne b _ q)]; exact q⟩
 · obtain ⟨m,⟨ol,es,ep,ho,hd,_⟩,_⟩:=I.loc
   rw [un _ (isr _ ol ho fun vs z=>by rw [hd] at z; cases z)]; exact I.free
 · obtain ⟨v,oc,ho,hd⟩:=I.cell y c e
   rw [un _ (isr _ oc ho fun vs z=>by rw [hd] at z; cases z)]; exact I.freeC y c e
 · obtain ⟨e,q,r⟩:=I.pin p hp
   exact ⟨e,by rw [un _ (np p hp)]; exact q,r⟩
 · by_cases hb:b=a
   · subst hb
     rw [upd_same] at e; cases e; exact new
   · rw [un b hb] at e
     refine (I.hok b u e).stay (fun c v _ q=>q) (fun c q=>?_) fun c xs q=>?_
     · rw [un c (ne c _ q)]; exact q
     · rw [un c (ne c _ q)]; exact q
def nones (N:List Str):St:=List.replicate N.length none
theorem Inv.gone {h':Heap} {m':Str→Option Value} (I:Inv X pins σ H s) (hn:h'.Ns X.env.locals m') (hs:Heap.SameBut X.env.locals s.heap h') (tk:Nat):Inv X pins (nones X.N) H { s with heap:=h',toks:=tk }:=by
 have ne:∀ b o,X.s₀.heap.get? b=some o→b≠X.env.locals:=fun b o e=>Nat.ne_of_lt (Nat.lt_of_lt_of_le (Heap.lt_size e) I.ok.above)
 have ce:∀ x c,X.env.cells.lookup x=some c→∀ v,s.heap.IsCell c v→h'.IsCell c v:=fun x c e v z=>z.sameBut hs (I.cne x c e)
 refine ⟨I.ok,I.os,I.bare,⟨fun b o e n hb hx=>(hs.2 b (ne b o e)).trans (I.base.keep b o e n hb hx),fun b o e n hb hx=>?_,I.base.free,fun b o e hx=>?_,I.base.tups,I.base.frzs,I.base.tbls⟩,⟨m',hn,fun i x v _ e2 _=>?_⟩,fun x c e=>?_,I.free,I.freeC,fun p hp=>?_,fun b u e=>?_,by simp [nones]⟩
 · obtain ⟨sl,e1⟩:=I.base.slot b o e n hb hx
   exact ⟨sl,(hs.2 b (ne b o e)).trans e1⟩
 · obtain ⟨o',e1⟩:=I.base.there b o e hx
   exact ⟨o',(hs.2 b (ne b o e)).trans e1⟩
 · unfold nones at e2
   rw [List.getElem?_replicate] at e2
   split at e2 <;> cases e2
 · obtain ⟨v,z⟩:=I.cell x c e
   exact ⟨v,ce x c e v z⟩
 · obtain ⟨e,n,nl,r⟩:=I.pin p hp
   exact ⟨(hs.2 p.1 nl).trans e,n,nl,r⟩
 · refine (I.hok b u e).stay (fun c v hc q=>(hs.2 c fun z=>?_).trans q) (fun _ q=>q) fun _ _ q=>q
   have:=I.free
   rcases hc with r | r
   · rw [← z,r,e] at this; cases this
   · rw [← z,r] at this; cases this
def excA (ea C:Addr):HO:=.ext fun h=>∃ vs,FO h ea (.ref C) none vs
theorem excA_ok {P:Program} {w:World} {h:Heap} {ea C:Addr} {vs:Array Value} (x:FO h ea (.ref C) none vs):ObjOk P w H h ea (excA ea C) :=
 ⟨⟨vs,x⟩,let ⟨o,e,_⟩:=x; ⟨o,e⟩,fun _ _ ⟨v,y⟩ k=>⟨v,y.keep k⟩⟩
abbrev Cx.hdl (X:Cx) (ea:Addr):Cx:={ X with A:=X.A.mark (some (.ref ea)),calm:=false,xe:=fun _ _=>False }
theorem Inv.hdl (I:Inv X pins σ H s) (ea:Addr):Inv (X.hdl ea) pins σ H s :=
 let ok:=I.ok
 ⟨⟨ok.mod,ok.kind,ok.glob,ok.blt,ok.above,ok.inj,ok.has,ok.cab,fun z=>(nomatch z),ok.frames,ok.stk,ok.exf,ok.bs,ok.bsz,ok.noex,ok.exfs,ok.funs,ok.frf⟩,I.os,I.bare,I.base,I.loc,I.cell,I.free,I.freeC,I.pin,I.hok,I.len⟩
theorem Inv.unhdl {ea:Addr} (ok:X.Ok) (I:Inv (X.hdl ea) pins σ H s):Inv X pins σ H s:=⟨ok,I.os,I.bare,I.base,I.loc,I.cell,I.free,I.freeC,I.pin,I.hok,I.len⟩
def xeT (X:Cx) (pins:List (Addr×Obj)) (E:XK):Value→Shared→Prop:=fun e s'=>∃ ea T C H' σ',e=.ref ea∧Inv X pins σ' H' s'∧Fly s'.heap X.s₀.heap ea T (.ref C)∧H' ea=none∧H' T=none∧(∀ p∈X.pn++pins,p.1≠ea∧p.1≠T)∧E (.ref C) none H'
abbrev Cx.tryB (X:Cx) (pins:List (Addr×Obj)) (E:XK):Cx:={ X with pn:=X.pn++pins,xe:=xeT X pins E }
theorem Inv.tryB (I:Inv X pins σ H s) (E:XK):Inv (X.tryB pins E) [] σ H s :=
 let ok:=I.ok
 ⟨⟨ok.mod,ok.kind,ok.glob,ok.blt,ok.above,ok.inj,ok.has,ok.cab,ok.hd,ok.frames,ok.stk,ok.exf,ok.bs,ok.bsz,ok.noex,ok.exfs,ok.funs,ok.frf⟩,I.os,I.bare,I.base,I.loc,I.cell,I.free,I.freeC,fun p hp=>I.pin p (by simpa using hp),I.hok,I.len⟩
theorem Inv.untry {E:XK} {pins':List (Addr×Obj)} (I:Inv (X.tryB pins E) pins' σ H s):Inv X pins σ H s :=
 let ok:=I.ok
 ⟨⟨ok.mod,ok.kind,ok.glob,ok.blt,ok.above,ok.inj,ok.has,ok.cab,ok.hd,ok.frames,ok.stk,ok.exf,ok.bs,ok.bsz,ok.noex,ok.exfs,ok.funs,ok.frf⟩,I.os,I.bare,I.base,I.loc,I.cell,I.free,I.freeC,fun p hp=>I.pin p (List.mem_append_left _ hp),I.hok,I.len⟩
theorem passesT {E:XK} (hx:X.ex=[]):Passes (CX1 X.prog X.w) (X.tryB pins E) E:=by
 rintro pins' σ H s e s' I ⟨ea,T,C,H',rfl,os,bare,un,hok,fly,n1,n2,hE⟩
 have I1:=I.call' (ch:=[]) os un hok bare (fun b z=>absurd z (by simp))
 refine ⟨ea,T,C,H',σ,rfl,I1.untry,fly.lo fun b z=>I.untry.newX z (by rw [hx]; simp),n1,n2,fun p hp=>?_,hE⟩
 have q:=(I.untry.pin p hp).1
 exact ⟨fun z=>(by rw [z,fly.1] at q; cases q),fun z=>(by rw [z,fly.2.1] at q; cases q)⟩
theorem SP.untry {E:XK} {D:Ends} {f:Flow} (h:SP (X.tryB pins E) [] D f s):SP X pins D f s:=by
 cases f with
 | next=>obtain ⟨σ',H',I,q⟩:=h; exact ⟨σ',H',I.untry,q⟩
 | brk=>obtain ⟨σ',H',I,q⟩:=h; exact ⟨σ',H',I.untry,q⟩
 | cont=>obtain ⟨σ',H',I,q⟩:=h; exact ⟨σ',H',I.untry,q⟩
 | ret u=>obtain ⟨v,σ',H',I,r,q⟩:=h; exact ⟨v,σ',H',I.untry,r,q⟩
def offE (N:List Str) (D:Ends):Ends:={ nx:=fun _ H'=>D.nx (nones N) H',rt:=D.rt,bk:=fun _ H'=>D.bk (nones N) H',ct:=fun _ H'=>D.ct (nones N) H' }
def hE (K:PySem.W.Frag) (PE:Addr) (N:List Str) (i:Nat) (th:TS) (D:Ends):XK:=fun c _ H1=>∃ C,c=.ref C∧PySem.W.exmOne K (.ref C) (.ref PE)=some true∧∀ (σ:St) (ea:Addr),σ.length=N.length→H1 ea=none→th (offE N D) (σ.set i (some (.ref ea))) (upd H1 ea (excA ea C))
def tTry (K:PySem.W.Frag) (PE:Addr) (N:List Str) (i:Nat) (tb:XK→TS) (th:TS):TS:=fun D σ H=>tb (hE K PE N i th D) D σ H
theorem off_end {D:Ends} {f:Flow} {ea:Addr} {n:Str} {pos:Pos} {E:Value→Shared→Prop} (ok:X.Ok) (hl:X.env.kindOf n=some .local) (h:SP (X.hdl ea) pins (offE X.N D) f s) :
 wpAny (model X.prog X.w) X.A (do bindName X.env n .none; unbindBehindTheSuite X.env n pos) (fun _ s'=>SP X pins D f s') E s:=by
 have hp:(X.env.scope.kind == .class || (X.env.scope.kind == .module && X.env.locals != X.env.globals))=false:=by rw [ok.kind]; rfl
 cases f with
 | next=>obtain ⟨σ',H',I,q⟩:=h; obtain ⟨m,hn,_⟩:=id I.loc; exact wpAny_nameGoes hl hn hp fun h' m' n' sb=>⟨_,H',(I.unhdl ok).gone n' sb _,q⟩
 | brk=>obtain ⟨σ',H',I,q⟩:=h; obtain ⟨m,hn,_⟩:=id I.loc; exact wpAny_nameGoes hl hn hp fun h' m' n' sb=>⟨_,H',(I.unhdl ok).gone n' sb _,q⟩
 | cont=>obtain ⟨σ',H',I,q⟩:=h; obtain ⟨m,hn,_⟩:=id I.loc; exact wpAny_nameGoes hl hn hp fun h' m' n' sb=>⟨_,H',(I.unhdl ok).gone n' sb _,q⟩
 | ret u=>obtain ⟨v,σ',H',I,r,q⟩:=h; obtain ⟨m,hn,_⟩:=id I.loc; exact wpAny_nameGoes hl hn hp fun h' m' n' sb=>⟨v,_,H',(I.unhdl ok).gone n' sb _,r,q⟩
theorem ps_try {body suite:List Stmt} {b₀:Stmt} {x n:Str} {i:Nat} {np hpos pos:Pos} {PE:Addr} {tb:XK→TS} {th:TS} (hst:X.stack=X.env :: X.outer) (hfr:X.env.frame=some X.env.locals)
 (hb:∀ pins E,PSs (X.tryB pins E) body (tb E)) (hh:∀ ea,PSs (X.hdl ea) (b₀ :: suite) th) (hg:Gl X x) (hm:X.mg x=some (.ref PE))
 (hN:X.N.Nodup) (hi:X.N[i]? = some n) (hl:X.env.kindOf n=some .local) (hd:(x == ("__debug__" : Str))=false:=by decide) :
 PS X (.Try body [.ExceptHandler (some (.Name x np)) (some n) (b₀ :: suite) hpos] [] [] pos) (tTry X.K PE X.N i tb th):=by
 intro pins s σ H D I h
 refine wpAny_Try_except (wpAny_mono (hb pins _ [] s σ H D (I.tryB _) h) (fun f s1 q=>?_) fun e s1 q=>?_)
 · have q':=SP.untry q
   cases f with
   | next=>exact wpAny_execs_nil q'
   | brk=>exact q'
   | cont=>exact q'
   | ret u=>exact q'
 · obtain ⟨ea,T,C,H1,σ1,rfl,I1,fly,n1,n2,np1,hw⟩:=q
   obtain ⟨C',eC,hx,k⟩:=hw
   cases eC
   obtain ⟨vsE,xE,_⟩:=fly.2.2.2.1
   refine lv_note (G:=X.s₀.heap) (I1.ok.frames.trans (congrArg some hst)) (hst ▸ I1.stack) hfr fly (I1.new0 (Nat.le_refl _)) fun h2 lf fly2=>?_
   have I2:Inv X pins σ1 H1 { s1 with heap:=h2 }:=I1.left (hst ▸ lf) s1.toks fun b hb=>by
    rcases hb with rfl | rfl
    · exact ⟨n1,fly.1,fun p hp=>(np1 p hp).1,_,_,_,xE⟩
    · obtain ⟨cT,dT,ts,y,_⟩:=fly.2.2.2.2
      exact ⟨n2,fly.2.1,fun p hp=>(np1 p hp).2,_,_,_,y⟩
   have nT:H1 s1.heap.objs.size=none:=I1.hok.fresh (Nat.le_refl _)
   have npT:∀ p∈X.pn++pins,p.1≠s1.heap.objs.size:=fun p hp z=>by
    have q:=(I1.pin p hp).1
    exact absurd (Heap.lt_size q) (by rw [z]; exact Nat.lt_irrefl _)
   obtain ⟨g1,g2,g3,⟨vs2,x2,v2⟩,cT,dT,ts,y2,t3⟩:=id fly2
   refine wpAny_handleBy_cons (codeAny_handlers_test ((ld_glob (X:=X.hdl ea) (I2.hdl ea) hg hm ?_ hd))) (by intro q; cases q)
   have LT:PySem.W.Looks (model X.prog X.w) h2 (typeOf (.ref ea)) (.ref C):=by
    obtain ⟨o,e1,e2,_⟩:=x2
    exact e2 ▸ (PySem.W.Looks.ld e1).andThen .now
   refine (PySem.W.exm_one I2.kIn LT hx).here ?_
   show codeAny _ _ _ _ _
   refine codeAny_handlers_suite_as ?_
   obtain ⟨oE,aE,_,_,wE⟩:=id x2
   obtain ⟨oT,aT,_,_,wT⟩:=id y2
   refine wpAny_setFlight_none aE wE v2 aT wT (Array.getElem?_eq_some_iff.mp t3).1 ?_
   have I3:Inv X pins σ1 H1 { s1 with heap:=h2.update s1.heap.objs.size (Obj.mapFields (·.setIfInBounds 3 .none)) } :=
    I2.left (S:=(· = s1.heap.objs.size)) ⟨fun b o n _ e=>up_ne n e,fun b o hb e=>⟨o.slots,up_ne (fun z=>y2.ne_frame I2.stack (z ▸ hb)) e⟩⟩ s1.toks fun b hb=>by
     subst hb
     exact ⟨nT,g2,npT,_,_,_,y2⟩
   have x3:FO (h2.update s1.heap.objs.size (Obj.mapFields (·.setIfInBounds 3 .none))) ea (.ref C) none vs2:=x2.keep fun o e=>up_ne (Ne.symm g3) e
   have I4:=(I3.track (C:=C) (o:=excA ea C) x3 n1 g1 (fun p hp=>(np1 p hp).1) (excA_ok x3)).hdl ea
   refine store_ok (X:=X.hdl ea) (v:=.ref ea) I4 hN hi (Or.inl hl) rfl (fun s5 I5=>?_) (.inr hl)
   refine wpAny_mono (hh ea pins s5 _ _ (offE X.N D) I5 (k σ1 ea I1.len n1)) (fun f s6 q6=>?_) fun _ _ z=>z.elim
   exact off_end I.ok hl q6
end
end L2
namespace L2
open PySem PySem.Spec PyProof.Rows
def fzO (o:Obj):HO:=.frz o (.own 0)
theorem fz_ok {P:Program} {w:World} {H:Hp} {h:Heap} {a:Addr} {o:Obj} (e:h.get? a=some o):ObjOk P w H h a (fzO o):=⟨e,o,e⟩
def CellF (H:Hp) (c:Addr) (v:V):Prop:=∃ (o:Obj) (u:Value),H c=some (fzO o)∧o.data=.cell (some u)∧RelV v u
def del (H:Hp) (c:Addr):Hp:=fun a=>if a=c then none else H a
theorem del_ne {H:Hp} {c a:Addr} (h:a≠c):del H c a=H a:=if_neg h
theorem del_self {H:Hp} {c:Addr}:del H c c=none:=if_pos rfl
section
variable {X:Cx} {pins:List (Addr×Obj)} {σ:St} {H:Hp} {s:Shared}
abbrev Cx.fix (X:Cx) (x:Str):Cx:={ X with fn:=fun y=>X.fn y && y != x }
theorem Cx.Ok.fix (ok:X.Ok) (x:Str):(X.fix x).Ok :=
 ⟨ok.mod,ok.kind,ok.glob,ok.blt,ok.above,ok.inj,ok.has,fun y c h e=>ok.cab y c (Bool.and_eq_true_iff.mp h).1 e,ok.hd,ok.frames,ok.stk,ok.exf,ok.bs,ok.bsz,ok.noex,ok.exfs,ok.funs,ok.frf⟩
def tFix (i:Nat) (c:Addr) (t:TE):TE:=fun σ H Q=>∃ v,σ[i]? = some (some v)∧∀ o u,o.data=.cell (some u)→RelV v u→H c=none→t σ (upd H c (fzO o)) fun w H'=>Q w (del H' c)
theorem Inv.fixOn {i:Nat} {x:Str} {c:Addr} {v:V} (I:Inv X pins σ H s) (hN:X.N[i]? = some x) (hk:X.env.scope.names.lookup x=some .cell) (hc:X.env.cells.lookup x=some c) (hf:X.fn x=true) (hv:σ[i]? = some (some v)) :
 H c=none∧(∀ o u,X.H₀ c≠some (.frz o u))∧∃ o u,o.data=.cell (some u)∧RelV v u∧Inv (X.fix x) pins σ (upd H c (fzO o)) s:=by
 obtain ⟨m,hn,hl⟩:=id I.loc
 obtain ⟨u,ru,lk⟩:=hl i x v hN hv (.inr (.inl hk))
 have hH:H c=none:=(I.freeC x c hc).elim id fun z=>by rw [hf] at z; cases z.1
 obtain ⟨o,ho,hd⟩:s.heap.IsCell c (some u):=by
  rcases lk with ⟨k,_⟩ | ⟨_,c',e,z⟩
  · rw [show X.env.kindOf x=some .cell from hk] at k; cases k
  · rw [hc] at e; cases e; exact z
 have hcs:X.s₀.heap.objs.size≤c:=I.ok.cab x c hf hc
 have un:∀ b,b≠c→(upd H c (fzO o)) b=H b:=fun b hb=>upd_ne hb
 have ne:∀ b q,H b=some q→b≠c:=fun b q e z=>by rw [z,hH] at e; cases e
 refine ⟨hH,fun o' u' z=>(by have:=I.base.frzs c o' u' z; rw [hH] at this; cases this),o,u,hd,ru,?_⟩
 refine ⟨I.ok.fix x,I.os,I.bare,⟨I.base.keep,I.base.slot,fun b q e n hx=>?_,I.base.there,fun b xs e=>?_,fun b w' q e=>?_,fun b ps e=>?_⟩,I.loc,I.cell,?_,fun y c' e=>?_,fun p hp=>?_,fun b q e=>?_,I.len⟩
 · rw [un b fun z=>absurd (Heap.lt_size e) (Nat.not_lt.mpr (by rw [z]; exact hcs))]; exact I.base.free b q e n hx
 · have q:=I.base.tups b xs e; rw [un b (ne b _ q)]; exact q
 · have q':=I.base.frzs b w' q e; rw [un b (ne b _ q')]; exact q'
 · obtain ⟨m,q⟩:=I.base.tbls b ps e; exact ⟨m,by rw [un b (ne b _ q)]; exact q⟩
 · rw [un _ (Ne.symm (I.cne x c hc))]; exact I.free
 · by_cases hcc:c'=c
   · have hy:y=x:=I.ok.inj y x c (hcc ▸ e) hc
     exact .inr ⟨by show (X.fn y && y != x)=false; rw [hy]; simp,o,_,by rw [hcc,upd_same]; rfl⟩
   · rw [un c' hcc]
     exact (I.freeC y c' e).imp id fun ⟨z,q⟩=>⟨by show (X.fn y && y != x)=false; rw [z]; rfl,q⟩
 · obtain ⟨e,n,r1,r2,d⟩:=I.pin p hp
   have nc:p.1≠c:=fun z=>by
    rw [z,ho] at e
    exact d (some u) (by rw [← Option.some.inj e]; exact hd)
   exact ⟨e,(un _ nc).trans n,r1,r2,d⟩
 · by_cases hb:b=c
   · subst hb
     rw [upd_same] at e; cases e; exact fz_ok ho
   · rw [un b hb] at e
     refine (I.hok b q e).stay (fun _ _ _ z=>z) (fun d z=>?_) fun d xs z=>?_
     · rw [un d (ne d _ z)]; exact z
     · rw [un d (ne d _ z)]; exact z
theorem Inv.fixOff {x:Str} {c:Addr} (ok:X.Ok) (hc:X.env.cells.lookup x=some c) (n0:∀ o u,X.H₀ c≠some (.frz o u)) (I2:Inv (X.fix x) pins σ H s):Inv X pins σ (del H c) s:=by
 have kind:H c=none∨∃ o u,H c=some (.frz o u):=(I2.freeC x c hc).imp id fun z=>z.2
 have nt:∀ b q,H b=some q→(∀ o u,q≠.frz o u)→b≠c:=fun b q e n z=>by
  rw [z] at e
  rcases kind with k | ⟨o,u,k⟩
  · rw [k] at e; cases e
  · rw [k] at e; cases e; exact n _ _ rfl
 refine ⟨ok,I2.os,I2.bare,⟨I2.base.keep,I2.base.slot,fun b q e n hx=>?_,I2.base.there,fun b xs e=>?_,fun b w' q e=>?_,fun b ps e=>?_⟩,I2.loc,I2.cell,?_,fun y c' e=>?_,fun p hp=>?_,fun b q e=>?_,I2.len⟩
 · by_cases hb:b=c
   · rw [hb]; exact del_self
   · rw [del_ne hb]; exact I2.base.free b q e n hx
 · have q:=I2.base.tups b xs e; rw [del_ne (nt b _ q (by intro _ _ z; cases z))]; exact q
 · have q':=I2.base.frzs b w' q e
   have nb:b≠c:=fun z=>n0 w' q (by rw [← z]; exact e)
   rw [del_ne nb]; exact q'
 · obtain ⟨m,q⟩:=I2.base.tbls b ps e; exact ⟨m,by rw [del_ne (nt b _ q (by intro _ _ z; cases z))]; exact q⟩
 · by_cases hb:X.env.locals=c
   · rw [hb]; exact del_self
   · rw [del_ne hb]; exact I2.free
 · by_cases hcc:c'=c
   · rw [hcc]; exact .inl del_self
   · rw [del_ne hcc]
     refine (I2.freeC y c' e).imp id fun ⟨z,q⟩=>⟨?_,q⟩
     have hy:y≠x:=fun w=>hcc (Option.some.inj ((w ▸ e).symm.trans hc))
     have z':(X.fn y && y != x)=false:=z
     rw [Bool.and_eq_false_iff] at z'
     exact z'.elim id fun t=>absurd (bne_eq_false_iff_eq.mp t) hy
 · obtain ⟨e,n,r⟩:=I2.pin p hp
   refine ⟨e,?_,r⟩
   by_cases hb:p.1=c
   · rw [hb]; exact del_self
   · rw [del_ne hb]; exact n
 · have hb:b≠c:=fun z=>by rw [z,del_self] at e; cases e
   rw [del_ne hb] at e
   refine (I2.hok b q e).stay (fun _ _ _ z=>z) (fun d z=>?_) fun d xs z=>?_
   · rw [del_ne (nt d _ z (by intro _ _ t; cases t))]; exact z
   · rw [del_ne (nt d _ z (by intro _ _ t; cases t))]; exact z
theorem pe_fix {i:Nat} {x:Str} {c:Addr} {e:Expr} {t:TE} (hN:X.N[i]? = some x) (hk:X.env.scope.names.lookup x=some .cell) (hc:X.env.cells.lookup x=some c) (hf:X.fn x=true) (he:PE (X.fix x) e t):PE X e (tFix i c t):=by
 intro pins s σ H Q I h
 obtain ⟨v,hv,h⟩:=h
 obtain ⟨hH,n0,o,u,hd,ru,I1⟩:=I.fixOn hN hk hc hf hv
 refine wpAny_mono (he pins s σ _ _ I1 (h o u hd ru hH)) (fun r s' q=>?_) fun _ _ z=>z
 obtain ⟨w',H',I2,rw',q⟩:=q
 exact ⟨w',del H' c,I2.fixOff I.ok hc n0,rw',q⟩
def delE (c:Addr) (D:Ends):Ends:={ nx:=fun σ H'=>D.nx σ (del H' c),rt:=fun v H'=>D.rt v (del H' c),bk:=fun σ H'=>D.bk σ (del H' c),ct:=fun σ H'=>D.ct σ (del H' c) }
def tFixS (i:Nat) (c:Addr) (t:TS):TS:=fun D σ H=>∃ v,σ[i]? = some (some v)∧∀ o u,o.data=.cell (some u)→RelV v u→H c=none→t (delE c D) σ (upd H c (fzO o))
theorem ps_fix {i:Nat} {x:Str} {c:Addr} {st:Stmt} {t:TS} (hN:X.N[i]? = some x) (hk:X.env.scope.names.lookup x=some .cell) (hc:X.env.cells.lookup x=some c) (hf:X.fn x=true) (he:PS (X.fix x) st t):PS X st (tFixS i c t):=by
 intro pins s σ H D I h
 obtain ⟨v,hv,h⟩:=h
 obtain ⟨hH,n0,o,u,hd,ru,I1⟩:=I.fixOn hN hk hc hf hv
 refine wpAny_mono (he pins s σ _ _ I1 (h o u hd ru hH)) (fun f s' q=>?_) fun _ _ z=>z
 cases f with
 | next=>obtain ⟨σ',H',J,q⟩:=q; exact ⟨σ',del H' c,J.fixOff I.ok hc n0,q⟩
 | brk=>obtain ⟨σ',H',J,q⟩:=q; exact ⟨σ',del H' c,J.fixOff I.ok hc n0,q⟩
 | cont=>obtain ⟨σ',H',J,q⟩:=q; exact ⟨σ',del H' c,J.fixOff I.ok hc n0,q⟩
 | ret u=>obtain ⟨v,σ',H',J,r,q⟩:=q; exact ⟨v,σ',del H' c,J.fixOff I.ok hc n0,r,q⟩
def CodeF (H:Hp) (c:Addr) (q:Str):Prop:=∃ (o:Obj) (vs:Array Value) (t:Tok),H c=some (fzO o)∧o.data=.fields vs∧vs[1]? = some (.str q t)
def TabF (H:Hp) (P:Addr) (q:Str):Prop:=∃ ps:Array Value,H P=some (.tbl ps)∧TriplesOk ps.toList∧∀ pos cv,codeAmong pos ps.toList=some cv→∃ c,cv=.ref c∧CodeF H c q
def BltK (K:PySem.W.Frag) (mg:Str→Option Value):Prop:=∃ (bm:Addr) (o:Obj),mg "__builtins__" = some (.ref bm)∧bm≠builtinsNs∧bm≠mainGlobals∧K.lookup bm=some o∧o.cls=.type "module" ∧ o.dict=some builtinsNs∧o.data=.plain
def LamF (H:Hp) (a:Addr) (q:Str) (params:Arguments) (body:Expr) (scope:Scope) (clos:List (Str×Addr)) (pm:Value):Prop :=
 ∃ (c:Addr) (ct:Value),H a=some (fzO { cls:=.type "function",data:=.func (PySem.W.kla_fn "<lambda>" q params body scope clos pm (.ref c) ct) })∧CodeF H c q
def KeepP (P:Addr) (H H':Hp):Prop:=∀ b o,b≠P→H b=some o→H' b=some o
theorem CodeF.keep {P c:Addr} {H':Hp} {q:Str} (x:CodeF H c q) (k:KeepP P H H') (n:c≠P):CodeF H' c q:=let ⟨o,vs,t,e,r⟩:=x; ⟨o,vs,t,k _ _ n e,r⟩
theorem CodeF.neP {P c:Addr} {q:Str} {ps:Array Value} (x:CodeF H c q) (e:H P=some (.tbl ps)):c≠P:=fun z=>by
 obtain ⟨o,vs,t,e',_⟩:=x
 rw [z,e] at e'; cases e'
theorem among_snoc {p:Pos} {a b:Int} {c v:Value}:∀ l:List Value,TriplesOk l→codeAmong p (l++[rawInt a,rawInt b,c])=some v→codeAmong p l=some v∨v=c
 | [],_,h=>by
   right
   simp only [List.nil_append,rawInt,codeAmong] at h
   split at h
   · exact (Option.some.inj h).symm
   · cases h
 | .int x t :: .int y u :: z :: r,ht,h=>by
   simp only [List.cons_append,codeAmong] at h ⊢
   split at h
   · rename_i q; left; rw [if_pos q]; exact h
   · rename_i q; rw [if_neg q]; exact among_snoc r ht h
def tLam (mg:Str→Option Value) (P:Addr) (q:Str) (params:Arguments) (body:Expr) (scope:Scope) (clos:List (Str×Addr)):TE:=fun _ H Q=>TabF H P q∧∀ a H',KeepP P H H'→TabF H' P q→H a=none→a≠P→LamF H' a q params body scope clos ((mg "__name__").getD .none)→Q (.ref a) H'
theorem pe_lam {params:Arguments} {body:Expr} {scope:Scope} {pos:Pos} {clos:List (Str×Addr)} {cc P:Addr} {q:Str} (hdef:defaultsOf params X.env=([],[])) (hcl:closureFor scope X.env=pure clos) (hcode:X.env.code=.ref cc)
 (hq:X.env.qual ++ "<lambda>" = q) (CK:∀ h,X.K.In h→PySem.W.CodeHd h cc P) (BK:BltK X.K X.mg):PE X (.Lambda params body scope pos) (tLam X.mg P q params body scope clos):=by
 intro pins s σ H Q I h
 obtain ⟨⟨ps,hP,ht,hcs⟩,k⟩:=h
 have tab:s.heap.get? P=some (PySem.W.tabObj ps):=I.hok P _ hP
 have g:s.heap.Ns mainGlobals X.mg:=I.mod.glob.keeps I.bk
 have nB:∀ b o,X.base.get? b=some o→b≠P:=fun b o e z=>by
  have:=(I.bs b o e).2
  rw [z,hP] at this; cases this
 have gP:mainGlobals≠P:=by
  obtain ⟨o,_,_,e,_⟩:=I.mod.glob
  exact nB _ o e
 have bat:s.heap.BuiltinsAt X.mg P:=by
  obtain ⟨bm,o,h1,h2,h3,h4,h5⟩:=BK
  exact ⟨bm,o,h1,h2,h3,nB _ o (I.mod.kin _ _ h4),I.kIn _ _ h4,h5⟩
 refine PySem.W.kla_eval hdef ?_
 rw [hq]
 cases hc:codeAmong pos ps.toList with
 | some cv =>
   obtain ⟨c,rfl,cf⟩:=hcs pos cv hc
   refine PySem.W.kla_makeFunctionHit (mg:=X.mg) hcl I.ok.glob g hcode (CK _ I.kIn) tab ht hc bat fun ctv h' tk kp sz=>?_
   have na:H h'.objs.size=none:=I.hok.fresh sz
   have un:∀ b o,H b=some o→b≠h'.objs.size:=fun b o e z=>by rw [z,na] at e; cases e
   refine ⟨.ref h'.objs.size,upd H h'.objs.size (fzO _),I.laid (t':=tk) (fun b u e=>Heap.get?_push_of_some _ (kp b u e)) sz (fz_ok (Heap.get?_push_size h' rfl)),rfl,?_⟩
   have kk:KeepP P H (upd H h'.objs.size (fzO { cls:=.type "function",data:=.func (PySem.W.kla_fn "<lambda>" q params body scope clos ((X.mg "__name__").getD .none) (.ref c) ctv) })):=fun b o _ e=>by rw [upd_ne (un b o e)]; exact e
   have cf':∀ {d:Addr},CodeF H d q→CodeF (upd H h'.objs.size (fzO { cls:=.type "function",data:=.func (PySem.W.kla_fn "<lambda>" q params body scope clos ((X.mg "__name__").getD .none) (.ref c) ctv) })) d q:=fun x=>x.keep kk (x.neP hP)
   refine k _ _ kk ⟨ps,by rw [upd_ne (un _ _ hP)]; exact hP,ht,fun p v e=>?_⟩ na (fun z=>un _ _ hP z.symm) ⟨c,ctv,upd_same,cf' cf⟩
   obtain ⟨d,e1,e2⟩:=hcs p v e
   exact ⟨d,e1,cf' e2⟩
 | none =>
   refine PySem.W.kla_makeFunction (mg:=X.mg) hcl I.ok.glob g hcode (CK _ I.kIn) tab ht hc gP bat fun c ctv h' tk ext hge hlt hrec htab=>?_
   obtain ⟨c0,oc,vs,tq,ec,hoc,hdc,hqc⟩:=hrec
   cases ec
   generalize hfo:({ cls:=.type "function",data:=.func (PySem.W.kla_fn "<lambda>" q params body scope clos ((X.mg "__name__").getD .none) (.ref c) ctv) }:Obj)=fo
   have ff:fo.isFreed=false:=by rw [← hfo]; rfl
   have nc:H c=none:=I.hok.fresh hge
   have sz:s.heap.objs.size≤h'.objs.size:=Nat.le_trans hge (Nat.le_of_lt hlt)
   have na:H h'.objs.size=none:=I.hok.fresh sz
   have cP:c≠P:=fun z=>by rw [z,hP] at nc; cases nc
   have aP:h'.objs.size≠P:=fun z=>by rw [z,hP] at na; cases na
   have ac:h'.objs.size≠c:=Nat.ne_of_gt hlt
   have kp:∀ b o,b≠P→s.heap.get? b=some o→(h'.push fo).get? b=some o:=fun b o n e=>Heap.get?_push_of_some _ (ext b o n e)
   have nP:∀ b,H b=none→b≠P:=fun b n z=>by rw [z,hP] at n; cases n
   generalize hps:ps++#[rawInt pos.line,rawInt pos.col,.ref c]=ps' at htab
   generalize hH':upd (upd (upd H P (.tbl ps')) c (fzO oc)) h'.objs.size (fzO fo)=H'
   have atP:H' P=some (.tbl ps'):=by rw [← hH',upd_ne (Ne.symm aP),upd_ne (Ne.symm cP)]; exact upd_same
   have atc:H' c=some (fzO oc):=by rw [← hH',upd_ne (Ne.symm ac)]; exact upd_same
   have ata:H' h'.objs.size=some (fzO fo):=by rw [← hH']; exact upd_same
   have oth:∀ b,b≠P→b≠c→b≠h'.objs.size→H' b=H b:=fun b h1 h2 h3=>by rw [← hH',upd_ne h3,upd_ne h2,upd_ne h1]
   have tr:∀ b o,b≠P→H b=some o→H' b=some o:=fun b o n e=>by
    rw [oth b n (fun z=>by rw [z,nc] at e; cases e) (fun z=>by rw [z,na] at e; cases e)]; exact e
   have I1:Inv X pins σ H' { s with heap:=h'.push fo,toks:=tk }:=by
    refine I.step (g':=s.gens) (d':=s.drawn) (ch:=[]) (fun _ z=>nomatch z) (fun b o _ _ _ e n=>kp b o (nP b n) e) (fun b o _ _ _ e n=>⟨o.slots,kp b o (nP b n) e⟩) (fun b o _ e n=>?_) (fun b o _ e=>?_) (fun b xs e=>tr b _ ?_ e) (fun b o u e=>tr b _ ?_ e)
     (fun b qs e=>?_) (fun m hm=>?_) (fun b u e=>?_) I.bare
    · have lb:=Heap.lt_size e
      rw [oth b (nP b n) (Nat.ne_of_lt (Nat.lt_of_lt_of_le lb hge)) (Nat.ne_of_lt (Nat.lt_of_lt_of_le lb sz))]; exact n
    · by_cases hb:b=P
      · exact ⟨_,hb ▸ Heap.get?_push_of_some _ htab⟩
      · exact ⟨o,kp b o hb e⟩
    · intro z; rw [z,hP] at e; cases e
    · intro z; rw [z,hP] at e; cases e
    · by_cases hb:b=P
      · subst hb; rw [hP] at e; cases e
        exact ⟨_,by rw [hps]; exact atP⟩
      · exact ⟨#[],by rw [Array.append_empty]; exact tr b _ hb e⟩
    · obtain ⟨o,es,ep,ho,r⟩:=hm
      exact ⟨o,es,ep,kp _ o (nP _ I.free) ho,r⟩
    · by_cases h1:b=P
      · subst h1; rw [atP] at e; cases e
        exact Heap.get?_push_of_some _ htab
      · by_cases h2:b=c
        · subst h2; rw [atc] at e; cases e
          exact fz_ok (Heap.get?_push_of_some _ hoc)
        · by_cases h3:b=h'.objs.size
          · subst h3; rw [ata] at e; cases e
            exact fz_ok (Heap.get?_push_size h' ff)
          · rw [oth b h1 h2 h3] at e
            refine (I.hok b u e).stay (fun d v hd z=>kp d v ?_ z) (fun d z=>tr d _ ?_ z) fun d xs z=>tr d _ ?_ z
            · rcases hd with r | r
              · rw [r]; exact h1
              · intro z'; rw [z',hP] at r; cases r
            · intro z'; rw [z',hP] at z; cases z
            · intro z'; rw [z',hP] at z; cases z
   have cfc:CodeF H' c q:=⟨oc,vs,tq,atc,hdc,hqc⟩
   subst hfo
   refine ⟨.ref h'.objs.size,H',I1,rfl,k _ _ tr ⟨ps',atP,?_,fun p v e=>?_⟩ na aP ⟨c,ctv,ata,cfc⟩⟩
   · rw [← hps,Array.toList_append]
     exact TriplesOk_snoc _ _ _ _ ht
   · rw [← hps,Array.toList_append] at e
     rcases among_snoc ps.toList ht e with e' | e'
     · obtain ⟨d,e1,e2⟩:=hcs p v e'
       exact ⟨d,e1,e2.keep tr (e2.neP hP)⟩
     · exact ⟨c,e',cfc⟩
end
end L2
namespace L2
open PySem PySem.Spec PyProof.Rows
section
variable {P:Program} {w:World} {K:PySem.W.Frag} {mg:Str→Option Value} {base:Heap}
def LamOk (P:Program) (w:World) (K:PySem.W.Frag) (mg:Str→Option Value) (base:Heap) (k:Nat) (a:Addr) (sp:Hp→VK→XK→Prop):Prop :=
 ∀ (A:Around) (outer:List Env) (s:Shared) (H:Hp) (Q:VK) (E:XK),Room k A→Env0 P w K mg base A outer s H→sp H Q E→codeAny (model P w) A (.call (.ref a) ⟨[],[]⟩) (CR (CX1 P w) outer P w H s Q E) s
abbrev lamEnv (scope:Scope) (L:Addr) (clos:List (Str×Addr)) (q:Str) (a:Addr) (cd:Value):Env:=newEnv scope L mainGlobals clos (q ++ ".<locals>.") (some a) cd none builtinsNs
def cxL (P:Program) (w:World) (K:PySem.W.Frag) (mg:Str→Option Value) (base:Heap) (N:List Str) (env:Env) (A:Around) (outer:List Env) (s:Shared) (H:Hp) (E:XK):Cx where
 prog:=P
 w:=w
 K:=K
 mg:=mg
 base:=base
 A:=A.deeper env
 N:=N
 s₀:=s
 H₀:=H
 env:=env
 outer:=outer
 stack:=env :: outer
 ex:=[]
 calm:=true
 fn:=fun _=>false
 pn:=[]
 xe:=fun e s'=>wpAny (model P w) (A.deeper env) (leaving env e) (fun _ s''=>CX1 P w outer H s E e s'') (fun e' s''=>CX1 P w outer H s E e' s'') s'
theorem xeOkL {N:List Str} {scope:Scope} {L:Addr} {clos:List (Str×Addr)} {q:Str} {a:Addr} {cd:Value} {A:Around} {outer:List Env} {s:Shared} {H:Hp} {E:XK}:XeOk (cxL P w K mg base N (lamEnv scope L clos q a cd) A outer s H E) E :=
 ⟨rfl,rfl,rfl,fun _ _ h=>wpAny_mono h (fun _ _ z=>z) fun _ _ z=>z.elim⟩
theorem lam_of {q:Str} {params:Arguments} {body:Expr} {scope:Scope} {clos:List (Str×Addr)} {pm:Value} {N:List Str} {k:Nat} {a:Addr} {sp:Hp→VK→XK→Prop} (hk:scope.kind=.function) (hco:scope.isCoroutine=false) (hgen:scope.isGenerator=false)
 (hnc:∀ x∈scope.names,x.2≠.cell) (hb:∀ cd ct,bindArgs (PySem.W.kla_fn "<lambda>" q params body scope clos pm cd ct) ⟨[],[]⟩=pure []) (inj:∀ x y c,clos.lookup x=some c→clos.lookup y=some c→x=y)
 (has:∀ x,scope.names.lookup x=some .free→∃ c,clos.lookup x=some c) (hfree:∀ (i:Nat) x,N[i]? = some x→scope.names.lookup x=some .free)
 (hf:∀ H Q E,sp H Q E→LamF H a q params body scope clos pm∧∀ x c,clos.lookup x=some c→∃ o v,H c=some (fzO o)∧o.data=.cell v)
 (h:∀ (A:Around) (outer:List Env) (s:Shared) (H:Hp) (Q:VK) (E:XK) (cd:Value),Room k (A.deeper (lamEnv scope s.heap.objs.size clos q a cd))→sp H Q E →
   ∃ (σ:St) (t:TE),σ.length=N.length∧(∀ (i:Nat) x v,N[i]? = some x→σ[i]? = some (some v)→∃ c,clos.lookup x=some c∧CellF H c v)∧PE (cxL P w K mg base N (lamEnv scope s.heap.objs.size clos q a cd) A outer s H E) body t∧t σ H Q) :
 LamOk P w K mg base (k+1) a sp:=by
 intro A outer s H Q E hr e0 hs
 obtain ⟨⟨c,ct,hA,oc,vs,tq,hc,hdc,hqc⟩,hcl⟩:=hf H Q E hs
 obtain ⟨σ,t,hσ,hloc,pe,ht⟩:=h A outer s H Q E (.ref c) (hr.deeper _) hs
 have lim:s.heap.NoLimit:=e0.mod.nolimit.keeps fun b o e=>(e0.bs b o e).1
 refine PySem.W.kla_callFunE hr.depth (e0.hok a _ hA).1 rfl hco hgen rfl ⟨c,oc,vs,tq,rfl,(e0.hok c _ hc).1,hdc,hqc⟩ ?_
 rw [hb]
 refine wpAny_pure (wpAny_newFunctionEnv hnc (fun x hx=>nomatch hx) (fun h1 hn sb=>?_) hk)
 have kp:∀ b o,s.heap.get? b=some o→h1.get? b=some o:=fun b o e=>(sb.2 b (Nat.ne_of_lt (Heap.lt_size e))).trans (Heap.get?_push_of_some _ e)
 have cel:∀ {x:Str} {d:Addr},clos.lookup x=some d→∃ v,h1.IsCell d v:=fun {x d} e=>by
  obtain ⟨o,v,h1',h2⟩:=hcl x d e
  exact ⟨v,o,kp _ _ (e0.hok d _ h1').1,h2⟩
 have nil:∀ b:Addr,b∉([]:List Addr):=fun b z=>by simp at z
 have I:Inv (cxL P w K mg base N (lamEnv scope s.heap.objs.size clos q a (.ref c)) A outer s H E) [] σ H { s with heap:=h1,toks:=s.toks+([]:List (Str×Value)).length }:=by
  refine ⟨⟨e0.mod,hk,rfl,rfl,Nat.le_refl _,inj,fun x hx=>?_,fun x d z _=>(nomatch z),fun _=>hr.hd,Around.frames_deeper e0.frames,.inr ⟨rfl,rfl⟩,fun b z=>absurd z (nil b),e0.bs,e0.bsz,fun b _ _=>nil b,fun b z=>absurd z (nil b),e0.funs,e0.frf⟩,
   rfl,e0.bare,Un.kept kp,⟨_,hn,fun i x v e1 e2 _=>?_⟩,fun x d e=>cel e,e0.hok.fresh (Nat.le_refl _),fun x d e=>?_,fun p hp=>absurd (show p∈([]:List (Addr×Obj)) from hp) (by simp),e0.hok.kept kp,hσ⟩
  · rcases hx with z | z
    · exact absurd rfl (hnc _ (PySem.mem_of_lookup (show scope.names.lookup x=some .cell from z)))
    · exact has x z
  · obtain ⟨d,e3,o,u,e4,e5,r⟩:=hloc i x v e1 e2
    exact ⟨u,r,.inr ⟨.inr (hfree i x e1),d,e3,o,kp _ _ (e0.hok d _ e4).1,e5⟩⟩
  · obtain ⟨o,v,e1,_⟩:=hcl x d e
    exact .inr ⟨rfl,o,_,e1⟩
 refine ⟨lim.keeps kp,PySem.W.kla_codeExpr ?_⟩
 refine wpAny_mono (pe [] _ σ H _ I ht) (fun u s' hq=>?_) fun e s' hq=>hq
 obtain ⟨v,H',J,r,q'⟩:=hq
 exact ⟨v,H',J.os,J.bare,J.base,J.hok,r,q'⟩
end
section
variable {X:Cx}
theorem pe_callL {i k j:Nat} {x:Str} {E:XK} {p pos:Pos} (P:Program) (w:World) (K:PySem.W.Frag) (mg:Str→Option Value) (base:Heap) (hp:X.prog=P∧X.w=w∧X.K=K∧X.mg=mg∧X.base=base) (hN:X.N[i]? = some x) (hv:Vis X.env.scope x) (hx:Passes (CX1 X.prog X.w) X E) (hr:Room j X.A) (hj:k≤j) (hd:(x == ("__debug__" : Str))=false:=by decide) (hcd:(x == ("__classdict__" : Str))=false:=by decide) :
 PE X (.Call (.Name x p) [] [] pos) (fun σ H Q=>∃ a sp o fd,σ[i]? = some (some (.ref a))∧H a=some (fzO o)∧o.data=.func fd∧LamOk P w K mg base k a sp∧sp H Q E):=by
 obtain ⟨rfl,rfl,rfl,rfl,rfl⟩:=hp
 rintro pins s σ H Q I ⟨a,sp,o,fd,ha,hA,hf,L,hs⟩
 refine wpAny_Call_Name_kw (thn (pe_var (pos:=p) hN hv hd hcd pins s σ H (fun v H1=>v=.ref a∧H1=H) I ⟨_,ha,rfl,rfl⟩) fun f s1 ⟨v,H1,I1,r,e1,e2⟩=>?_)
 subst e1 e2
 obtain rfl:f=.ref a:=r
 refine Calls.callWith_function (first:=[]) (PySem.evalArgs_none ⟨⟨(I1.hok a _ hA).1,hf⟩,?_⟩)
 refine wpAny_call (codeAny_mono (L X.A X.stack s1 H1 Q E (hr.mono hj) I1.env0 hs) fun r s' hq=>?_)
 cases r with
 | error e=>exact hx pins σ H1 s1 e s' I1 hq
 | ok fl =>
   cases fl with
   | ret u=>exact I1.after hq
   | next=>exact False.elim hq
   | brk=>exact False.elim hq
   | cont=>exact False.elim hq
end
end L2
namespace L2
open PySem PySem.Spec PyProof.Rows
structure RoomH (k:Nat) (A:Around):Prop where
 dp:A.depth+3 * k+5 < recursionLimit
 un:A.units+16 * k+200 < cLine
 gd:A.guards=some []
theorem RoomH.mono {j k:Nat} {A:Around} (r:RoomH k A) (h:j≤k):RoomH j A:=⟨by have:=r.dp; omega,by have:=r.un; omega,r.gd⟩
theorem RoomH.deeper {k:Nat} {A:Around} (r:RoomH (k+1) A) (env:Env):RoomH k (A.deeper env) :=
 ⟨by have:=r.dp; show A.depth+1+3 * k+5 < _; omega,by have:=r.un; show A.units+3+16 * k+200 < _; omega,r.gd⟩
theorem Room.marked {k:Nat} {A:Around} (r:Room k A) (e:Option Value):RoomH k (A.mark e):=⟨r.dp,r.un,r.gd⟩
structure FnOkH (P:Program) (w:World) (K:PySem.W.Frag) (mg:Str→Option Value) (base:Heap) (k:Nat) (f:Addr) (fd:FuncData) (ps:List Str) (sp:Sp):Prop where
 len:∀ vs H Q E,sp vs H Q E→vs.length=ps.length
 run:∀ (A:Around) (outer:List Env) (s:Shared) (H:Hp) (args:Args) (us:List Value) (vs:List V) (Q:VK),RoomH k A→Env0 P w K mg base A outer s H→BindsTo s fd args (ps.zip us)→Vals vs us→sp vs H Q E0 →
  codeAny (model P w) A (.call (.ref f) args) (CR CX0 outer P w H s Q E0) s
def cxH (P:Program) (w:World) (K:PySem.W.Frag) (mg:Str→Option Value) (base:Heap) (N:List Str) (qual:Str) (scope:Scope) (f:Addr) (cd:Value) (A:Around) (outer:List Env) (s:Shared) (H:Hp):Cx :=
 { cxOf CX0 P w K mg base N qual scope f cd A outer s H E0 with calm:=false,xe:=fun _ _=>False }
section
variable {P:Program} {w:World} {K:PySem.W.Frag} {mg:Str→Option Value} {base:Heap}
theorem Fun.okH {x qual:Str} {st:Stmt} {f:Addr} {fd:FuncData} {N ps:List Str} {k:Nat} {sp:Sp} (F:Fun K x qual st f fd) (S:FnScope N ps (defScope st)) (len:∀ vs H Q E,sp vs H Q E→vs.length=ps.length)
 (hbody:∀ (cdv:Value) (A:Around) (outer:List Env) (s:Shared) (H:Hp) (vs:List V) (Q:VK),RoomH k (A.deeper (envOfC qual (defScope st) s.heap.objs.size f cdv))→sp vs H Q E0 →
   ∃ t,PSs (cxH P w K mg base N qual (defScope st) f cdv A outer s H) (defBody st) t∧t { nx:=fun _ H'=>Q .non H',rt:=Q } (start N vs) H):FnOkH P w K mg base (k+1) f fd ps sp:=by
 obtain ⟨oc,od,kV,doc,pm,an,cdv,ct,osl,rfl,lk,hcd⟩:=F.ex
 refine ⟨len,fun A outer s H args us vs Q hr e0 hb r hsp=>?_⟩
 have hl:=len _ _ _ _ hsp
 have KX:K.In s.heap:=e0.mod.kin.keeps fun b o e=>(e0.bs b o e).1
 have lim:s.heap.NoLimit:=e0.mod.nolimit.keeps fun b o e=>(e0.bs b o e).1
 have hkind:∀ y∈ps.zip us,(defScope st).names.lookup y.1=some .local∨((defScope st).names.lookup y.1=some .cell∧((cellsFrom (s.heap.objs.size+1) (defScope st).names []).lookup y.1).isSome=true):=fun ⟨n,v⟩ hy=>by
  rcases S.par n (List.of_mem_zip hy).1 with q | q
  · exact .inl q
  · exact .inr ⟨q,PySem.W.cellsFrom_some _ _ _ (.inl q)⟩
 refine codeAny_call_function (by have:=hr.dp; omega) (KX _ _ lk) rfl S.co S.gen rfl (PySem.W.codeRec_of KX hcd) (hb _ _ _ _ ?_)
 refine wpAny_newFunctionEnv_cells S.kind hkind fun env he s1 x=>?_
 subst he
 refine ⟨lim.keeps x.toInCall.keep,codeAny_func ?_⟩
 obtain ⟨t,ht,hq⟩:=hbody cdv A outer s H vs Q (hr.deeper _) hsp
 have e1:Env0 P w K mg base { A with handled:=none } outer s H:=⟨e0.frames,e0.mod,e0.bs,e0.bsz,e0.funs,e0.frf,e0.hok,e0.bare⟩
 have I0:Inv (cxOf CX0 P w K mg base N qual (defScope st) f cdv { A with handled:=none } outer s H E0) [] (start N vs) H s1:=inv_start S rfl e1 hl r x
 have I:Inv (cxH P w K mg base N qual (defScope st) f cdv A outer s H) [] (start N vs) H s1 :=
  let ok:=I0.ok
  ⟨⟨ok.mod,ok.kind,ok.glob,ok.blt,ok.above,ok.inj,ok.has,ok.cab,fun z=>(nomatch z),Around.frames_deeper e0.frames,ok.stk,ok.exf,ok.bs,ok.bsz,ok.noex,ok.exfs,ok.funs,ok.frf⟩,I0.os,I0.bare,I0.base,I0.loc,I0.cell,I0.free,I0.freeC,I0.pin,I0.hok,I0.len⟩
 refine wpAny_mono (ht [] s1 (start N vs) H _ I hq) (fun fl s' hs=>?_) fun e s' hs=>hs.elim
 have fin:∀ {σ':St} {H':Hp} {v:V} {u:Value},Inv (cxH P w K mg base N qual (defScope st) f cdv A outer s H) [] σ' H' s'→RelV v u→Q v H'→CE outer P w H s Q u s' :=
  fun {σ' H' v u} J rv q=>⟨v,H',J.os,J.bare,J.base,J.hok,rv,q⟩
 cases fl with
 | ret u =>
   obtain ⟨v,σ',H',J,rv,q⟩:=hs
   exact fin J rv q
 | next =>
   obtain ⟨σ',H',J,q⟩:=hs
   exact fin (v:=V.non) (u:=Value.none) J rfl q
 | brk =>
   obtain ⟨_,_,_,q⟩:=hs
   exact False.elim q
 | cont =>
   obtain ⟨_,_,_,q⟩:=hs
   exact False.elim q
structure CalH (P:Program) (w:World) (K:PySem.W.Frag) (mg:Str→Option Value) (base:Heap) (x:Str) (k:Nat) (ps:List Str) (sp:Sp):Prop where
 ex:∃ (f:Addr) (fd:FuncData),FnOkH P w K mg base k f fd ps sp∧mg x=some (.ref f)∧PySem.W.keepIn K (.ref f)=true∧Binds K fd ps []
theorem pe_calH {X:Cx} {x:Str} {k j:Nat} {ps:List Str} {sp:Sp} {p pos:Pos} {e:Expr} {es:List Expr} {t:TA} (C:CalH X.prog X.w X.K X.mg X.base x k ps sp) (hr:RoomH j X.A) (hj:k≤j) (hg:Gl X x) (ha:PA X (e :: es) t)
 (hdb:(x == ("__debug__" : Str))=false:=by decide) (he:starEach (e :: es) X.env=(false,eval e X.env) :: starEach es X.env:=by rfl) (hpl:(backTo pos (starEach es X.env)).any (·.1)=false:=by rfl) :
 PE X (.Call (.Name x p) (e :: es) [] pos) (fun σ H Q=>t σ H fun vs H1=>sp vs H1 Q E0):=by
 obtain ⟨f,fd,F,hm,hk,hb⟩:=C.ex
 intro pins s σ H Q I h
 refine wpAny_Call_Name_kw (ld_glob I hg hm ?_ hdb)
 refine PySem.W.callWith_K (h₀:=X.base) I.ok.mod.kin hk (thn (ha pos pins s σ H _ I h) fun us s1 ⟨vs,H1,I1,r,q⟩=>⟨I1.kIn,?_⟩) he hpl
 have hl:us.length=ps.length:=by rw [← r.length]; exact F.len _ _ _ _ q
 have hb':=hb s1 us I1.kIn (by rw [List.append_nil]; exact hl)
 rw [List.append_nil] at hb'
 refine wpAny_call (codeAny_mono (F.run X.A X.stack s1 H1 ⟨us,[]⟩ us vs Q (hr.mono hj) I1.env0 hb' r q) fun r s' hq=>?_)
 cases r with
 | error e=>exact False.elim hq
 | ok fl =>
   cases fl with
   | ret u=>exact I1.after hq
   | next=>exact False.elim hq
   | brk=>exact False.elim hq
   | cont=>exact False.elim hq
end
end L2
namespace L2
open PySem PySem.Spec PyProof.Rows
section
variable {X:Cx}
theorem eqT_bl:EqT X 0 (fun _ v (b:Bool)=>v=.bl b):=by
 intro A pins σ H s v u a b x y hu I h1 h2 r1 r2
 subst h1 h2
 obtain rfl:a=.bool x:=r1
 obtain rfl:b=.bool y:=r2
 have e:(x == y)=decide (x=y):=by cases x <;> cases y <;> rfl
 exact e ▸ SeqAt.EqAt.bool_bool x y
theorem al_bl {H:Hp}:∀ (bs:List Bool),Al (fun v b=>v=V.bl b) (bs.map V.bl) bs:=fun bs=>⟨by rw [List.length_map],fun i v b e1 e2=>by
 rw [List.getElem?_map,e2] at e1
 exact (Option.some.inj e1).symm⟩
theorem mt_indexB (hu:X.A.units+1 < cLine):MtR X "list.index" (fun x xs H Q=>∃ (p:Addr) (bs:List Bool) (j:Nat),x=.ref p∧xs=[.bl true]∧H p=some (.lst (bs.map V.bl))∧bs[j]? = some true∧(∀ m,m < j→bs[m]?≠some true)∧bs.length≤1000∧Q (.int j) H):=by
 intro pins s σ H x xs v us Q I rx rv h
 obtain ⟨p,bs,j,rfl,rfl,e,h1,h2,h3,q⟩:=h
 exact mt_indexG (eqT_bl (X:=X)) (fun _ _ _ _ a b=>by rw [a] at b; exact V.bl.inj b) (by omega) pins s σ H _ _ v us Q I rx rv ⟨p,_,bs,_,true,j,rfl,rfl,e,al_bl (H:=H) bs,rfl,h1,h2,h3,q⟩
structure ExcLook (K:PySem.W.Frag) (C:Addr):Prop where
 cls:(PySem.W.clsIn K C).isSome=true
 ga:PySem.W.findIn K (.ref C) "__getattribute__" = some (some (.builtin "BaseException.__getattribute__"))
 gt:PySem.W.findIn K (.ref C) "__getattr__" = some none
 find:PySem.W.findObj K C none "__class__" = some (.bind (.builtin "getset_descriptor.__get__") (.builtin "object.__class__"))
 mro:PySem.W.mroIn K C (.type "object")=some true
 bas:PySem.W.mroIn K C (.type "BaseException")=some true
section
variable {prog:Program} {w:World} {A:Around} {E:Value→Shared→Prop} {h:Heap} {g:Array GenState} {d:PySem.Drawn} {t:Nat} {os:OsState} {x C:Addr} {ox:Obj} {K:PySem.W.Frag}
theorem exc_entry {tk:Tok} {Q:Fin→Shared→Prop} (X:K.In h) (I:PySem.W.InstAt h x ox C none) (Z:ExcLook K C) (hq:Q (.done (.ret (.ref C))) ⟨h,g,d,t,os⟩) :
 wpAny (model prog w) A (Builtin.«object.__getattribute__» ⟨[.ref x,.str "__class__" tk],[]⟩) Q E ⟨h,g,d,t,os⟩:=by
 have L0:=I.type (M:=model prog w)
 have L1:=PySem.W.looks_find (M:=model prog w) X I Z.find
 unfold Builtin.«object.__getattribute__»
 repeat (any_goals (first | assumption | with_reducible refine L0.at ?_ | with_reducible refine L1.at ?_ | wp_step))
 refine PySem.W.class_get (s:=⟨h,g,d,t,os⟩) (ox:=ox) (od:=none) X I Z.mro ?_
 repeat (any_goals (first | assumption | wp_step))
theorem exc_check {M:Model} {nameV:Value} {Q:Unit→Shared→Prop} (X:K.In h) (I:PySem.W.InstAt h x ox C none) (Z:ExcLook K C) (hq:Q () ⟨h,g,d,t,os⟩):wpAny M A (checkBuiltinCall "BaseException.__getattribute__" ⟨[.ref x,nameV],[]⟩) Q E ⟨h,g,d,t,os⟩:=by
 have two:(builtinKind "BaseException.__getattribute__",splitId "BaseException.__getattribute__")=(some .slot,some ("BaseException","__getattribute__")):=by decide +kernel
 obtain ⟨z1,z2⟩:=Prod.mk.inj two
 have fits:=F.args_bexc_ga (.ref x) nameV
 have L0:=I.type (M:=M)
 have L1:=PySem.W.looks_mroIn (M:=M) X Z.bas
 simp only [checkBuiltinCall,z1,z2]
 refine wpAny_bind ?_
 · unfold isInstance
   repeat (first | with_reducible refine L0.at ?_ | with_reducible refine L1.at ?_ | wp_step)
   exact hq
theorem exc_class {Q:Option Value→Shared→Prop} (X:K.In h) (I:PySem.W.InstAt h x ox C none) (Z:ExcLook K C) (hq:Q (some (.ref C)) ⟨h,g,d,t+1,os⟩) :
 wpAny (model prog w) A (getAttr? (.ref x) "__class__") Q E ⟨h,g,d,t,os⟩:=by
 have L0:=I.type (M:=model prog w)
 have L1:=PySem.W.looks_findIn (M:=model prog w) X Z.ga
 have L2:=PySem.W.looks_findIn (M:=model prog w) X Z.gt
 have f3:=F.attr_ValueError.ga.bind (.ref x)
 have un:(Value.builtin "BaseException.__getattribute__" == .builtin "object.__getattribute__")=false:=by decide +kernel
 have off:(onTheHeap (.ref C) && Value.builtin "BaseException.__getattribute__" == .builtin "object.__getattribute__")=false:=by rw [un]; rfl
 unfold getAttr? getAttrBy? getAttrBy
 repeat (any_goals (first | assumption | with_reducible refine L0.at ?_ | with_reducible refine L1.at ?_ | with_reducible refine L2.at ?_ | wp_step))
 refine codeAny_call_builtin F.attr_ValueError.ga.plain F.entry_bexc_ga (exc_check X I Z (exc_entry X I Z ?_))
 repeat (any_goals (first | assumption | wp_step))
end
theorem kitx_exc {K:PySem.W.Frag} {ea C:Addr} (Z:ExcLook K C):PySem.W.KitX K (.ref ea) (.ref C) (fun h=>∃ vs,FO h ea (.ref C) none vs) where
 ty:=fun M h _ ⟨vs,o,e,ec,_⟩=>ec ▸ (PySem.W.Looks.ld e).andThen .now
 it:=fun M h XK _=>by
  obtain ⟨cd,hc⟩:=Option.isSome_iff_exists.mp Z.cls
  unfold PySem.W.clsIn at hc
  split at hc
  · rename_i c' d' cd' sl' ho
    intro A' Q' E' s' k q
    unfold isType loadHead
    exact wpAny_bind (wpAny_loadPart (k _ _ (XK _ _ ho)) (wpAny_pure q))
  · cases hc
 ne:=fun h tp dd its n sl XK htp=>Bool.eq_false_iff.mpr fun q=>by
  have e:C=tp:=Value.ref.inj (beq_iff_eq.mp q)
  obtain ⟨cd,hc⟩:=Option.isSome_iff_exists.mp Z.cls
  unfold PySem.W.clsIn at hc
  split at hc
  · rename_i c' d' cd' sl' ho
    have z:=(XK _ _ ho).symm.trans (e ▸ htp)
    cases z
  · cases hc
 ca:=fun {prog w A E Q s} XK ⟨vs,o,e,ec,ed,ev⟩ k=>by
  have I:PySem.W.InstAt s.heap ea o C none:=⟨e,ec,by unfold PySem.W.notCls; rw [ev],by rw [ed]; trivial⟩
  obtain ⟨h,g,d,t,os⟩:=s
  exact exc_class XK I Z k
theorem call_isiE:CallR X (.builtin "isinstance") (fun xs H Q=>∃ (ea C:Addr) (d:V) (b:Bool),xs=[.ref ea,d]∧H ea=some (excA ea C)∧ExcLook X.K C∧((∃ D,d=.ref D∧PySem.W.kitOne X.K (.ref C) (.ref D)=some b)∨∃ T,d=.ty T∧PySem.W.kitOne X.K (.ref C) (.type T)=some b)∧Q (.bl b) H):=by
 intro pins s σ H xs us Q I r h
 obtain ⟨ea,C,d,b,rfl,hA,Z,hd,q⟩:=h
 obtain ⟨u,v,rfl,r1,r2⟩:=r.two
 cases (show u=.ref ea from r1)
 have ob:=(show ObjOk X.prog X.w H s.heap ea (excA ea C) from I.hok ea _ hA).1
 rcases hd with ⟨D,rfl,hk⟩ | ⟨T,rfl,hk⟩
 · cases (show v=.ref D from r2)
   exact PySem.W.kia_one (kitx_exc Z) I.kIn ob hk (by simp) fun tk=>⟨.bl b,H,I.tok _,rfl,q⟩
 · cases (show v=.type T from r2)
   exact PySem.W.kia_one (kitx_exc Z) I.kIn ob hk (by simp) fun tk=>⟨.bl b,H,I.tok _,rfl,q⟩
end
end L2
namespace L2
open PySem PySem.Spec PyProof.Rows
section
variable {P:Program} {w:World} {K:PySem.W.Frag} {mg:Str→Option Value} {base:Heap}
theorem FunD.okX {x qual:Str} {st:Stmt} {f:Addr} {fd:FuncData} {N ps:List Str} {k:Nat} {sp:Sp} (F:FunD K x qual st f fd) (S:FnScope N ps (defScope st)) (len:∀ vs H Q E,sp vs H Q E→vs.length=ps.length)
 (hbody:∀ (cdv:Value) (A:Around) (outer:List Env) (s:Shared) (H:Hp) (vs:List V) (Q:VK) (E:XK),Room k (A.deeper (envOfC qual (defScope st) s.heap.objs.size f cdv))→sp vs H Q E →
   ∃ t,PSs (cxOf (CX1 P w) P w K mg base N qual (defScope st) f cdv A outer s H E) (defBody st) t∧t { nx:=fun _ H'=>Q .non H',rt:=Q } (start N vs) H):FnOk P w K mg base (CX1 P w) (k+1) f fd ps sp:=by
 obtain ⟨oc,od,dV,kV,doc,pm,an,cdv,ct,osl,rfl,lk,hcd⟩:=F.ex
 exact fn_of lk hcd S len fun A outer s H vs Q E hr hsp=>hbody cdv A outer s H vs Q E hr hsp
theorem Fun.okC {x qual:Str} {st:Stmt} {f:Addr} {fd:FuncData} {N ps:List Str} {k:Nat} {sp:Sp} (F:Fun K x qual st f fd) (S:FnScope N ps (defScope st)) (len:∀ vs H Q E,sp vs H Q E→vs.length=ps.length)
 (hbody:∀ (cdv:Value),fd.code=cdv→∀ (A:Around) (outer:List Env) (s:Shared) (H:Hp) (vs:List V) (Q:VK) (E:XK),Room k (A.deeper (envOfC qual (defScope st) s.heap.objs.size f cdv))→sp vs H Q E →
   ∃ t,PSs (cxOf CX0 P w K mg base N qual (defScope st) f cdv A outer s H E).nox (defBody st) t∧t { nx:=fun _ H'=>Q .non H',rt:=Q } (start N vs) H):FnOk P w K mg base CX0 (k+1) f fd ps sp:=by
 obtain ⟨oc,od,kV,doc,pm,an,cdv,ct,osl,rfl,lk,hcd⟩:=F.ex
 refine fn_of lk hcd S len fun A outer s H vs Q E hr hsp=>?_
 obtain ⟨t,h,q⟩:=hbody cdv rfl A outer s H vs Q E hr hsp
 exact ⟨t,h.nox,q⟩
structure CalXD (P:Program) (w:World) (K:PySem.W.Frag) (mg:Str→Option Value) (base:Heap) (x:Str) (k:Nat) (ps:List Str) (dvs:List V) (sp:Sp):Prop where
 ex:∃ (f:Addr) (fd:FuncData) (ds:List Value),FnOk P w K mg base (CX1 P w) k f fd ps sp∧mg x=some (.ref f)∧PySem.W.keepIn K (.ref f)=true∧Binds K fd ps ds∧Vals dvs ds
theorem pe_calXD {X:Cx} {x:Str} {k j:Nat} {ps:List Str} {dvs:List V} {sp:Sp} {E:XK} {p pos:Pos} {e:Expr} {es:List Expr} {t:TA} (C:CalXD X.prog X.w X.K X.mg X.base x k ps dvs sp) (hx:Passes (CX1 X.prog X.w) X E) (hr:Room j X.A) (hj:k≤j) (hg:Gl X x) (ha:PA X (e :: es) t)
 (hdb:(x == ("__debug__" : Str))=false:=by decide) (he:starEach (e :: es) X.env=(false,eval e X.env) :: starEach es X.env:=by rfl) (hpl:(backTo pos (starEach es X.env)).any (·.1)=false:=by rfl) :
 PE X (.Call (.Name x p) (e :: es) [] pos) (fun σ H Q=>t σ H fun vs H1=>sp (vs++dvs) H1 Q E):=by
 obtain ⟨f,fd,ds,F,hm,hk,hb,hd⟩:=C.ex
 exact pe_call (dvs:=dvs) (E:=E) (p:=p) F (hr.mono hj) hg hm hk hb hd hx ha hdb he hpl
end
theorem hu_ofH {A:Around} {k:Nat} (hr:RoomH k A):A.units+1 < cLine:=by have:=hr.un; omega
section
variable {X:Cx}
theorem eqT_str:EqT X 0 (fun _ v (x:Str)=>v=.str x):=by
 intro A pins σ H s v u a b x y hu I h1 h2 r1 r2
 subst h1 h2
 obtain ⟨t,rfl⟩:=r1
 obtain ⟨t',rfl⟩:=r2
 have e:(x == y)=decide (x=y):=by
  by_cases h:x=y
  · rw [h,decide_eq_true rfl]; exact beq_self_eq_true y
  · rw [decide_eq_false h]; exact beq_eq_false_iff_ne.mpr h
 exact e ▸ SeqAt.EqAt.str_str x t y t'
def IsOw (H:Hp) (v:V) (o:Option Str):Prop:=(v=.non∧o=none)∨∃ p x,v=.ref p∧H p=some (.tup [.str x])∧o=some x
theorem eqT_ow:EqT X 1 IsOw:=by
 intro A pins σ H s v u a b x y hu I h1 h2 r1 r2
 have tup:∀ {p:Addr} {z:Str},H p=some (.tup [.str z])→∃ its,s.heap.IsTuple p its:=fun {p z} e=>by
  obtain ⟨us,_,pt,_⟩:=I.tuple (SqT.of (K:=X.K) e)
  exact ⟨_,pt⟩
 rcases h1 with ⟨rfl,rfl⟩ | ⟨p,z,rfl,hp,rfl⟩ <;> rcases h2 with ⟨rfl,rfl⟩ | ⟨q,y',rfl,hq,rfl⟩
 · obtain rfl:a=.none:=r1
   obtain rfl:b=.none:=r2
   exact SeqAt.EqAt.same _
 · obtain rfl:a=.none:=r1
   obtain rfl:b=.ref q:=r2
   obtain ⟨its,it⟩:=tup hq
   exact SeqAt.EqAt.none_tuple it (by omega)
 · obtain rfl:a=.ref p:=r1
   obtain rfl:b=.none:=r2
   obtain ⟨its,it⟩:=tup hp
   exact SeqAt.EqAt.tuple_none it (by omega)
 · have al:∀ w:Str,Al (fun v (x:Str)=>v=V.str x) [V.str w] [w]:=fun w=>⟨rfl,fun i v x e1 e2=>by
    cases i with
    | zero=>simp at e1 e2; rw [← e1,e2]
    | succ i=>simp at e1⟩
   have h:=eqT_tup (eqT_str (X:=X)) (fun _ _ _ _ a b=>by rw [a] at b; exact V.str.inj b) A pins σ H s (.ref p) (.ref q) a b [z] [y'] hu I ⟨p,_,rfl,hp,al z⟩ ⟨q,_,rfl,hq,al y'⟩ r1 r2
   rw [show decide (some z=some y')=decide ([z]=[y']) from decide_eq_decide.mpr (by simp)]
   exact h
end
end L2
namespace L2
open PySem PySem.Spec PyProof.Rows
theorem lc_U {k:SK} {K:PySem.W.Frag} {a D:Addr} {vs:List V} {te:TE} {u0:Option V} {rest:St} {H:Hp} {Q:VK} {α:Type} (R:Hp→V→α→Prop) (hR:∀ H1 H2 v x,Keep D H1 H2→R H1 v x→R H2 v x) (ys:List α) (hn:ys.length=vs.length) (hz:vs.length≤1000) (hD:H D=none) (ha:k.At H a vs)
 (hs:∀ (i:Nat) (w:V) (H2:Hp) (C:V→Hp→Prop),vs[i]? = some w→Same H H2→(∃ ws,H2 D=some (.lst ws))→(∀ y H5 z,Same H2 H5→ys[i]? = some z→R H5 y z→C y H5)→te (some w :: rest) H2 C)
 (hd:∀ H2 us,Same H H2→H2 D=some (.lst us)→Al (R H2) us ys→Q (.ref D) H2):LcGo (k.Itk K a) (gName 0) tYes te (u0 :: rest) H D Q:=by
 refine lc_gen (n:=vs.length) (fun i σ H2=>Same H H2∧(∃ u,σ=u :: rest)∧∃ us,H2 D=some (.lst us)∧Al (R H2) us (ys.take i)) ⟨Same.new hD,⟨_,rfl⟩,[],upd_same,by rw [List.take_zero]; exact .nil⟩
  (fun i σ H2 hi p=>itk_go (ha.same p.1) hi) (fun σ H2 p=>itk_stop (ha.same p.1) (Nat.le_refl _)) (fun i x σ2 H2 H3 hi y p=>?_) (fun σ2 H2 p=>?_)
 · obtain ⟨s2,⟨u,rfl⟩,us,e2,a2⟩:=p
   obtain ⟨rfl,e⟩:=itk_yld (ha.same s2) y
   have go:=hs i x H3 (fun y H6=>∃ ys',H6 D=some (.lst ys')∧ys'.length < sizeLine∧∃ m',m' < vs.length - i∧LcN vs.length (fun i σ H2=>Same H H2∧(∃ u,σ=u :: rest)∧∃ us,H2 D=some (.lst us)∧Al (R H2) us (ys.take i)) (i+1) m' (some x :: rest) (upd H6 D (.lst (ys'++[y])))) e s2 ⟨us,e2⟩ ?_
   · exact go
   · intro v H5 z s5 ez rz
     have e5:H5 D=some (.lst us):=s5 _ _ e2
     refine ⟨us,e5,?_,vs.length - (i+1),by omega,by omega,rfl,fun b o e=>?_,⟨_,rfl⟩,us++[v],upd_same,?_⟩
     · rw [a2.1,List.length_take,sizeLine_eq]; omega
     · rw [upd_ne (ne_of_none e hD)]; exact s5 _ _ (s2 _ _ e)
     · have hi':i < ys.length:=by omega
       rw [List.take_succ_eq_append_getElem hi']
       rw [List.getElem?_eq_getElem hi'] at ez
       cases ez
       exact (a2.imp fun v x r=>hR _ _ v x Keep.upd (hR _ _ v x s5.keep r)).snoc (hR _ _ _ _ Keep.upd rz)
 · obtain ⟨s2,_,us,e2,a2⟩:=p
   rw [List.take_of_length_le (by omega)] at a2
   exact hd H2 us s2 e2 a2
def tIsl (K:PySem.W.Frag) (i:Nat):TE:=fun σ H Q=>∃ v t b,σ[i]? = some (some v)∧TyOf K H v t∧PySem.W.kitOne K t (.type "list")=some b∧Q (if b=true then .non else v) H
theorem pe_isl {X:Cx} {x:Str} {j:Nat} {p1 p2 p3 p4 p5 p6 p7:Pos} (K:PySem.W.Frag) (i:Nat) (hK:X.K=K) (hN:X.N[i]? = some x) (hv:Vis X.env.scope x) (h1:Gl X "isinstance") (m1:X.mg "isinstance" = none) (b1:bootBuiltins "isinstance" = some (.builtin "isinstance"))
 (h2:Gl X "list") (m2:X.mg "list" = none) (b2:bootBuiltins "list" = some (.type "list")) (hd:(x == ("__debug__" : Str))=false) (hcd:(x == ("__classdict__" : Str))=false) :
 PE X (.IfExp (.Call (.Name "isinstance" p1) [.Name x p2,.Name "list" p3] [] p4) (.Constant .none j p5) (.Name x p6) p7) (tIsl K i):=by
 subst hK
 have h:=pe_ifExp (X:=X) (pos:=p7) (pt_truth (pe_callB (pos:=p4) (p:=p1) call_isi h1 m1 b1 (pa_cons (pe_var (pos:=p2) hN hv hd hcd) (pa_cons (pe_bltn (pos:=p3) (v:=.ty "list") h2 m2 b2 rfl) pa_nil rfl) rfl)) (fun _=>rfl)) (pe_non (j:=j) (pos:=p5)) (pe_var (pos:=p6) hN hv hd hcd)
 intro pins s σ H Q I hw
 obtain ⟨v,t,b,e,ty,kb,q⟩:=hw
 refine h pins s σ H Q I ⟨_,e,_,_,_,_,rfl,ty,kb,_,rfl,?_⟩
 cases b with
 | true=>exact iteT q
 | false=>exact iteF ⟨_,e,q⟩
variable {N:Addr→Prop} {k:Nat}
mutual
theorem Dt.keepP {H H':Hp} {l:Addr} {o:HO} (h1:∀ xs,o≠.tup xs) (h2:∀ xs,o≠.lst xs) (h3:o≠.dK []) (hl:H l=some o) (s:Keep l H H'):∀ {v:V} {d:PyData},Dt N H k v d→Dt N H' k v d
 | _,_,.non=>.non
 | _,_,.bl b=>.bl b
 | _,_,.int h=>.int h
 | _,_,.str x=>.str x
 | _,_,.tup h r=>.tup (s _ _ (fun z=>by rw [z,hl] at h; exact h1 _ (Option.some.inj h)) h) (Dts.keepP h1 h2 h3 hl s r)
 | _,_,.lst h n m r=>.lst (s _ _ (fun z=>by rw [z,hl] at h; exact h2 _ (Option.some.inj h)) h) n m (Dts.keepP h1 h2 h3 hl s r)
 | _,_,.dic h=>.dic (s _ _ (fun z=>by rw [z,hl] at h; exact h3 (Option.some.inj h)) h)
theorem Dts.keepP {H H':Hp} {l:Addr} {o:HO} (h1:∀ xs,o≠.tup xs) (h2:∀ xs,o≠.lst xs) (h3:o≠.dK []) (hl:H l=some o) (s:Keep l H H'):∀ {vs:List V} {ds:List PyData},Dts N H k vs ds→Dts N H' k vs ds
 | _,_,.nil=>.nil
 | _,_,.cons r rs=>.cons (Dt.keepP h1 h2 h3 hl s r) (Dts.keepP h1 h2 h3 hl s rs)
end
theorem Dt.keepT {H H':Hp} {P:Addr} {q:Str} {v:V} {d:PyData} (t:TabF H P q) (s:KeepP P H H') (h:Dt N H k v d):Dt N H' k v d:=let ⟨_,e,_⟩:=t; h.keepP (by intro _ z; cases z) (by intro _ z; cases z) (by intro z; cases z) e s
section
variable {H H':Hp} {P c c1:Addr} {q:Str}
theorem CodeF.mv (x:CodeF H c q) (k:∀ o,H c=some (fzO o)→H' c=some (fzO o)):CodeF H' c q:=let ⟨o,vs,t,e,r⟩:=x; ⟨o,vs,t,k o e,r⟩
theorem CodeF.neC (x:CodeF H c q) {o1:Obj} {u:Option Value} (e:H c1=some (fzO o1)) (hd:o1.data=.cell u):c≠c1:=fun z=>by
 obtain ⟨o,vs,t,e',hv,_⟩:=x
 rw [z,e] at e'; cases e'; rw [hd] at hv; cases hv
theorem CodeF.neL (x:CodeF H c q) {L:Addr} {xs:List V} (e:H L=some (.lst xs)):c≠L:=fun z=>by
 obtain ⟨o,vs,t,e',_⟩:=x
 rw [z,e] at e'; cases e'
theorem TabF.mv (x:TabF H P q) (k0:∀ ps,H P=some (.tbl ps)→H' P=some (.tbl ps)) (k:∀ c,CodeF H c q→CodeF H' c q):TabF H' P q :=
 let ⟨ps,e,t,h⟩:=x
 ⟨ps,k0 _ e,t,fun p v z=>let ⟨d,e1,e2⟩:=h p v z; ⟨d,e1,k _ e2⟩⟩
theorem TabF.same (x:TabF H P q) (s:Same H H'):TabF H' P q:=x.mv (fun _ e=>s _ _ e) fun _ c=>c.mv fun _ e=>s _ _ e
theorem TabF.keepL (x:TabF H P q) {L:Addr} {xs:List V} (e:H L=some (.lst xs)) (s:Keep L H H'):TabF H' P q :=
 x.mv (fun _ z=>s _ _ (fun w=>by rw [w,e] at z; cases z) z) fun _ c=>c.mv fun _ z=>s _ _ (c.neL e) z
theorem TabF.del (x:TabF H P q) {o1:Obj} {u:Option Value} (e:H c1=some (fzO o1)) (hd:o1.data=.cell u):TabF (del H c1) P q :=
 x.mv (fun _ z=>by rw [del_ne fun w=>by rw [w,e] at z; cases z]; exact z) fun _ c=>c.mv fun _ z=>by rw [del_ne (c.neC e hd)]; exact z
variable {a:Addr} {params:Arguments} {body:Expr} {scope:Scope} {clos:List (Str×Addr)} {pm:Value}
theorem LamF.mv (x:LamF H a q params body scope clos pm) (k:∀ b o,H b=some (fzO o)→H' b=some (fzO o)):LamF H' a q params body scope clos pm:=let ⟨d,ct,e,c⟩:=x; ⟨d,ct,k _ _ e,c.mv fun _ z=>k _ _ z⟩
theorem LamF.same (x:LamF H a q params body scope clos pm) (s:Same H H'):LamF H' a q params body scope clos pm:=x.mv fun _ _ e=>s _ _ e
theorem LamF.keepP (x:LamF H a q params body scope clos pm) (t:TabF H P q) (s:KeepP P H H'):LamF H' a q params body scope clos pm:=let ⟨_,h,_⟩:=t; x.mv fun b o e=>s _ _ (fun z=>by rw [z,h] at e; cases e) e
theorem LamF.keepL (x:LamF H a q params body scope clos pm) {L:Addr} {xs:List V} (h:H L=some (.lst xs)) (s:Keep L H H'):LamF H' a q params body scope clos pm:=x.mv fun b o e=>s _ _ (fun z=>by rw [z,h] at e; cases e) e
theorem IsOw.tk {v:V} {o:Option Str} (t:Tk H H') (x:IsOw H v o):IsOw H' v o:=x.imp id fun ⟨p,y,e,h,r⟩=>⟨p,y,e,t _ _ h,r⟩
end
def SaidR (D:Addr) (w:Str) (H:Hp) (v:V) (b:Bool):Prop:=(b=true→∃ L xs,v=.ref L∧L≠D∧H L=some (.lst xs))∧(b=false→∃ T,v=.ref T∧T≠D∧H T=some (.tup [.str w]))
theorem SaidR.keep {D:Addr} {w:Str} (H1 H2:Hp) (v:V) (b:Bool) (k:Keep D H1 H2) (x:SaidR D w H1 v b):SaidR D w H2 v b :=
 ⟨fun z=>let ⟨L,xs,e,n,h⟩:=x.1 z; ⟨L,xs,e,n,k _ _ n h⟩,fun z=>let ⟨T,e,n,h⟩:=x.2 z; ⟨T,e,n,k _ _ n h⟩⟩
variable {N:Addr→Prop} {k:Nat}
def DatO (N:Addr→Prop) (b:Addr) (o:HO):Prop:=(∃ xs,o=.tup xs)∨(∃ xs,o=.lst xs∧¬ N b)∨o=.dK []
mutual
theorem Dt.gen {H H':Hp} (s:∀ b o,DatO N b o→H b=some o→H' b=some o):∀ {v:V} {d:PyData},Dt N H k v d→Dt N H' k v d
 | _,_,.non=>.non
 | _,_,.bl b=>.bl b
 | _,_,.int h=>.int h
 | _,_,.str x=>.str x
 | _,_,.tup h r=>.tup (s _ _ (.inl ⟨_,rfl⟩) h) (Dts.gen s r)
 | _,_,.lst h n m r=>.lst (s _ _ (.inr (.inl ⟨_,rfl,n⟩)) h) n m (Dts.gen s r)
 | _,_,.dic h=>.dic (s _ _ (.inr (.inr rfl)) h)
theorem Dts.gen {H H':Hp} (s:∀ b o,DatO N b o→H b=some o→H' b=some o):∀ {vs:List V} {ds:List PyData},Dts N H k vs ds→Dts N H' k vs ds
 | _,_,.nil=>.nil
 | _,_,.cons r rs=>.cons (Dt.gen s r) (Dts.gen s rs)
end
def Gv (P1 P2:Addr) (H H':Hp):Prop:=∀ b o,b≠P1→b≠P2→H b=some o→H' b=some o
section
variable {P1 P2:Addr} {H H1 H2:Hp} {q:Str}
theorem Gv.refl:Gv P1 P2 H H:=fun _ _ _ _ e=>e
theorem Gv.trans (a:Gv P1 P2 H H1) (b:Gv P1 P2 H1 H2):Gv P1 P2 H H2:=fun c o n m e=>b c o n m (a c o n m e)
theorem Same.gv (s:Same H H1):Gv P1 P2 H H1:=fun b o _ _ e=>s b o e
theorem KeepP.gv1 (s:KeepP P1 H H1):Gv P1 P2 H H1:=fun b o n _ e=>s b o n e
theorem Keep.gv2 (s:Keep P2 H H1):Gv P1 P2 H H1:=fun b o _ n e=>s b o n e
theorem DatO.neT {b P:Addr} {o:HO} (h:DatO N b o) (e:H b=some o) (t:TabF H P q):b≠P:=fun z=>by
 obtain ⟨ps,e',_⟩:=t
 rw [z,e'] at e; cases e
 rcases h with ⟨_,h⟩ | ⟨_,h,_⟩ | h <;> cases h
theorem DatO.neL {b l:Addr} {o:HO} {ys:List V} (h:DatO N b o) (e:H b=some o) (hN:N l) (hl:H l=some (.lst ys)):b≠l:=fun z=>by
 rw [z,hl] at e; cases e
 rcases h with ⟨_,h⟩ | ⟨_,h,n⟩ | h
 · cases h
 · exact n (z ▸ hN)
 · cases h
theorem TabF.gvP {P P':Addr} (t:TabF H P q) {q':Str} (t':TabF H P' q') (n:P≠P') (s:KeepP P' H H1):TabF H1 P q:=by
 obtain ⟨ps,e',_⟩:=t'
 exact t.mv (fun _ e=>s _ _ n e) fun _ c=>c.mv fun _ e=>s _ _ (fun z=>by rw [z,e'] at e; cases e) e
end
theorem sq {t u:TS} {D:Ends} {σ:St} {H:Hp} (h:∀ N:St→Hp→Prop,(∀ {σ H},u D σ H→N σ H)→t { D with nx:=N } σ H):tSeq t u D σ H:=h _ id
theorem sqL_gv {K:PySem.W.Frag} {P1 P2 a:Addr} {H H':Hp} {xs:List V} {q1 q2:Str} (h:SqL K H a xs) (g:Gv P1 P2 H H') (t1:TabF H P1 q1) (t2:TabF H P2 q2):SqL K H' a xs:=by
 obtain ⟨p1,e1,_⟩:=t1
 obtain ⟨p2,e2,_⟩:=t2
 rcases h with (h | ⟨o,h⟩) | h
 · exact .inl (.inl (g _ _ (fun z=>by rw [z,e1] at h; cases h) (fun z=>by rw [z,e2] at h; cases h) h))
 · exact .inl (.inr ⟨o,g _ _ (fun z=>by rw [z,e1] at h; cases h) (fun z=>by rw [z,e2] at h; cases h) h⟩)
 · exact .inr h
end L2
namespace L2
open PySem PySem.Spec PyProof.Rows
theorem tabF_nil {H:Hp} {P:Addr} {q:Str} (e:H P=some (.tbl #[])):TabF H P q:=⟨#[],e,by first | trivial | exact .nil | simp [TriplesOk],fun p v z=>by have z':codeAmong p []=some v:=z; first | (cases z'; done) | simp [codeAmong] at z'⟩
theorem law_callT {P:Program} {w:World} {K:PySem.W.Frag} {mg mb:Str→Option Value} {k:Nat} {fa a:Addr} {fd:FuncData} {x:Str} {sp:Sp} {s₁:Shared} {vs:List Value} {ns:List Int} {c1 c2 P1 P2:Addr}
 (KX:K.In s₁.heap) (hns:s₁.heap.Ns mainGlobals mg) (hb:s₁.heap.Ns builtinsNs mb) (hbb:∀ x:Str,x ≠ "__name__" → mb x=bootBuiltins x) (hlim:s₁.heap.NoLimit) (hg:s₁.gens=#[])
 (ha:s₁.heap.get? a=some { cls:=.type "list",data:=.seq vs.toArray }) (hi:IntsAre vs ns) (hl:ns.length≤sizeLine) (hr:Room k callerA)
 (C1:PySem.W.CodeHd s₁.heap c1 P1) (C2:PySem.W.CodeHd s₁.heap c2 P2) (T1:s₁.heap.get? P1=some (PySem.W.tabObj #[])) (T2:s₁.heap.get? P2=some (PySem.W.tabObj #[])) (k1:K.lookup P1=none) (k2:K.lookup P2=none)
 (F:∀ base:Heap,K.In base→base.Ns mainGlobals mg→FnOk P w K mg base CX0 k fa fd [x] sp) (hbind:∀ (s:Shared) (u:Value),BindsTo s fd ⟨[u],[]⟩ [(x,u)])
 (hsp:∀ H:Hp,SqL K H a (ns.map V.int)→H P1=some (.tbl #[])→H P2=some (.tbl #[])→sp [.ref a] H (fun v _=>v=.bl true) fun _ _ _=>False) :
 codeAny (model P w) callerA (.call (.ref fa) ⟨[.ref a],[]⟩) (fun r s'=>r=.ok (.ret (.bool true))∧OldK s₁.heap s'.heap∧s'.os=s₁.os∧AllBare s'.gens) s₁:=by
 have rv:=vals_ints hi
 have lenV:=hi.length
 have a1:a≠P1:=fun z=>by rw [z,T1] at ha; cases ha
 have a2:a≠P2:=fun z=>by rw [z,T2] at ha; cases ha
 have core:∀ H:Hp,SqL K H a (ns.map V.int)→HOk P w H s₁.heap→(∀ b u,H b=some u→(b=a∧(∃ o xs,u=.frz o (.lst xs))∧K.lookup a=none)∨((b=P1∨b=P2)∧u=.tbl #[]))→H P1=some (.tbl #[])→H P2=some (.tbl #[]) →
  codeAny (model P w) callerA (.call (.ref fa) ⟨[.ref a],[]⟩) (fun r s'=>r=.ok (.ret (.bool true))∧OldK s₁.heap s'.heap∧s'.os=s₁.os∧AllBare s'.gens) s₁:=by
  intro H hS hok hA h1 h2
  have base_of:∀ {b:Addr} {o:Obj},s₁.heap.get? b=some o→H b=none→(hidT s₁.heap H).get? b=some o:=fun e n=>hidT_get e n
  have noA:∀ {b:Addr} {o:Obj} {es:Array DictEntry} {ep:Nat},s₁.heap.get? b=some o→o.data=.dict es ep→H b=none:=fun {b o es ep} e d=>by
   cases q:H b with
   | none=>rfl
   | some u =>
     rcases hA b u q with ⟨rfl,_⟩ | ⟨rfl | rfl,_⟩
     · rw [ha] at e; cases e; cases d
     · rw [T1] at e; cases e; cases d
     · rw [T2] at e; cases e; cases d
  have nsK:∀ {b:Addr} {m:Str→Option Value},s₁.heap.Ns b m→(hidT s₁.heap H).Ns b m:=fun {b m} ⟨o,es,ep,e,d,r⟩=>⟨o,es,ep,base_of e (noA e d),d,r⟩
  have hKb:K.In (hidT s₁.heap H):=fun b o e=>base_of (KX b o e) (by
   cases q:H b with
   | none=>rfl
   | some u =>
     rcases hA b u q with ⟨rfl,_,z⟩ | ⟨rfl | rfl,_⟩
     · rw [z] at e; cases e
     · rw [k1] at e; cases e
     · rw [k2] at e; cases e)
  have hM:Mod K mg (hidT s₁.heap H):=⟨hKb,nsK hns,⟨mb,nsK hb,hbb⟩,let ⟨mc,h1,h2⟩:=hlim; ⟨mc,nsK h1,h2⟩⟩
  have e0:Env0 P w K mg (hidT s₁.heap H) callerA [] s₁ H:=⟨rfl,hM,fun b o e=>of_hidT e,Nat.le_of_eq (hidT_size _ _),trivial,fun b hb=>absurd (show b∈([]:List Addr) from hb) (by simp),hok,.of_eq hg⟩
  refine codeAny_mono ((F _ hKb (nsK hns)).run callerA [] s₁ H ⟨[.ref a],[]⟩ [.ref a] [.ref a] _ _ hr e0 (hbind s₁ (.ref a)) (.cons rfl .nil) (hsp H hS h1 h2)) fun r s' h=>?_
  cases r with
  | error e=>exact False.elim h
  | ok fl =>
    cases fl with
    | next=>exact False.elim h
    | brk=>exact False.elim h
    | cont=>exact False.elim h
    | ret u =>
      obtain ⟨v,H',os,bare,un,hok',r',q⟩:=h
      have q':v=.bl true:=q
      subst q'
      obtain rfl:u=Value.bool true:=r'
      have tb:∀ (c b:Addr) (o:Obj),PySem.W.CodeHd s₁.heap c b→s₁.heap.get? b=some (PySem.W.tabObj #[])→H b=some (.tbl #[])→s₁.heap.get? b=some o→asItWas s₁.heap s'.heap b o∧∃ o',s'.heap.get? b=some o':=fun c b o hc ht hb e=>by
       obtain ⟨more,e'⟩:=un.tbls b _ hb
       have z:s'.heap.get? b=some { cls:=.none,data:=.fields (#[]++more) }:=hok' b _ e'
       rw [ht] at e
       cases e
       exact ⟨.inr (.inl ⟨(hc.tab ht).isCodeTable,rfl,#[],more,rfl,z⟩),_,z⟩
      have all:∀ b o,s₁.heap.get? b=some o→asItWas s₁.heap s'.heap b o∧∃ o',s'.heap.get? b=some o':=fun b o e=>by
       cases q:H b with
       | none =>
         have z:=un.keep b o e q (by intro z; exact absurd (show b∈([]:List Addr) from z) (by simp)) (by simp)
         exact ⟨.inl z,_,z⟩
       | some u =>
         rcases hA b u q with ⟨rfl,⟨ob,xs,rfl⟩,_⟩ | ⟨rfl | rfl,rfl⟩
         · have z2:=un.frzs _ ob _ q
           obtain ⟨e1,_⟩:=hok _ _ q
           obtain ⟨e2,_⟩:=hok' _ _ z2
           rw [e] at e1; cases e1
           exact ⟨.inl e2,_,e2⟩
         · exact tb c1 _ _ C1 T1 h1 e
         · exact tb c2 _ _ C2 T2 h2 e
      exact ⟨rfl,⟨fun b o e=>(all b o e).1,fun b o e=>(all b o e).2⟩,os,bare⟩
 have kT:∀ (H:Hp) b,s₁.heap.get? b=some (PySem.W.tabObj #[])→ObjOk P w H s₁.heap b (.tbl #[]):=fun H b e=>e
 cases hk:K.lookup a with
 | some o =>
   have e:=KX a o hk
   rw [ha] at e
   cases e
   refine core (fun b=>if b=P1∨b=P2 then some (.tbl #[]) else none) (.inr ⟨_,vs.toArray,_,hk,rfl,rfl,rfl,by rw [List.size_toArray,lenV]; exact hl,by simpa using rv⟩) (fun b u z=>?_) (fun b u z=>?_) (if_pos (.inl rfl)) (if_pos (.inr rfl))
   · by_cases hb:b=P1∨b=P2
     · have z':=(if_pos hb).symm.trans z
       cases z'
       rcases hb with rfl | rfl
       · exact T1
       · exact T2
     · have z':=(if_neg hb).symm.trans z
       cases z'
   · by_cases hb:b=P1∨b=P2
     · have z':=(if_pos hb).symm.trans z
       cases z'
       exact .inr ⟨hb,rfl⟩
     · have z':=(if_neg hb).symm.trans z
       cases z'
 | none =>
   refine core (fun b=>if b=a then some (.frz { cls:=.type "list",data:=.seq vs.toArray } (.lst (ns.map V.int))) else if b=P1∨b=P2 then some (.tbl #[]) else none) (.inl (.inr ⟨{ cls:=.type "list",data:=.seq vs.toArray },if_pos rfl⟩)) (fun b u z=>?_) (fun b u z=>?_) ((if_neg (Ne.symm a1)).trans (if_pos (.inl rfl))) ((if_neg (Ne.symm a2)).trans (if_pos (.inr rfl)))
   · by_cases ha':b=a
     · have z':=(if_pos ha').symm.trans z
       cases z'
       subst ha'
       exact ⟨ha,by rw [List.length_map]; exact hl,vs,_,rv,ha⟩
     · have z:=(if_neg ha').symm.trans z
       by_cases hb:b=P1∨b=P2
       · have z':=(if_pos hb).symm.trans z
         cases z'
         rcases hb with rfl | rfl
         · exact T1
         · exact T2
       · have z':=(if_neg hb).symm.trans z
         cases z'
   · by_cases ha':b=a
     · have z':=(if_pos ha').symm.trans z
       cases z'
       exact .inl ⟨ha',⟨_,_,rfl⟩,hk⟩
     · have z:=(if_neg ha').symm.trans z
       by_cases hb:b=P1∨b=P2
       · have z':=(if_pos hb).symm.trans z
         cases z'
         exact .inr ⟨hb,rfl⟩
       · have z':=(if_neg hb).symm.trans z
         cases z'
theorem walk_ofT {l:PySem.W.OpenLaw} {n k:Nat} {q:Program} {loose:List Str} {XP:(Str→Option Value)→Heap→Prop} {YP:World→Heap→Prop} {d:DefRec} {K:Params→PySem.W.Frag} {sp:World→Sp} {x:Str} {c1 c2 P1 P2:Addr}
 (hn:l.most=some n) (hn2:n≤sizeLine) (hdf:d.params.defaults=[]) (hr:Room k callerA)
 (hY:∀ (w:World) (h:Heap),YP w h→(K w.params).In h∧h.get? P1=some (PySem.W.tabObj #[])∧h.get? P2=some (PySem.W.tabObj #[]))
 (hc:∀ P,PySem.W.codeHdIn (K P) c1 P1=true∧PySem.W.codeHdIn (K P) c2 P2=true∧(K P).lookup P1=none∧(K P).lookup P2=none)
 (F:∀ (w:World) (mg:Str→Option Value) (fa:Addr) (h:Heap),(K w.params).In h→h.Ns mainGlobals mg→mg d.name=some (.ref fa) →
   ∃ fd:FuncData,(∀ (s:Shared) (u:Value),BindsTo s fd ⟨[u],[]⟩ [(x,u)]) ∧
     ∀ base:Heap,(K w.params).In base→base.Ns mainGlobals mg→FnOk l.prog w (K w.params) mg base CX0 k fa fd [x] (sp w))
 (hsp:∀ (w:World) (H:Hp) (a:Addr) (ns:List Int),ns.length≤n→SqL (K w.params) H a (ns.map V.int)→H P1=some (.tbl #[])→H P2=some (.tbl #[])→sp w [.ref a] H (fun v _=>v=.bl true) fun _ _ _=>False) :
 PySem.W.WalkO q loose XP YP l.row.toRowW d [] (fun f vs=>PySem.call f vs):=by
 refine Att.attach_call hn hdf fun w s₀ s₁ mg mb fa o pm cd doc a vs ns G Y ho hd hcd hmg hobj hints hlen hg=>?_
 obtain ⟨KX,T1,T2⟩:=hY w _ Y
 obtain ⟨q1,q2,q3,q4⟩:=hc w.params
 obtain ⟨fd,hb,hF⟩:=F w mg fa _ KX G.T.g hmg
 exact law_callT KX G.T.g G.T.b G.T.builtins G.T.nolimit hg hobj hints (Nat.le_trans hlen hn2) hr (PySem.W.codeHd_of_K KX q1) (PySem.W.codeHd_of_K KX q2) T1 T2 q3 q4 hF hb (fun H hS=>hsp w H a ns hlen hS)
end L2
namespace My
open PySem PySem.Spec PyProof.Rows L2
def top (i:Nat):Stmt:=PySem.Challenge.pw_platerest_k03_fractions_refused.main.body.getD i (.Pass ⟨0,0,0,0⟩)
theorem bb_abs:bootBuiltins "abs" = some (.builtin "abs"):=by decide +kernel
theorem bb_all:bootBuiltins "all" = some (.builtin "all"):=by decide +kernel
theorem bb_bool:bootBuiltins "bool" = some (.type "bool"):=by decide +kernel
theorem bb_int:bootBuiltins "int" = some (.type "int"):=by decide +kernel
theorem bb_isinstance:bootBuiltins "isinstance" = some (.builtin "isinstance"):=by decide +kernel
theorem bb_len:bootBuiltins "len" = some (.builtin "len"):=by decide +kernel
theorem bb_list:bootBuiltins "list" = some (.type "list"):=by decide +kernel
theorem bb_max:bootBuiltins "max" = some (.builtin "max"):=by decide +kernel
theorem bb_min:bootBuiltins "min" = some (.builtin "min"):=by decide +kernel
theorem bb_repr:bootBuiltins "repr" = some (.builtin "repr"):=by decide +kernel
theorem bb_tuple:bootBuiltins "tuple" = some (.type "tuple"):=by decide +kernel
structure Bt (mg:Str→Option Value):Prop where
 b_abs:mg "abs" = none
 b_all:mg "all" = none
 b_bool:mg "bool" = none
 b_int:mg "int" = none
 b_isinstance:mg "isinstance" = none
 b_len:mg "len" = none
 b_list:mg "list" = none
 b_max:mg "max" = none
 b_min:mg "min" = none
 b_range:mg "range" = none
 b_repr:mg "repr" = none
 b_tuple:mg "tuple" = none
 n_GREAT_BITS:∃ t,mg "GREAT_BITS" = some (.int 4000 t)
abbrev rt (q:Rat):List V:=[.int q.num,.int q.den]
def sp_plain:Sp:=fun vs H Q _=>∃ a b:Int,vs=[.int a,.int b]∧Q (.int (Int.gcd a b)) H
def sp_divisor:Sp:=fun vs H Q _=>∃ a b:Int,vs=[.int a,.int b]∧b.natAbs < 2 ^ 4000∧Q (.int (Int.gcd a b)) H
theorem lt8999 {a n:Nat} (h:a < 2 ^ 64) (hn:64≤n:=by decide):a < 2 ^ n:=Nat.lt_of_lt_of_le h (Nat.pow_le_pow_right (by decide) hn)
theorem lt4000 {a:Nat} (h:a < 2 ^ 4000):a < 2 ^ 8999:=Nat.lt_of_lt_of_le h (Nat.pow_le_pow_right (by decide) (by decide))
theorem min4000 {x y:Int} (h:y.natAbs < 2 ^ 4000):decide ((4000:Int) < if (Builtin.Int.intBits y:Int) < (Builtin.Int.intBits x:Int) then (Builtin.Int.intBits y:Int) else (Builtin.Int.intBits x:Int))=false:=by
 have:=bits_le h (by decide)
 refine decide_eq_false ?_
 split <;> omega
def sp_reduced:Sp:=fun vs H Q _=>∃ t b:Int,vs=[.int t,.int b]∧b≠0∧b.natAbs < 2 ^ 4000∧∀ (p:Addr) (H':Hp),Same H H'→H' p=some (.tup (rt (Rat.divInt t b)))→Q (.ref p) H'
theorem up1 {a:Nat} (h:a < 2 ^ 1990):a < 2 ^ 1000000:=Nat.lt_of_lt_of_le h (Nat.pow_le_pow_right (by decide) (by decide))
theorem mNN {x y:Rat} (hx:FM.B 1990 x) (hy:FM.B 1990 y):CMulB x.num y.num:=⟨up1 hx.1,up1 hy.1⟩
theorem mND {x y:Rat} (hx:FM.B 1990 x) (hy:FM.B 1990 y):CMulB x.num y.den:=⟨up1 hx.1,up1 hy.2⟩
theorem mDD {x y:Rat} (hx:FM.B 1990 x) (hy:FM.B 1990 y):CMulB x.den y.den:=⟨up1 hx.2,up1 hy.2⟩
theorem mDN {x y:Rat} (hx:FM.B 1990 x) (hy:FM.B 1990 y):CMulB x.den y.num:=⟨up1 hx.2,up1 hy.1⟩
theorem dd_lt {x y:Rat} (hx:FM.B 1990 x) (hy:FM.B 1990 y):((x.den:Int) * y.den).natAbs < 2 ^ 4000 :=
 Nat.lt_of_lt_of_le (FM.natAbs_mul_lt (show (x.den:Int).natAbs < 2 ^ 1990 from hx.2) (show (y.den:Int).natAbs < 2 ^ 1990 from hy.2)) (Nat.pow_le_pow_right (by decide) (by decide))
theorem dn_lt {x y:Rat} (hx:FM.B 1990 x) (hy:FM.B 1990 y):((x.den:Int) * y.num).natAbs < 2 ^ 4000 :=
 Nat.lt_of_lt_of_le (FM.natAbs_mul_lt (show (x.den:Int).natAbs < 2 ^ 1990 from hx.2) hy.1) (Nat.pow_le_pow_right (by decide) (by decide))
def StAt (H:Hp) (l:Addr):Prop:=∃ s0 s1 s2:Int,H l=some (.lst [.int s0,.int s1,.int s2])∧0≤s1∧s1 < 4294967296
theorem StAt.keep {H H':Hp} {l m:Addr} (s:StAt H l) (k:Keep m H H') (n:l≠m):StAt H' l:=by
 obtain ⟨a,b,c,h,r⟩:=s
 exact ⟨a,b,c,k _ _ n h,r⟩
theorem StAt.same {H H':Hp} {l:Addr} (s:StAt H l) (k:Same H H'):StAt H' l:=by
 obtain ⟨a,b,c,h,r⟩:=s
 exact ⟨a,b,c,k _ _ h,r⟩
theorem StAt.new {H:Hp} {l p:Addr} {o:HO} (s:StAt H l) (h:H p=none):StAt (upd H p o) l:=by
 obtain ⟨a,b,c,e,r⟩:=s
 exact ⟨a,b,c,by rw [upd_ne (ne_of_none e h)]; exact e,r⟩
theorem StAt.ne {H:Hp} {l p:Addr} (s:StAt H l) (h:H p=none):l≠p:=by
 obtain ⟨a,b,c,e,r⟩:=s
 exact ne_of_none e h
theorem StAt.neT {H:Hp} {l p:Addr} {xs:List V} (s:StAt H l) (h:H p=some (.tup xs)):p≠l:=by
 obtain ⟨a,b,c,e,r⟩:=s
 exact ne_of h e (by intro z; cases z)
def sp_cell (K:PySem.W.Frag):Sp:=fun vs H Q _=>∃ (a:Addr) (ns:List Int) (k:Nat),vs=[.ref a,.int k]∧SqL K H a (ns.map V.int)∧∀ c:Int,Q (.int c) H
def sp_state (K:PySem.W.Frag):Sp:=fun vs H Q _=>∃ (a:Addr) (ns:List Int) (k:Nat),vs=[.ref a,.int k]∧SqL K H a (ns.map V.int) ∧
 ∀ (p:Addr) (H':Hp),H p=none→Same H H'→StAt H' p→Q (.ref p) H'
def sp_choice:Sp:=fun vs H Q _=>∃ (l:Addr) (m:Int),vs=[.ref l,.int m]∧StAt H l∧0 < m∧m.natAbs < 2 ^ 8999∧∀ (r:Int) (H':Hp),0≤r→r < m→Keep l H H'→StAt H' l→Q (.int r) H'
def sp_low:Sp:=fun vs H Q _=>∃ t b:Int,vs=[.int t,.int b]∧b≠0∧b.natAbs < 2 ^ 4000∧∀ (p:Addr) (H':Hp),Same H H'→H' p=some (.tup (rt (Rat.divInt t b)))→Q (.ref p) H'
def sp_drawn (n:Nat):Sp:=fun vs H Q _=>∃ l:Addr,vs=[.ref l]∧StAt H l∧∀ (H':Hp) (p:Addr) (q:Rat),Keep l H H'→StAt H' l→H' p=some (.tup (rt q))→FM.B n q→Q (.ref p) H'
theorem mulS {a b:Int} (ha:a.natAbs < 2 ^ 64) (hb:b.natAbs < 2 ^ 64):CMulB a b:=⟨Nat.lt_of_lt_of_le ha (Nat.pow_le_pow_right (by decide) (by decide)),Nat.lt_of_lt_of_le hb (Nat.pow_le_pow_right (by decide) (by decide))⟩
theorem p64:(2:Nat) ^ 64=18446744073709551616:=by decide
def sp_wholeD:Sp:=fun vs H Q _=>∃ N k v d,vs=[v]∧Dt N H k v d∧Q (.bl (isI d)) H
def sp_frD:Sp:=fun vs H Q _=>∃ N k v d,vs=[v]∧Dt N H k v d∧k≤4000∧Q (.bl (isFr d)) H
def sp_lawfr:Sp:=fun vs H Q _=>∃ N k v d,vs=[v]∧Dt N H k v d∧k≤4000∧∀ H',Same H H'→Q (.bl (isFr d)) H'
def sp_odd:Sp:=fun vs H Q _=>∃ l N,vs=[.ref l]∧StAt H l∧N l∧Dom N H∧∀ H' v,Keep l H H'→StAt H' l→Tg N H' 100 2 20 v→Q v H'
def sp_bent (n:Nat):Sp:=fun vs H Q _=>∃ l N k v d,vs=[.ref l,v]∧StAt H l∧N l∧Dom N H∧Dt N H k v d∧100≤k∧d.depth≤n∧nz d≤100000∧∀ H' v',Keep l H H'→StAt H' l→Tg N H' (k+1) (n+2) (2 * nz d+40) v'→Q v' H'
theorem StAt.lst' {H:Hp} {l:Addr} (s:StAt H l):∃ ys,H l=some (.lst ys):=by
 obtain ⟨a,b,c,h,_⟩:=s
 exact ⟨_,h⟩
theorem Tg.keepS {N:Addr→Prop} {l:Addr} {H H':Hp} {k n m:Nat} {v:V} (hN:N l) (s:StAt H l) (h:Tg N H k n m v) (q:Keep l H H'):Tg N H' k n m v:=let ⟨_,e⟩:=s.lst'; h.keep hN e q
theorem Tgs.keepS {N:Addr→Prop} {l:Addr} {H H':Hp} {k n m:Nat} {v:List V} (hN:N l) (s:StAt H l) (h:Tgs N H k n m v) (q:Keep l H H'):Tgs N H' k n m v:=let ⟨_,e⟩:=s.lst'; h.keep hN e q
theorem Dt.keepS {N:Addr→Prop} {l:Addr} {H H':Hp} {k:Nat} {v:V} {d:PyData} (hN:N l) (s:StAt H l) (h:Dt N H k v d) (q:Keep l H H'):Dt N H' k v d:=let ⟨_,e⟩:=s.lst'; h.keep hN e q
theorem Dts.keepS {N:Addr→Prop} {l:Addr} {H H':Hp} {k:Nat} {v:List V} {d:List PyData} (hN:N l) (s:StAt H l) (h:Dts N H k v d) (q:Keep l H H'):Dts N H' k v d:=let ⟨_,e⟩:=s.lst'; h.keep hN e q
theorem lt_8000 {i:Int} {k:Nat} (h:i.natAbs < 2 ^ k) (hk:k≤4000):i.natAbs < 2 ^ 4000:=Nat.lt_of_lt_of_le h (Nat.pow_le_pow_right (by decide) (by omega))
theorem Dom.keepS {N:Addr→Prop} {l:Addr} {H H':Hp} (h:Dom N H) (s:Keep l H H') (hl:StAt H' l):Dom N H':=let ⟨_,e⟩:=hl.lst'; h.keep s e
theorem dint {N:Addr→Prop} {H:Hp} {k:Nat} (i:Int) (hk:100≤k) (hi:i.natAbs < 2 ^ 100):Dt N H k (.int i) (.int i):=.int (Nat.lt_of_lt_of_le hi (Nat.pow_le_pow_right (by decide) hk))
theorem dt2 {N:Addr→Prop} {H:Hp} {k:Nat} {p:Addr} {i j:Int} (h:H p=some (.tup [.int i,.int j])) (hi:i.natAbs < 2 ^ k) (hj:j.natAbs < 2 ^ k):Dt N H k (.ref p) (.tuple [.int i,.int j]):=.tup h (.cons (.int hi) (.cons (.int hj) .nil))
def CLS:List Str:=["NoBalance","NoDeed","NoDeeds","NoFirm","NoFraction","NoFrame","NoHolding","NoInner","NoLine","NoLoads","NoLot","NoMotions","NoPiece","NoPlate","NoRest","NoRounds","NoRows","NoStresses","NoThick","NoTurning","NoWay","NoWays","NoWhole","NotHeld","TooMany","NoText"]
def WRD:List Str:=["balance","deed","deeds","firm","fraction","frame","holding","inner","line","loads","lot","motions","piece","plate","rest","rounds","rows","stresses","thick","turning","way","ways","whole","held","many","text"]
structure Kind (K:PySem.W.Frag) (cl:Str→Addr) (C:Addr) (ix:Nat):Prop where
 is:∀ (i:Nat) x,CLS[i]? = some x→PySem.W.kitOne K (.ref C) (.ref (cl x))=some (decide (i=ix))
 ve:PySem.W.kitOne K (.ref C) (.type "ValueError")=some true
 pe:PySem.W.exmOne K (.ref C) (.ref (cl "PlateError"))=some true
 lk:ExcLook K C
structure Ek (K:PySem.W.Frag) (mg:Str→Option Value) (cl:Str→Addr):Prop where
 nm:∀ x,x∈CLS→mg x=some (.ref (cl x))
 vb:mg "ValueError" = none
 mpe:mg "PlateError" = some (.ref (cl "PlateError"))
 e_NoFraction:ExcK K (cl "NoFraction")
 e_NoWhole:ExcK K (cl "NoWhole")
 fr:Kind K cl (cl "NoFraction") 4
 wh:Kind K cl (cl "NoWhole") 22
theorem Ek.m_NoFraction {K:PySem.W.Frag} {mg:Str→Option Value} {cl:Str→Addr} (Z:Ek K mg cl):mg "NoFraction" = some (.ref (cl "NoFraction")):=Z.nm _ (by decide)
theorem Ek.m_NoWhole {K:PySem.W.Frag} {mg:Str→Option Value} {cl:Str→Addr} (Z:Ek K mg cl):mg "NoWhole" = some (.ref (cl "NoWhole")):=Z.nm _ (by decide)
theorem bb_VE:bootBuiltins "ValueError" = some (.type "ValueError"):=by decide +kernel
def sp_lookX (c:Addr):Sp:=fun vs H Q E=>∃ N k v d,vs=[v]∧Dt N H k v d∧k≤4000∧(if isFr d=true then Q .non H else E (.ref c) none H)
def sp_bothX (c:Addr):Sp:=fun vs H Q E=>∃ N k v u d1 d2,vs=[v,u]∧Dt N H k v d1∧Dt N H k u d2∧k≤4000∧(if (isFr d1 && isFr d2)=true then Q .non H else E (.ref c) none H)
def isZ:PyData→Bool
 | .tuple (.int i :: _)=>decide (i=0)
 | _=>false
def sp_opX (c:Addr) (g:PyData→PyData→Bool):Sp:=fun vs H Q E=>∃ N k v u d1 d2,vs=[v,u]∧Dt N H k v d1∧Dt N H k u d2∧k≤1990∧(if g d1 d2=true then ∀ r H',Same H H'→Q r H' else E (.ref c) none H)
def gB:PyData→PyData→Bool:=fun d1 d2=>isFr d1 && isFr d2
def gO:PyData→PyData→Bool:=fun d1 d2=>isFr d1 && isFr d2 && !isZ d2
def isNz:PyData→Bool
 | .int i=>decide (i≠0)
 | _=>false
def sp_madeX (c:Addr):Sp:=fun vs H Q E=>∃ N k v u d1 d2,vs=[v,u]∧Dt N H k v d1∧Dt N H k u d2∧(isI d1 && isNz d2)=false∧E (.ref c) none H
theorem fr_rat {N:Addr→Prop} {H:Hp} {k:Nat} {v:V} {d:PyData} (h:Dt N H k v d) (e:isFr d=true):∃ p q,v=.ref p∧H p=some (.tup (rt q))∧FM.B k q∧isZ d=decide (q.num=0):=by
 rcases h.isT with ⟨p,xs,ds,rfl,rfl,hp,hs⟩ | e'
 · by_cases h2:xs.length=2
   · obtain ⟨x,y,d1,d2,rfl,rfl,k1,k2⟩:∃ x y d1 d2,xs=[x,y]∧ds=[d1,d2]∧Dt N H k x d1∧Dt N H k y d2:=by
      match xs,ds,hs,h2 with
      | [x,y],[d1,d2],.cons a (.cons b .nil),_=>exact ⟨x,y,d1,d2,rfl,rfl,a,b⟩
     rcases k1.isI with ⟨i,rfl,rfl,hi⟩ | z
     · rcases k2.isI with ⟨j,rfl,rfl,hj⟩ | z
       · have e0:(decide (1≤j) && decide (Int.gcd i j=1))=true:=e
         have hj1:0 < j:=by have:=of_decide_eq_true (Bool.and_eq_true_iff.mp e0).1; omega
         have q:=fr_low (i:=i) hj1
         rw [e0] at q
         have q:=of_decide_eq_true q
         injection q with q1 q2
         injection q2 with q2 _
         refine ⟨p,Rat.divInt i j,rfl,by rw [rt,q1,q2]; exact hp,⟨by rw [q1]; exact hi,?_⟩,by rw [q1]; rfl⟩
         have:((Rat.divInt i j).den:Int).natAbs < 2 ^ k:=by rw [q2]; exact hj
         exact this
       · rw [fr_2 z] at e; cases e
     · rw [fr_1 z] at e; cases e
   · rw [hs.len0 h2] at e; cases e
 · have z:isFr d=false:=by cases d <;> first | rfl | (cases e')
   rw [z] at e; cases e
def mk26 (ix:Nat):List Bool:=[decide (0=ix),decide (1=ix),decide (2=ix),decide (3=ix),decide (4=ix),decide (5=ix),decide (6=ix),decide (7=ix),decide (8=ix),decide (9=ix),decide (10=ix),decide (11=ix),decide (12=ix),decide (13=ix),decide (14=ix),decide (15=ix),decide (16=ix),decide (17=ix),decide (18=ix),decide (19=ix),decide (20=ix),decide (21=ix),decide (22=ix),decide (23=ix),decide (24=ix),decide (25=ix)]
def sp_marks (K:PySem.W.Frag) (cl:Str→Addr):Sp:=fun vs H Q _=>∃ ea C ix,vs=[.ref ea]∧H ea=some (excA ea C)∧Kind K cl C ix∧∀ L H',Same H H'→H' L=some (.lst ((mk26 ix).map V.bl))→Q (.ref L) H'
def sp_word (K:PySem.W.Frag) (cl:Str→Addr):Sp:=fun vs H Q _=>∃ ea C ix,vs=[.ref ea]∧H ea=some (excA ea C)∧Kind K cl C ix∧(ix=4∨ix=22)∧∀ T H',Same H H'→H' T=some (.tup [.str (WRD.getD ix "")])→Q (.ref T) H'
def Mono (sp:Hp→VK→XK→Prop):Prop:=∀ H (Q Q':VK) (E E':XK),(∀ v H1,Q v H1→Q' v H1)→(∀ c a H1,E c a H1→E' c a H1)→sp H Q E→sp H Q' E'
def sp_said (P:Program) (w:World) (K:PySem.W.Frag) (mg:Str→Option Value) (base:Heap) (cl:Str→Addr):Sp:=fun vs H Q _=>∃ a sp o fd,vs=[.ref a]∧H a=some (fzO o)∧o.data=.func fd∧LamOk P w K mg base 8 a sp∧Mono sp ∧
 sp H (fun v H1=>∀ L,H1 L=none→Q (.ref L) (upd H1 L (.lst [v]))) (fun c _ H1=>∃ C ix,c=.ref C∧Kind K cl C ix∧(ix=4∨ix=22)∧∀ T H2,Same H1 H2→H2 T=some (.tup [.str (WRD.getD ix "")])→Q (.ref T) H2)
def gs5 (d1 d2:PyData):List Bool:=[gB d1 d2,gB d1 d2,gB d1 d2,gB d1 d2,gO d1 d2]
def ow (b:Bool):Option Str:=if b=true then none else some "fraction"
def sp_words (Pw:Addr):Sp:=fun vs H Q _=>∃ N k v u d1 d2,vs=[v,u]∧Dt N H k v d1∧Dt N H k u d2∧k≤1990∧TabF H Pw "_law_words.<locals>.<lambda>" ∧ ∀ L H' vs',KeepP Pw H H'→TabF H' Pw "_law_words.<locals>.<lambda>" → H' L=some (.lst vs')→Al (IsOw H') vs' ((gs5 d1 d2).map ow)→Q (.ref L) H'
abbrev noPs:Arguments:={ posonlyargs:=[],args:=[],vararg:=none,kwonlyargs:=[],kw_defaults:=[],kwarg:=none,defaults:=[] }
abbrev lsc (ns:List (Str×NameKind)):Scope:={ kind:=.function,names:=ns,isGenerator:=false,isCoroutine:=false }
theorem ne_of_none' {H:Hp} {a b:Addr} {o:HO} (e:H a=some o) (n:H b=none):b≠a:=fun z=>by rw [z,e] at n; cases n
theorem lk3 {a b c x:Str} (h:List.lookup x [(a,NameKind.free),(b,.free),(c,.globalImplicit)]=some .free):x=a∨x=b:=by
 simp only [List.lookup] at h
 split at h
 · rename_i e; exact .inl (beq_iff_eq.mp e)
 · split at h
   · rename_i e; exact .inr (beq_iff_eq.mp e)
   · split at h <;> cases h
theorem lk2 {a c x:Str} (h:List.lookup x [(a,NameKind.free),(c,.globalImplicit)]=some .free):x=a:=by
 simp only [List.lookup] at h
 split at h
 · rename_i e; exact beq_iff_eq.mp e
 · split at h <;> cases h
theorem lk1 {c x:Str} (h:List.lookup x [(c,NameKind.globalImplicit)]=some .free):False:=by
 simp only [List.lookup] at h
 split at h <;> cases h
theorem celOf {H:Hp} {c:Addr} {v:V} (h:CellF H c v):∃ o v,H c=some (fzO o)∧o.data=.cell v:=let ⟨o,u,a,b,_⟩:=h; ⟨o,_,a,b⟩
section
variable {P:Program} {w:World} {K:PySem.W.Frag} {mg:Str→Option Value} {base:Heap} {c c' a:Addr} {pm:Value} {q:Str} {p0 p1 p2 p3:Pos} {j0:Nat}
def spOp (op:Str) (a c1 c2 c:Addr) (q:Str) (pm:Value) (p0 p1 p2 p3:Pos) (g:PyData→PyData→Bool):Hp→VK→XK→Prop:=fun H Q E =>
 LamF H a q noPs (.Call (.Name op p0) [.Name "_law_one" p1,.Name "_law_other" p2] [] p3) (lsc [("_law_one",.free),("_law_other",.free),(op,.globalImplicit)]) [("_law_other",c2),("_law_one",c1)] pm∧∃ v u,CellF H c1 v∧CellF H c2 u∧sp_opX c g [v,u] H Q E
theorem spOp_mono {op:Str} {c1 c2:Addr} {g:PyData→PyData→Bool}:Mono (spOp op a c1 c2 c q pm p0 p1 p2 p3 g):=by
 rintro H Q Q' E E' hQ hE ⟨l,v,u,h1,h2,N,k,v',u',d1,d2,e,k1,k2,hk,q⟩
 refine ⟨l,v,u,h1,h2,N,k,v',u',d1,d2,e,k1,k2,hk,?_⟩
 split
 · rename_i h; rw [if_pos h] at q; exact fun r H' s=>hQ _ _ (q r H' s)
 · rename_i h; rw [if_neg h] at q; exact hE _ _ _ q
theorem lamOp {op:Str} {c1 c2:Addr} {g:PyData→PyData→Bool} (X_op:CalX P w K mg base op 6 ["one","other"] (sp_opX c g)) (hne:c1≠c2) (hop:∀ (L:Addr) (cl:List (Str×Addr)) (cd:Value),(lamEnv (lsc [("_law_one",.free),("_law_other",.free),(op,.globalImplicit)]) L cl q a cd).kindOf op=some .globalImplicit) (hdb:(op == ("__debug__" : Str))=false) :
 LamOk P w K mg base 8 a (spOp op a c1 c2 c q pm p0 p1 p2 p3 g):=by
 refine lam_of (k:=7) (N:=["_law_one","_law_other"]) (q:=q) (params:=noPs) (body:=.Call (.Name op p0) [.Name "_law_one" p1,.Name "_law_other" p2] [] p3) (scope:=lsc [("_law_one",.free),("_law_other",.free),(op,.globalImplicit)]) (clos:=[("_law_other",c2),("_law_one",c1)]) (pm:=pm) rfl rfl rfl ?_ ?_ ?_ ?_ ?_ ?_ ?_
 · intro x hx; simp only [List.mem_cons,List.not_mem_nil,or_false] at hx; rcases hx with rfl | rfl | rfl <;> (intro z; cases z)
 · intro _ _; rfl
 · intro x y d h1 h2
   simp only [List.lookup] at h1 h2
   split at h1 <;> split at h2
   · rename_i e1 _ e2; exact (beq_iff_eq.mp e1).trans (beq_iff_eq.mp e2).symm
   · rename_i e1 _ e2
     split at h2
     · cases h1; cases h2; exact absurd rfl hne
     · cases h2
   · rename_i e1 _ e2
     split at h1
     · cases h1; cases h2; exact absurd rfl hne
     · cases h1
   · rename_i e1 _ e2
     split at h1
     · split at h2
       · rename_i a1 _ a2; exact (beq_iff_eq.mp a1).trans (beq_iff_eq.mp a2).symm
       · cases h2
     · cases h1
 · intro x hx
   rcases lk3 hx with rfl | rfl
   · exact ⟨c1,rfl⟩
   · exact ⟨c2,rfl⟩
 · intro i x e
   match i,e with
   | 0,e=>cases e; rfl
   | 1,e=>cases e; rfl
   | n+2,e=>simp at e
 · rintro H Q E ⟨l,v,u,h1,h2,_⟩
   refine ⟨l,fun x d e=>?_⟩
   simp only [List.lookup] at e
   split at e
   · cases e; exact celOf h2
   · split at e
     · cases e; exact celOf h1
     · cases e
 · rintro A outer s H Q E cd hr ⟨l,v,u,h1,h2,h3⟩
   refine ⟨[some v,some u],_,rfl,fun i x z e1 e2=>?_,pe_calX X_op xeOkL.passes hr (by decide) (hop _ _ _) (pa_cons (pv 0) (pa_cons (pv 1) pa_nil rfl) rfl) hdb,⟨_,rfl,_,rfl,h3⟩⟩
   match i,e1,e2 with
   | 0,e1,e2=>cases e1; cases e2; exact ⟨c1,rfl,h1⟩
   | 1,e1,e2=>cases e1; cases e2; exact ⟨c2,rfl,h2⟩
   | n+2,e1,e2=>simp at e1
def spB (sp:V→Hp→VK→XK→Prop) (body:Expr) (f:Str) (a c:Addr) (q:Str) (pm:Value):Hp→VK→XK→Prop:=fun H Q E=>LamF H a q noPs body (lsc [("_law_bad",.free),(f,.globalImplicit)]) [("_law_bad",c)] pm∧∃ v,CellF H c v∧sp v H Q E
def spN (sp:Hp→VK→XK→Prop) (body:Expr) (f:Str) (a:Addr) (q:Str) (pm:Value):Hp→VK→XK→Prop:=fun H Q E=>LamF H a q noPs body (lsc [(f,.globalImplicit)]) [] pm∧sp H Q E
theorem spB_mono {sp:V→Hp→VK→XK→Prop} {body:Expr} {f:Str} (m:∀ v,Mono (sp v)):Mono (spB sp body f a c q pm):=fun H Q Q' E E' hQ hE ⟨l,v,h,s⟩=>⟨l,v,h,m v H Q Q' E E' hQ hE s⟩
theorem spN_mono {sp:Hp→VK→XK→Prop} {body:Expr} {f:Str} (m:Mono sp):Mono (spN sp body f a q pm):=fun H Q Q' E E' hQ hE ⟨l,s⟩=>⟨l,m H Q Q' E E' hQ hE s⟩
theorem madeX_mono {vs:List V}:Mono (fun H Q E=>sp_madeX c vs H Q E):=fun H Q Q' E E' hQ hE ⟨N,k,v,u,d1,d2,e,k1,k2,hb,q⟩=>⟨N,k,v,u,d1,d2,e,k1,k2,hb,hE _ _ _ q⟩
theorem lamB {sp:V→Hp→VK→XK→Prop} {body:Expr} {f:Str}
 (hpe:∀ (A:Around) (outer:List Env) (s:Shared) (H:Hp) (Q:VK) (E:XK) (cd:Value) (v:V),Room 7 (A.deeper (lamEnv (lsc [("_law_bad",.free),(f,.globalImplicit)]) s.heap.objs.size [("_law_bad",c)] q a cd))→sp v H Q E →
   ∃ t,PE (cxL P w K mg base ["_law_bad"] (lamEnv (lsc [("_law_bad",.free),(f,.globalImplicit)]) s.heap.objs.size [("_law_bad",c)] q a cd) A outer s H E) body t∧t [some v] H Q) :
 LamOk P w K mg base 8 a (spB sp body f a c q pm):=by
 refine lam_of (k:=7) (N:=["_law_bad"]) (q:=q) (params:=noPs) (body:=body) (scope:=lsc [("_law_bad",.free),(f,.globalImplicit)]) (clos:=[("_law_bad",c)]) (pm:=pm) rfl rfl rfl ?_ ?_ ?_ ?_ ?_ ?_ ?_
 · intro x hx; simp only [List.mem_cons,List.not_mem_nil,or_false] at hx; rcases hx with rfl | rfl <;> (intro z; cases z)
 · intro _ _; rfl
 · intro x y d h1 h2
   simp only [List.lookup] at h1 h2
   split at h1
   · split at h2
     · rename_i e1 _ e2; exact (beq_iff_eq.mp e1).trans (beq_iff_eq.mp e2).symm
     · cases h2
   · cases h1
 · intro x hx
   rw [lk2 hx]
   exact ⟨c,rfl⟩
 · intro i x e
   match i,e with
   | 0,e=>cases e; rfl
   | n+1,e=>simp at e
 · rintro H Q E ⟨l,v,h1,_⟩
   refine ⟨l,fun x d e=>?_⟩
   simp only [List.lookup] at e
   split at e
   · cases e; exact celOf h1
   · cases e
 · rintro A outer s H Q E cd hr ⟨l,v,h1,h3⟩
   obtain ⟨t,ht,hq⟩:=hpe A outer s H Q E cd v hr h3
   refine ⟨[some v],t,rfl,fun i x z e1 e2=>?_,ht,hq⟩
   match i,e1,e2 with
   | 0,e1,e2=>cases e1; cases e2; exact ⟨c,rfl,h1⟩
   | n+1,e1,e2=>simp at e1
theorem lamN {sp:Hp→VK→XK→Prop} {body:Expr} {f:Str}
 (hpe:∀ (A:Around) (outer:List Env) (s:Shared) (H:Hp) (Q:VK) (E:XK) (cd:Value),Room 7 (A.deeper (lamEnv (lsc [(f,.globalImplicit)]) s.heap.objs.size [] q a cd))→sp H Q E →
   ∃ t,PE (cxL P w K mg base [] (lamEnv (lsc [(f,.globalImplicit)]) s.heap.objs.size [] q a cd) A outer s H E) body t∧t [] H Q) :
 LamOk P w K mg base 8 a (spN sp body f a q pm):=by
 refine lam_of (k:=7) (N:=[]) (q:=q) (params:=noPs) (body:=body) (scope:=lsc [(f,.globalImplicit)]) (clos:=[]) (pm:=pm) rfl rfl rfl ?_ ?_ ?_ ?_ ?_ ?_ ?_
 · intro x hx; simp only [List.mem_cons,List.not_mem_nil,or_false] at hx; rcases hx with rfl; intro z; cases z
 · intro _ _; rfl
 · intro x y d h1; cases h1
 · intro x hx; exact (lk1 hx).elim
 · intro i x e; simp at e
 · rintro H Q E ⟨l,_⟩; exact ⟨l,fun x d e=>by cases e⟩
 · rintro A outer s H Q E cd hr ⟨l,h3⟩
   obtain ⟨t,ht,hq⟩:=hpe A outer s H Q E cd hr h3
   exact ⟨[],t,rfl,fun i x z e1 e2=>by simp at e1,ht,hq⟩
theorem lamM1 (Y_made:CalXD P w K mg base "made" 4 ["top","bottom"] [.int 1] (sp_madeX c')):LamOk P w K mg base 8 a (spB (fun v H Q E=>sp_madeX c' [v,.int 1] H Q E) (.Call (.Name "made" p0) [.Name "_law_bad" p1] [] p3) "made" a c q pm) :=
 lamB fun A outer s H Q E cd v hr h=>⟨_,pe_calXD Y_made xeOkL.passes hr (by decide) rfl (pa_cons (pv 0) pa_nil rfl),⟨_,rfl,h⟩⟩
theorem lamM2 (X_made:CalX P w K mg base "made" 4 ["top","bottom"] (sp_madeX c')):LamOk P w K mg base 8 a (spB (fun v H Q E=>sp_madeX c' [.int 1,v] H Q E) (.Call (.Name "made" p0) [.Constant (.int 1) j0 p1,.Name "_law_bad" p2] [] p3) "made" a c q pm) :=
 lamB fun A outer s H Q E cd v hr h=>⟨_,pe_calX X_made xeOkL.passes hr (by decide) rfl (pa_cons pe_int (pa_cons (pv 0) pa_nil rfl) rfl),⟨_,rfl,h⟩⟩
theorem lamM3 {j1:Nat} (X_made:CalX P w K mg base "made" 4 ["top","bottom"] (sp_madeX c')):LamOk P w K mg base 8 a (spN (fun H Q E=>sp_madeX c' [.int 3,.int 0] H Q E) (.Call (.Name "made" p0) [.Constant (.int 3) j0 p1,.Constant (.int 0) j1 p2] [] p3) "made" a q pm) :=
 lamN fun A outer s H Q E cd hr h=>⟨_,pe_calX X_made xeOkL.passes hr (by decide) rfl (pa_cons pe_int (pa_cons pe_int pa_nil rfl) rfl),h⟩
theorem lamM4 {j1:Nat} (X_made:CalX P w K mg base "made" 4 ["top","bottom"] (sp_madeX c')):LamOk P w K mg base 8 a (spN (fun H Q E=>sp_madeX c' [.non,.int 0] H Q E) (.Call (.Name "made" p0) [.Constant .none j0 p1,.Constant (.int 0) j1 p2] [] p3) "made" a q pm) :=
 lamN fun A outer s H Q E cd hr h=>⟨_,pe_calX X_made xeOkL.passes hr (by decide) rfl (pa_cons pe_non (pa_cons pe_int pa_nil rfl) rfl),h⟩
end
theorem frRat (q:Rat):isFr (.tuple [.int q.num,.int q.den])=true:=by
 show (decide (1≤(q.den:Int)) && decide (Int.gcd q.num q.den=1))=true
 rw [decide_eq_true (by have:=q.den_pos; omega),decide_eq_true (FM.gcd_one q)]; rfl
theorem al5d {H:Hp} {v u:V} {x y:Option Str} (h:IsOw H v x) (h':IsOw H u y):Al (IsOw H) [v,v,v,v,u] [x,x,x,x,y]:=⟨rfl,fun i w o e1 e2=>by
 match i,e1,e2 with
 | 0,e1,e2=>cases e1; cases e2; exact h
 | 1,e1,e2=>cases e1; cases e2; exact h
 | 2,e1,e2=>cases e1; cases e2; exact h
 | 3,e1,e2=>cases e1; cases e2; exact h
 | 4,e1,e2=>cases e1; cases e2; exact h'
 | n+5,e1,e2=>simp at e1⟩
theorem al5c {H:Hp} {v:V} {x:Option Str} (h:IsOw H v x):Al (IsOw H) [v,v,v,v,v] [x,x,x,x,x]:=al5d h h
theorem zero_den {q:Rat} (h:q.num=0):q.den=1:=by
 have:=FM.gcd_one q
 rw [h,Int.gcd_zero_left] at this
 simpa using this
theorem al1s (x:Str):Al (fun v (x:Str)=>v=V.str x) [V.str x] [x]:=⟨rfl,fun i v y e1 e2=>by
 match i,e1,e2 with
 | 0,e1,e2=>cases e1; cases e2; rfl
 | n+1,e1,e2=>simp at e1⟩
theorem nzI {d:PyData} (h:isI d=false):isNz d=false:=by cases d <;> first | rfl | (cases h)
theorem hu_d2 {A:Around} {k:Nat} (hr:Room k A):A.units+1+1 < cLine:=by have:=hr.un; omega
theorem hu_d1 {A:Around} {k:Nat} (hr:Room k A):A.units+0+1 < cLine:=by have:=hr.un; omega
def sp_law (K:PySem.W.Frag) (Pw Pl:Addr):Sp:=fun vs H Q _=>∃ (a:Addr) (ns:List Int),vs=[.ref a]∧SqL K H a (ns.map V.int)∧ns.length≤63∧Pw≠Pl∧TabF H Pw "_law_words.<locals>.<lambda>" ∧ TabF H Pl "law.<locals>.<lambda>" ∧ ∀ H',Q (.bl true) H'
section
variable {P:Program} {w:World} {K:PySem.W.Frag} {mg:Str→Option Value} {base:Heap} {f:Addr} {fd:FuncData} (T:Bt mg)
include T
abbrev s_is_whole:Stmt:=top 37
theorem ok_is_whole (F:Fun K "is_whole" "is_whole" s_is_whole f fd):FnOk P w K mg base CX0 1 f fd ["thing"] sp_wholeD:=by
 have sc:FnScope ["thing"] ["thing"] (defScope s_is_whole):=fsc (by decide +kernel)
 refine F.ok sc (fun vs H Q E h=>?_) (fun cdv A outer s H vs Q E hr h=>?_)
 · obtain ⟨N,k,v,d,rfl,_⟩:=h
   rfl
 · obtain ⟨N,k,v,d,rfl,h,q⟩:=h
   have nd:=sc.nd
   have hu:=hu_of hr
   have hu1:=Nat.lt_of_succ_lt hu
   refine' ⟨_,?term,?read⟩
   case term =>
    refine' @L2.pss_one _ _ _ ?g1
    case g1 =>
     refine' @L2.ps_ret _ _ _ _ ?g2
     case g2 =>
      refine' @L2.pe_and _ _ _ _ _ _ _ (pe_callB call_isi rfl T.b_isinstance bb_isinstance (pa_cons (pv 0) (pa_cons (pe_bltn (v:=.ty "int") rfl T.b_int bb_int rfl) pa_nil rfl) rfl)) ?g3
      case g3 =>
       refine' @L2.pe_one _ _ _ _ _ ?g4
       case g4 =>
        refine' @L2.pe_not _ _ _ _ (pe_callB call_isi rfl T.b_isinstance bb_isinstance (pa_cons (pv 0) (pa_cons (pe_bltn (v:=.ty "bool") rfl T.b_bool bb_bool rfl) pa_nil rfl) rfl))
   case read =>
    cases h with
    | non=>exact ⟨_,rfl,_,_,_,_,rfl,TyOf.non,rfl,false,rfl,iteF q⟩
    | bl b=>exact ⟨_,rfl,_,_,_,_,rfl,TyOf.bl b,rfl,true,rfl,iteT ⟨_,rfl,_,_,_,_,rfl,TyOf.bl b,rfl,true,rfl,q⟩⟩
    | int hi=>exact ⟨_,rfl,_,_,_,_,rfl,TyOf.int _,rfl,true,rfl,iteT ⟨_,rfl,_,_,_,_,rfl,TyOf.int _,rfl,false,rfl,q⟩⟩
    | str x=>exact ⟨_,rfl,_,_,_,_,rfl,TyOf.str x,rfl,false,rfl,iteF q⟩
    | tup h r=>exact ⟨_,rfl,_,_,_,_,rfl,TyOf.tup h,rfl,false,rfl,iteF q⟩
    | lst h n m r=>exact ⟨_,rfl,_,_,_,_,rfl,TyOf.lst h,rfl,false,rfl,iteF q⟩
    | dic h=>exact ⟨_,rfl,_,_,_,_,rfl,TyOf.dK h,rfl,false,rfl,iteF q⟩
abbrev s_plain_divisor:Stmt:=top 3
theorem ok_plain_divisor (F:Fun K "plain_divisor" "plain_divisor" s_plain_divisor f fd):FnOk P w K mg base CX0 1 f fd ["one","other"] sp_plain:=by
 have sc:FnScope ["one","other"] ["one","other"] (defScope s_plain_divisor):=fsc (by decide +kernel)
 refine F.ok sc (fun vs H Q E h=>?_) (fun cdv A outer s H vs Q E hr h=>?_)
 · obtain ⟨a,b,rfl,_⟩:=h
   rfl
 · obtain ⟨a,b,rfl,q⟩:=h
   have nd:=sc.nd
   have hu:=hu_of hr
   have hu1:=Nat.lt_of_succ_lt hu
   refine' ⟨_,?term,?read⟩
   case term =>
    refine' @L2.pss_cons _ _ _ _ _ ?g1 (pss_one (ps_ret (pe_callB call_abs rfl T.b_abs bb_abs (pa_cons (pv 0) pa_nil rfl))))
    case g1 =>
     refine' @L2.ps_while _ _ _ _ _ _ PassesOwn.never ?g2 ?g3
     case g2 =>
      refine' @L2.pt_truth _ _ _ (pv 1) (fun _=>rfl)
     case g3 =>
      refine' @L2.pss_one _ _ _ ?g4
      case g4 =>
       refine' @L2.ps_par _ _ (0) (1) _ _ _ _ _ _ _ _ _ _ _ rfl nd rfl rfl (by decide) rfl rfl (pa_cons (pv 1) (pa_cons (pe_op op_modN (pv 0) (pv 1)) pa_nil rfl) rfl) rfl (by rfl)
   case read =>
    refine while_by (fun σ H'=>∃ x y:Int,σ=[some (.int x),some (.int y)]∧H'=H∧Int.gcd x y=Int.gcd a b) (fun σ _=>match σ with | [_,some (.int y)]=>y.natAbs | _=>0) ⟨a,b,rfl,rfl,rfl⟩ ?_ ?_
    · rintro σ H' ⟨x,y,rfl,rfl,e⟩
      refine ⟨_,rfl,(y != 0),rfl,?_⟩
      by_cases hy:y=0
      · subst hy
        refine iteF ?_
        refine ⟨_,rfl,x,rfl,?_⟩
        have z:(if x < 0 then -x else x)=(Int.gcd a b:Int):=by
         rw [← e,Int.gcd_zero_right]
         split <;> omega
        rw [z]
        exact q
      · rw [show (y != 0)=true by simpa using hy]
        refine iteT ?_
        refine ⟨_,rfl,_,rfl,_,rfl,x,y,rfl,rfl,hy,_,_,rfl,⟨y,x.fmod y,rfl,rfl,by rw [FM.gcd_fmod hy]; exact e⟩,FM.fmod_abs_lt hy⟩
    · rintro σ H' Q1 Q2 hq ⟨v,e,k,t,q'⟩
      exact ⟨v,e,k,t,hq _ _ q'⟩
abbrev s_divisor:Stmt:=top 7
theorem ok_divisor (F:Fun K "divisor" "divisor" s_divisor f fd) (C_plain_divisor:Cal P w K mg base "plain_divisor" 1 ["one","other"] sp_plain):FnOk P w K mg base CX0 2 f fd ["one","other"] sp_divisor:=by
 have sc:FnScope ["one","other","half"] ["one","other"] (defScope s_divisor):=fsc (by decide +kernel)
 refine F.ok sc (fun vs H Q E h=>?_) (fun cdv A outer s H vs Q E hr h=>?_)
 · obtain ⟨a,b,rfl,_⟩:=h
   rfl
 · obtain ⟨a,b,rfl,hb,q⟩:=h
   have nd:=sc.nd
   have hu:=hu_of hr
   have hu1:=Nat.lt_of_succ_lt hu
   refine' ⟨_,?term,?read⟩
   case term =>
    refine' @L2.pss_cons _ _ _ _ _ ?g1 (pss_one (ps_ret (pe_cal C_plain_divisor hr (by decide) rfl (pa_cons (pv 0) (pa_cons (pv 1) pa_nil rfl) rfl))))
    case g1 =>
     refine' @L2.ps_while _ _ _ _ _ _ PassesOwn.never ?g2 pss_never
     case g2 =>
      refine' @L2.pt_cmpR _ _ _ _ _ _ _ _ op_gt ?g3 (pe_gint T.n_GREAT_BITS rfl) (nomark _)
      case g3 =>
       refine' @L2.pe_callB _ _ _ _ _ _ _ _ _ (call_min2 rfl) rfl T.b_min bb_min ?g4 (by decide) (by decide) (by rfl) (by rfl)
       case g4 =>
        refine' @L2.pa_cons _ _ _ _ _ ?g5 ?g6 rfl
        case g5 =>
         refine' @L2.pe_bm0 _ _ _ _ _ _ _ _ _ PySem.F.plainAttrs_int PySem.F.slot_int_bit_length PySem.F.type_int_bit_length mt_bits (pv 0) (by rfl) (by rfl)
        case g6 =>
         refine' @L2.pa_cons _ _ _ _ _ ?g7 pa_nil rfl
         case g7 =>
          refine' @L2.pe_bm0 _ _ _ _ _ _ _ _ _ PySem.F.plainAttrs_int PySem.F.slot_int_bit_length PySem.F.type_int_bit_length mt_bits (pv 1) (by rfl) (by rfl)
   case read =>
    refine while_by (fun σ H'=>σ=[some (.int a),some (.int b),none]∧H'=H) (fun σ _=>0) ⟨rfl,rfl⟩ ?_ ?_
    · rintro σ H' ⟨rfl,rfl⟩
      refine ⟨_,rfl,rfl,_,rfl,rfl,_,rfl,rfl,_,rfl,rfl,_,_,rfl,_,_,rfl,rfl,_,rfl,?_⟩
      rw [min4000 hb]
      refine iteF ?_
      exact ⟨_,rfl,_,rfl,a,b,rfl,q⟩
    · rintro σ H' Q1 Q2 hq ⟨v1,e1,t1,i1,a1,n1,v2,e2,t2,i2,a2,n2,i,j,e3,i4,j4,e4,e5,b,e6,q'⟩
      exact ⟨v1,e1,t1,i1,a1,n1,v2,e2,t2,i2,a2,n2,i,j,e3,i4,j4,e4,e5,b,e6,hq _ _ q'⟩
abbrev s_reduced:Stmt:=top 38
theorem ok_reduced (F:Fun K "reduced" "reduced" s_reduced f fd) (C_divisor:Cal P w K mg base "divisor" 2 ["one","other"] sp_divisor):FnOk P w K mg base CX0 3 f fd ["top","bottom"] sp_reduced:=by
 have sc:FnScope ["top","bottom","common"] ["top","bottom"] (defScope s_reduced):=fsc (by decide +kernel)
 refine F.ok sc (fun vs H Q E h=>?_) (fun cdv A outer s H vs Q E hr h=>?_)
 · obtain ⟨t,b,rfl,_⟩:=h
   rfl
 · obtain ⟨t,b,rfl,hb,hz,q⟩:=h
   have nd:=sc.nd
   have hu:=hu_of hr
   have hu1:=Nat.lt_of_succ_lt hu
   refine' ⟨_,?term,?read⟩
   case term =>
    refine' @L2.pss_cons _ _ _ _ _ ?g1 ?g2
    case g1 =>
     refine' @L2.ps_set _ _ (2) _ _ _ _ nd rfl (Or.inl rfl) (pe_cal C_divisor hr (by decide) rfl (pa_cons (pv 0) (pa_cons (pv 1) pa_nil rfl) rfl)) (by rfl) (by first | exact Or.inl rfl | exact Or.inr rfl | assumption)
    case g2 =>
     refine' @L2.pss_cons _ _ _ _ _ ?g3 (pss_one (ps_ret (pe_tup (pa_cons (pe_op op_fdivB (pv 0) (pv 2)) (pa_cons (pe_op op_fdivB (pv 1) (pv 2)) pa_nil rfl) rfl))))
     case g3 =>
      refine' @L2.ps_if _ _ _ _ _ _ _ _ (pt_cmpR op_lt (pv 1) pe_int (nomark _)) ?g4 pss_nil
      case g4 =>
       refine' @L2.pss_one _ _ _ ?g5
       case g5 =>
        refine' @L2.ps_set _ _ (2) _ _ _ _ nd rfl (Or.inl rfl) (pe_un un_neg (pv 2)) (by rfl) (by first | exact Or.inl rfl | exact Or.inr rfl | assumption)
   case read =>
    refine ⟨_,rfl,_,rfl,t,b,rfl,hz,?_⟩
    have hg:=FM.gcd_ne (t:=t) hb
    have hgz:(Int.gcd t b) < 2 ^ 8999:=Nat.lt_of_le_of_lt (Nat.gcd_le_right _ (Int.natAbs_pos.mpr hb)) (lt4000 hz)
    have hsg:FM.sg t b≠0:=FM.sg_ne hb
    have hsz:(FM.sg t b).natAbs < 2 ^ 8999:=by
     unfold FM.sg
     split
     · rw [Int.natAbs_neg]; exact hgz
     · exact hgz
    have fin:∀ g:Int,g=FM.sg t b→∀ p,H p=none→Q (.ref p) (upd H p (.tup [.int (t.fdiv g),.int (b.fdiv g)])):=by
     rintro g rfl p hp
     rw [FM.fdiv_num hb,FM.fdiv_den hb]
     exact q p _ (Same.new hp) upd_same
    refine ⟨_,rfl,_,_,rfl,rfl,_,rfl,?_⟩
    refine ite2 (fun hlt=>?_) (fun hlt=>?_)
    · have hlt':b < 0:=of_decide_eq_true hlt
      have e:-(Int.gcd t b:Int)=FM.sg t b:=by unfold FM.sg; rw [if_pos hlt']
      refine ⟨_,rfl,_,rfl,?_⟩
      refine ⟨_,rfl,_,rfl,t,_,rfl,rfl,⟨by rw [e]; exact hsg,by rw [e]; exact hsz⟩,_,rfl,_,rfl,b,_,rfl,rfl,⟨by rw [e]; exact hsg,by rw [e]; exact hsz⟩,by show 2≤sizeLine; decide,?_⟩
      exact fin _ e
    · have hlt':¬ b < 0:=fun z=>hlt (decide_eq_true z)
      have e:(Int.gcd t b:Int)=FM.sg t b:=by unfold FM.sg; rw [if_neg hlt']
      refine ⟨_,rfl,_,rfl,t,_,rfl,rfl,⟨by rw [e]; exact hsg,by rw [e]; exact hsz⟩,_,rfl,_,rfl,b,_,rfl,rfl,⟨by rw [e]; exact hsg,by rw [e]; exact hsz⟩,by show 2≤sizeLine; decide,?_⟩
      exact fin _ e
abbrev s_is_fraction:Stmt:=top 39
theorem ok_is_fraction (F:Fun K "is_fraction" "is_fraction" s_is_fraction f fd) (C_divisor:Cal P w K mg base "divisor" 2 ["one","other"] sp_divisor) (C_is_whole:Cal P w K mg base "is_whole" 1 ["thing"] sp_wholeD):FnOk P w K mg base CX0 3 f fd ["thing"] sp_frD:=by
 have sc:FnScope ["thing","top","bottom"] ["thing"] (defScope s_is_fraction):=fsc (by decide +kernel)
 refine F.ok sc (fun vs H Q E h=>?_) (fun cdv A outer s H vs Q E hr h=>?_)
 · obtain ⟨N,k,v,d,rfl,_⟩:=h
   rfl
 · obtain ⟨N,k,v,d,rfl,h,hk,q⟩:=h
   have nd:=sc.nd
   have hu:=hu_of hr
   have hu1:=Nat.lt_of_succ_lt hu
   refine' ⟨_,?term,?read⟩
   case term =>
    refine' @L2.pss_cons _ _ _ _ _ ?g1 ?g2
    case g1 =>
     refine' @L2.ps_if _ _ _ _ _ _ _ _ ?g3 (pss_one (ps_ret pe_bl)) pss_nil
     case g3 =>
      refine' @L2.PW.pt _ _ _ ?g4
      case g4 =>
       refine' @L2.pw_or _ _ _ _ _ _ _ ?g5 ?g6
       case g5 =>
        refine' @L2.pt_not _ _ _ _ ?g7
        case g7 =>
         refine' @L2.pt_truth _ _ _ (pe_callB call_isi rfl T.b_isinstance bb_isinstance (pa_cons (pv 0) (pa_cons (pe_bltn (v:=.ty "tuple") rfl T.b_tuple bb_tuple rfl) pa_nil rfl) rfl)) (fun _=>rfl)
       case g6 =>
        refine' @L2.pw_or1 _ _ _ _ (pt_cmpR op_ne (pe_callB call_len_seq rfl T.b_len bb_len (pa_cons (pv 0) pa_nil rfl)) pe_int (nomark _))
    case g2 =>
     refine' @L2.pss_cons _ _ _ _ _ ?g8 ?g9
     case g8 =>
      refine' @L2.ps_asg _ _ _ _ _ _ (pv 0) ?ga (by rfl) (by rfl) (by rfl)
      case ga =>
       refine' @L2.pg_tup _ _ _ _ _ (2) rfl (pgs_cons (pg_name (i:=1) nd rfl (Or.inl rfl)) (pgs_cons (pg_name (i:=2) nd rfl (Or.inl rfl)) pgs_nil)) (by rfl) (by rfl)
     case g9 =>
      refine' @L2.pss_cons _ _ _ _ _ ?gb (pss_one (ps_ret (pe_cmpR op_eq (pe_cal C_divisor hr (by decide) rfl (pa_cons (pv 1) (pa_cons (pv 2) pa_nil rfl) rfl)) pe_int (nomark _))))
      case gb =>
       refine' @L2.ps_if _ _ _ _ _ _ _ _ ?gc (pss_one (ps_ret pe_bl)) pss_nil
       case gc =>
        refine' @L2.PW.pt _ _ _ ?gd
        case gd =>
         refine' @L2.pw_or _ _ _ _ _ _ _ ?ge ?gf
         case ge =>
          refine' @L2.pt_not _ _ _ _ ?gg
          case gg =>
           refine' @L2.pt_truth _ _ _ (pe_cal C_is_whole hr (by decide) rfl (pa_cons (pv 1) pa_nil rfl)) (fun _=>rfl)
         case gf =>
          refine' @L2.pw_or _ _ _ _ _ _ _ ?gh ?gi
          case gh =>
           refine' @L2.pt_not _ _ _ _ ?gj
           case gj =>
            refine' @L2.pt_truth _ _ _ (pe_cal C_is_whole hr (by decide) rfl (pa_cons (pv 2) pa_nil rfl)) (fun _=>rfl)
          case gi =>
           refine' @L2.pw_or1 _ _ _ _ (pt_cmpR op_lt (pv 2) pe_int (nomark _))
   case read =>
    rcases h.isT with ⟨p,xs,ds,rfl,rfl,hp,hs⟩ | e
    case inr =>
     obtain ⟨t,ty,ki⟩:=h.ty (K:=K)
     refine ⟨_,rfl,_,_,t,_,rfl,ty,ki,_,rfl,?_⟩
     rw [e]
     have z:isFr d=false:=by cases d <;> first | rfl | (cases e)
     rw [z] at q
     exact iteT (iteT (q))
    refine ⟨_,rfl,_,_,_,_,rfl,TyOf.tup hp,rfl,true,rfl,iteF ?_⟩
    by_cases h2:xs.length=2
    case neg =>
     rw [hs.len0 h2] at q
     refine ⟨_,rfl,p,_,rfl,.inr (SqT.of hp),rfl,_,rfl,?_⟩
     rw [show decide (V.int (xs.length:Int)=V.int 2)=false from decide_eq_false (fun z=>h2 (by have:=V.int.inj z; omega))]
     exact iteT q
    obtain ⟨x,y,d1,d2,rfl,rfl,k1,k2⟩:∃ x y d1 d2,xs=[x,y]∧ds=[d1,d2]∧Dt N H k x d1∧Dt N H k y d2:=by
     match xs,ds,hs,h2 with
     | [x,y],[d1,d2],.cons a (.cons b .nil),_=>exact ⟨x,y,d1,d2,rfl,rfl,a,b⟩
    refine ⟨_,rfl,p,_,rfl,.inr (SqT.of hp),rfl,false,rfl,iteF ?_⟩
    refine ⟨_,rfl,p,_,rfl,SqT.of hp,rfl,_,_,rfl,_,_,rfl,rfl,?_⟩
    refine ⟨_,rfl,N,k,x,d1,rfl,k1,_,rfl,?_⟩
    rcases k1.isI with ⟨i,rfl,rfl,hi⟩ | e1
    case inr =>
     rw [e1]; rw [fr_1 e1] at q
     exact iteT (iteT q)
    refine iteF ?_
    refine ⟨_,rfl,N,k,y,d2,rfl,k2,_,rfl,?_⟩
    rcases k2.isI with ⟨j,rfl,rfl,hj⟩ | e2
    case inr =>
     rw [e2]; rw [fr_2 e2] at q
     exact iteT (iteT q)
    refine iteF ?_
    refine ⟨_,rfl,_,_,rfl,rfl,_,rfl,?_⟩
    have q':Q (.bl (decide (1≤j) && decide (Int.gcd i j=1))) H:=q
    refine ite2 (fun hlt=>?_) (fun hlt=>?_)
    · have z:¬ 1≤j:=by have:=of_decide_eq_true hlt; omega
      rw [decide_eq_false z] at q'
      exact q'
    · have z:1≤j:=by have:¬ j < 1:=fun z=>hlt (decide_eq_true z); omega
      rw [decide_eq_true z,Bool.true_and] at q'
      refine ⟨_,rfl,_,rfl,_,_,rfl,lt_8000 hj hk,rfl,?_⟩
      rw [show decide (V.int (Int.gcd i j:Int)=V.int 1)=decide (Int.gcd i j=1) from decide_eq_decide.mpr ⟨fun z=>by have:=V.int.inj z; omega,fun z=>by rw [z]; rfl⟩]
      exact q'
abbrev s_look_at_fraction:Stmt:=top 40
theorem ok_look_at_fraction (F:Fun K "look_at_fraction" "look_at_fraction" s_look_at_fraction f fd) {cl:Str→Addr} (Z:Ek K mg cl) (C_is_fraction:Cal P w K mg base "is_fraction" 3 ["thing"] sp_frD):FnOk P w K mg base (CX1 P w) 4 f fd ["thing"] (sp_lookX (cl "NoFraction")):=by
 have sc:FnScope ["thing"] ["thing"] (defScope s_look_at_fraction):=fsc (by decide +kernel)
 refine F.okX sc (fun vs H Q E h=>?_) (fun cdv A outer s H vs Q E hr h=>?_)
 · obtain ⟨N,k,v,d,rfl,_⟩:=h
   rfl
 · obtain ⟨N,k,v,d,rfl,h,hk,q⟩:=h
   have nd:=sc.nd
   have hu:=hu_of hr
   have hu1:=Nat.lt_of_succ_lt hu
   refine' ⟨_,?term,?read⟩
   case term =>
    refine' @L2.pss_one _ _ _ ?g1
    case g1 =>
     refine' @L2.ps_if _ _ _ _ _ _ _ _ ?g2 (pss_one (ps_raise xeOk1 rfl rfl Z.m_NoFraction Z.e_NoFraction)) pss_nil
     case g2 =>
      refine' @L2.pt_not _ _ _ _ ?g3
      case g3 =>
       refine' @L2.pt_truth _ _ _ (pe_cal C_is_fraction hr (by decide) rfl (pa_cons (pv 0) pa_nil rfl)) (fun _=>rfl)
   case read =>
    refine ⟨_,rfl,N,k,v,d,rfl,h,hk,_,rfl,?_⟩
    cases e:isFr d with
    | true=>rw [e,if_pos rfl] at q; exact iteF q
    | false=>rw [e,if_neg (by decide)] at q; exact iteT q
abbrev s_look_at_both:Stmt:=top 41
theorem ok_look_at_both (F:Fun K "look_at_both" "look_at_both" s_look_at_both f fd) {cl:Str→Addr} (Z:Ek K mg cl) (X_look_at_fraction:CalX P w K mg base "look_at_fraction" 4 ["thing"] (sp_lookX (cl "NoFraction"))):FnOk P w K mg base (CX1 P w) 5 f fd ["one","other"] (sp_bothX (cl "NoFraction")):=by
 have sc:FnScope ["one","other"] ["one","other"] (defScope s_look_at_both):=fsc (by decide +kernel)
 refine F.okX sc (fun vs H Q E h=>?_) (fun cdv A outer s H vs Q E hr h=>?_)
 · obtain ⟨N,k,v,u,d1,d2,rfl,_⟩:=h
   rfl
 · obtain ⟨N,k,v,u,d1,d2,rfl,k1,k2,hk,q⟩:=h
   have nd:=sc.nd
   have hu:=hu_of hr
   have hu1:=Nat.lt_of_succ_lt hu
   refine' ⟨_,?term,?read⟩
   case term =>
    refine' @L2.pss_cons _ _ _ _ _ ?g1 ?g2
    case g1 =>
     refine' @L2.ps_expr _ _ _ _ (pe_calX X_look_at_fraction xeOk1.passes hr (by decide) rfl (pa_cons (pv 0) pa_nil rfl)) (by rfl)
    case g2 =>
     refine' @L2.pss_one _ _ _ ?g3
     case g3 =>
      refine' @L2.ps_expr _ _ _ _ (pe_calX X_look_at_fraction xeOk1.passes hr (by decide) rfl (pa_cons (pv 1) pa_nil rfl)) (by rfl)
   case read =>
    refine ⟨_,rfl,N,k,v,d1,rfl,k1,hk,?_⟩
    cases e1:isFr d1 with
    | false=>rw [e1,Bool.false_and,if_neg (by decide)] at q; rw [if_neg (by decide)]; exact q
    | true =>
      rw [e1,Bool.true_and] at q
      rw [if_pos rfl]
      exact ⟨_,rfl,N,k,u,d2,rfl,k2,hk,q⟩
abbrev s_made:Stmt:=top 42
theorem ok_made (F:FunD K "made" "made" s_made f fd) {cl:Str→Addr} (Z:Ek K mg cl) (C_is_whole:Cal P w K mg base "is_whole" 1 ["thing"] sp_wholeD) (C_reduced:Cal P w K mg base "reduced" 3 ["top","bottom"] sp_reduced):FnOk P w K mg base (CX1 P w) 4 f fd ["top","bottom"] (sp_madeX (cl "NoWhole")):=by
 have sc:FnScope ["top","bottom"] ["top","bottom"] (defScope s_made):=fsc (by decide +kernel)
 refine F.okX sc (fun vs H Q E h=>?_) (fun cdv A outer s H vs Q E hr h=>?_)
 · obtain ⟨N,k,v,u,d1,d2,rfl,_⟩:=h
   rfl
 · obtain ⟨N,k,v,u,d1,d2,rfl,k1,k2,hb,q⟩:=h
   have nd:=sc.nd
   have hu:=hu_of hr
   have hu1:=Nat.lt_of_succ_lt hu
   refine' ⟨_,?term,?read⟩
   case term =>
    refine' @L2.pss_cons _ _ _ _ _ ?g1 ?g2
    case g1 =>
     refine' @L2.ps_if _ _ _ _ _ _ _ _ ?g3 (pss_one (ps_raise xeOk1 rfl rfl Z.m_NoWhole Z.e_NoWhole)) pss_nil
     case g3 =>
      refine' @L2.pt_not _ _ _ _ ?g4
      case g4 =>
       refine' @L2.pt_truth _ _ _ (pe_cal C_is_whole hr (by decide) rfl (pa_cons (pv 0) pa_nil rfl)) (fun _=>rfl)
    case g2 =>
     refine' @L2.pss_cons _ _ _ _ _ ?g5 ?g6
     case g5 =>
      refine' @L2.ps_if _ _ _ _ _ _ _ _ ?g7 (pss_one (ps_raise xeOk1 rfl rfl Z.m_NoWhole Z.e_NoWhole)) pss_nil
      case g7 =>
       refine' @L2.pt_not _ _ _ _ ?g8
       case g8 =>
        refine' @L2.pt_truth _ _ _ (pe_cal C_is_whole hr (by decide) rfl (pa_cons (pv 1) pa_nil rfl)) (fun _=>rfl)
     case g6 =>
      refine' @L2.pss_cons _ _ _ _ _ ?g9 (pss_one (ps_ret (pe_cal C_reduced hr (by decide) rfl (pa_cons (pv 0) (pa_cons (pv 1) pa_nil rfl) rfl))))
      case g9 =>
       refine' @L2.ps_if _ _ _ _ _ _ _ _ (pt_cmpR op_eq (pv 1) pe_int (nomark _)) (pss_one (ps_raise xeOk1 rfl rfl Z.m_NoWhole Z.e_NoWhole)) pss_nil
   case read =>
    refine ⟨_,rfl,N,k,v,d1,rfl,k1,_,rfl,?_⟩
    rcases k1.isI with ⟨i,rfl,rfl,hi⟩ | e1
    case inr=>rw [e1]; exact iteT q
    refine iteF ?_
    refine ⟨_,rfl,N,k,u,d2,rfl,k2,_,rfl,?_⟩
    rcases k2.isI with ⟨j,rfl,rfl,hj⟩ | e2
    case inr=>rw [e2]; exact iteT q
    refine iteF ?_
    have hj0:j=0:=by
     have z:decide (j≠0)=false:=hb
     have:=of_decide_eq_false z
     omega
    subst hj0
    refine ⟨_,rfl,rfl,_,rfl,?_⟩
    rw [decide_eq_true rfl]
    exact iteT q
abbrev s_plus:Stmt:=top 43
theorem ok_plus (F:Fun K "plus" "plus" s_plus f fd) {cl:Str→Addr} (Z:Ek K mg cl) (C_reduced:Cal P w K mg base "reduced" 3 ["top","bottom"] sp_reduced) (X_look_at_both:CalX P w K mg base "look_at_both" 5 ["one","other"] (sp_bothX (cl "NoFraction"))):FnOk P w K mg base (CX1 P w) 6 f fd ["one","other"] (sp_opX (cl "NoFraction") gB):=by
 have sc:FnScope ["one","other"] ["one","other"] (defScope s_plus):=fsc (by decide +kernel)
 refine F.okX sc (fun vs H Q E h=>?_) (fun cdv A outer s H vs Q E hr h=>?_)
 · obtain ⟨N,k,v,u,d1,d2,rfl,_⟩:=h
   rfl
 · obtain ⟨N,k,v,u,d1,d2,rfl,k1,k2,hk,q⟩:=h
   have nd:=sc.nd
   have hu:=hu_of hr
   have hu1:=Nat.lt_of_succ_lt hu
   refine' ⟨_,?term,?read⟩
   case term =>
    refine' @L2.pss_cons _ _ _ _ _ ?g1 ?g2
    case g1 =>
     refine' @L2.ps_expr _ _ _ _ (pe_calX X_look_at_both xeOk1.passes hr (by decide) rfl (pa_cons (pv 0) (pa_cons (pv 1) pa_nil rfl) rfl)) (by rfl)
    case g2 =>
     refine' @L2.pss_one _ _ _ ?g3
     case g3 =>
      refine' @L2.ps_ret _ _ _ _ ?g4
      case g4 =>
       refine' @L2.pe_cal _ _ _ _ _ _ _ _ _ _ _ C_reduced hr (by decide) rfl ?g5 (by decide) (by rfl) (by rfl)
       case g5 =>
        refine' @L2.pa_cons _ _ _ _ _ ?g6 ?g7 rfl
        case g6 =>
         refine' @L2.pe_op _ _ _ _ _ _ _ _ op_add ?g8 ?g9
         case g8 =>
          refine' @L2.pe_op _ _ _ _ _ _ _ _ op_mulB ?ga ?gb
          case ga =>
           refine' @L2.pe_ix _ _ _ _ _ _ _ ix_tup (pv 0) pe_int (fun _ _=>rfl)
          case gb =>
           refine' @L2.pe_ix _ _ _ _ _ _ _ ix_tup (pv 1) pe_int (fun _ _=>rfl)
         case g9 =>
          refine' @L2.pe_op _ _ _ _ _ _ _ _ op_mulB ?gc ?gd
          case gc =>
           refine' @L2.pe_ix _ _ _ _ _ _ _ ix_tup (pv 1) pe_int (fun _ _=>rfl)
          case gd =>
           refine' @L2.pe_ix _ _ _ _ _ _ _ ix_tup (pv 0) pe_int (fun _ _=>rfl)
        case g7 =>
         refine' @L2.pa_cons _ _ _ _ _ ?ge pa_nil rfl
         case ge =>
          refine' @L2.pe_op _ _ _ _ _ _ _ _ op_mulB ?gf ?gg
          case gf =>
           refine' @L2.pe_ix _ _ _ _ _ _ _ ix_tup (pv 0) pe_int (fun _ _=>rfl)
          case gg =>
           refine' @L2.pe_ix _ _ _ _ _ _ _ ix_tup (pv 1) pe_int (fun _ _=>rfl)
   case read =>
    refine ⟨_,rfl,_,rfl,N,k,v,u,d1,d2,rfl,k1,k2,by omega,?_⟩
    by_cases hb:(isFr d1 && isFr d2)=true
    case neg =>
     rw [if_neg hb]
     rw [show gB d1 d2=false from Bool.eq_false_iff.mpr hb] at q; exact q
    rw [if_pos hb]
    obtain ⟨hb1,hb2⟩:=Bool.and_eq_true_iff.mp hb
    obtain ⟨p,x,rfl,h1,bx,_⟩:=fr_rat k1 hb1
    obtain ⟨r,y,rfl,h2,by',zy⟩:=fr_rat k2 hb2
    have hx:FM.B 1990 x:=bx.mono (by omega)
    have hy:FM.B 1990 y:=by'.mono (by omega)
    rw [show gB d1 d2=true from hb,if_pos rfl] at q
    exact ⟨_,rfl,p,_,0,_,rfl,rfl,SqT.of h1,rfl,_,rfl,r,_,1,_,rfl,rfl,SqT.of h2,rfl,_,_,rfl,rfl,mND hx hy,_,rfl,r,_,0,_,rfl,rfl,SqT.of h2,rfl,_,rfl,p,_,1,_,rfl,rfl,SqT.of h1,rfl,_,_,rfl,rfl,mND hy hx,_,_,rfl,rfl,_,rfl,p,_,1,_,rfl,rfl,SqT.of h1,rfl,_,rfl,r,_,1,_,rfl,rfl,SqT.of h2,rfl,_,_,rfl,rfl,mDD hx hy,_,_,rfl,FM.mul_ne,dd_lt hx hy,fun p' H' s' _=>q _ _ s'⟩
abbrev s_minus:Stmt:=top 44
theorem ok_minus (F:Fun K "minus" "minus" s_minus f fd) {cl:Str→Addr} (Z:Ek K mg cl) (C_reduced:Cal P w K mg base "reduced" 3 ["top","bottom"] sp_reduced) (X_look_at_both:CalX P w K mg base "look_at_both" 5 ["one","other"] (sp_bothX (cl "NoFraction"))):FnOk P w K mg base (CX1 P w) 6 f fd ["one","other"] (sp_opX (cl "NoFraction") gB):=by
 have sc:FnScope ["one","other"] ["one","other"] (defScope s_minus):=fsc (by decide +kernel)
 refine F.okX sc (fun vs H Q E h=>?_) (fun cdv A outer s H vs Q E hr h=>?_)
 · obtain ⟨N,k,v,u,d1,d2,rfl,_⟩:=h
   rfl
 · obtain ⟨N,k,v,u,d1,d2,rfl,k1,k2,hk,q⟩:=h
   have nd:=sc.nd
   have hu:=hu_of hr
   have hu1:=Nat.lt_of_succ_lt hu
   refine' ⟨_,?term,?read⟩
   case term =>
    refine' @L2.pss_cons _ _ _ _ _ ?g1 ?g2
    case g1 =>
     refine' @L2.ps_expr _ _ _ _ (pe_calX X_look_at_both xeOk1.passes hr (by decide) rfl (pa_cons (pv 0) (pa_cons (pv 1) pa_nil rfl) rfl)) (by rfl)
    case g2 =>
     refine' @L2.pss_one _ _ _ ?g3
     case g3 =>
      refine' @L2.ps_ret _ _ _ _ ?g4
      case g4 =>
       refine' @L2.pe_cal _ _ _ _ _ _ _ _ _ _ _ C_reduced hr (by decide) rfl ?g5 (by decide) (by rfl) (by rfl)
       case g5 =>
        refine' @L2.pa_cons _ _ _ _ _ ?g6 ?g7 rfl
        case g6 =>
         refine' @L2.pe_op _ _ _ _ _ _ _ _ op_sub ?g8 ?g9
         case g8 =>
          refine' @L2.pe_op _ _ _ _ _ _ _ _ op_mulB ?ga ?gb
          case ga =>
           refine' @L2.pe_ix _ _ _ _ _ _ _ ix_tup (pv 0) pe_int (fun _ _=>rfl)
          case gb =>
           refine' @L2.pe_ix _ _ _ _ _ _ _ ix_tup (pv 1) pe_int (fun _ _=>rfl)
         case g9 =>
          refine' @L2.pe_op _ _ _ _ _ _ _ _ op_mulB ?gc ?gd
          case gc =>
           refine' @L2.pe_ix _ _ _ _ _ _ _ ix_tup (pv 1) pe_int (fun _ _=>rfl)
          case gd =>
           refine' @L2.pe_ix _ _ _ _ _ _ _ ix_tup (pv 0) pe_int (fun _ _=>rfl)
        case g7 =>
         refine' @L2.pa_cons _ _ _ _ _ ?ge pa_nil rfl
         case ge =>
          refine' @L2.pe_op _ _ _ _ _ _ _ _ op_mulB ?gf ?gg
          case gf =>
           refine' @L2.pe_ix _ _ _ _ _ _ _ ix_tup (pv 0) pe_int (fun _ _=>rfl)
          case gg =>
           refine' @L2.pe_ix _ _ _ _ _ _ _ ix_tup (pv 1) pe_int (fun _ _=>rfl)
   case read =>
    refine ⟨_,rfl,_,rfl,N,k,v,u,d1,d2,rfl,k1,k2,by omega,?_⟩
    by_cases hb:(isFr d1 && isFr d2)=true
    case neg =>
     rw [if_neg hb]
     rw [show gB d1 d2=false from Bool.eq_false_iff.mpr hb] at q; exact q
    rw [if_pos hb]
    obtain ⟨hb1,hb2⟩:=Bool.and_eq_true_iff.mp hb
    obtain ⟨p,x,rfl,h1,bx,_⟩:=fr_rat k1 hb1
    obtain ⟨r,y,rfl,h2,by',zy⟩:=fr_rat k2 hb2
    have hx:FM.B 1990 x:=bx.mono (by omega)
    have hy:FM.B 1990 y:=by'.mono (by omega)
    rw [show gB d1 d2=true from hb,if_pos rfl] at q
    exact ⟨_,rfl,p,_,0,_,rfl,rfl,SqT.of h1,rfl,_,rfl,r,_,1,_,rfl,rfl,SqT.of h2,rfl,_,_,rfl,rfl,mND hx hy,_,rfl,r,_,0,_,rfl,rfl,SqT.of h2,rfl,_,rfl,p,_,1,_,rfl,rfl,SqT.of h1,rfl,_,_,rfl,rfl,mND hy hx,_,_,rfl,rfl,_,rfl,p,_,1,_,rfl,rfl,SqT.of h1,rfl,_,rfl,r,_,1,_,rfl,rfl,SqT.of h2,rfl,_,_,rfl,rfl,mDD hx hy,_,_,rfl,FM.mul_ne,dd_lt hx hy,fun p' H' s' _=>q _ _ s'⟩
abbrev s_times:Stmt:=top 45
theorem ok_times (F:Fun K "times" "times" s_times f fd) {cl:Str→Addr} (Z:Ek K mg cl) (C_reduced:Cal P w K mg base "reduced" 3 ["top","bottom"] sp_reduced) (X_look_at_both:CalX P w K mg base "look_at_both" 5 ["one","other"] (sp_bothX (cl "NoFraction"))):FnOk P w K mg base (CX1 P w) 6 f fd ["one","other"] (sp_opX (cl "NoFraction") gB):=by
 have sc:FnScope ["one","other"] ["one","other"] (defScope s_times):=fsc (by decide +kernel)
 refine F.okX sc (fun vs H Q E h=>?_) (fun cdv A outer s H vs Q E hr h=>?_)
 · obtain ⟨N,k,v,u,d1,d2,rfl,_⟩:=h
   rfl
 · obtain ⟨N,k,v,u,d1,d2,rfl,k1,k2,hk,q⟩:=h
   have nd:=sc.nd
   have hu:=hu_of hr
   have hu1:=Nat.lt_of_succ_lt hu
   refine' ⟨_,?term,?read⟩
   case term =>
    refine' @L2.pss_cons _ _ _ _ _ ?g1 ?g2
    case g1 =>
     refine' @L2.ps_expr _ _ _ _ (pe_calX X_look_at_both xeOk1.passes hr (by decide) rfl (pa_cons (pv 0) (pa_cons (pv 1) pa_nil rfl) rfl)) (by rfl)
    case g2 =>
     refine' @L2.pss_one _ _ _ ?g3
     case g3 =>
      refine' @L2.ps_ret _ _ _ _ ?g4
      case g4 =>
       refine' @L2.pe_cal _ _ _ _ _ _ _ _ _ _ _ C_reduced hr (by decide) rfl ?g5 (by decide) (by rfl) (by rfl)
       case g5 =>
        refine' @L2.pa_cons _ _ _ _ _ ?g6 ?g7 rfl
        case g6 =>
         refine' @L2.pe_op _ _ _ _ _ _ _ _ op_mulB ?g8 ?g9
         case g8 =>
          refine' @L2.pe_ix _ _ _ _ _ _ _ ix_tup (pv 0) pe_int (fun _ _=>rfl)
         case g9 =>
          refine' @L2.pe_ix _ _ _ _ _ _ _ ix_tup (pv 1) pe_int (fun _ _=>rfl)
        case g7 =>
         refine' @L2.pa_cons _ _ _ _ _ ?ga pa_nil rfl
         case ga =>
          refine' @L2.pe_op _ _ _ _ _ _ _ _ op_mulB ?gb ?gc
          case gb =>
           refine' @L2.pe_ix _ _ _ _ _ _ _ ix_tup (pv 0) pe_int (fun _ _=>rfl)
          case gc =>
           refine' @L2.pe_ix _ _ _ _ _ _ _ ix_tup (pv 1) pe_int (fun _ _=>rfl)
   case read =>
    refine ⟨_,rfl,_,rfl,N,k,v,u,d1,d2,rfl,k1,k2,by omega,?_⟩
    by_cases hb:(isFr d1 && isFr d2)=true
    case neg =>
     rw [if_neg hb]
     rw [show gB d1 d2=false from Bool.eq_false_iff.mpr hb] at q; exact q
    rw [if_pos hb]
    obtain ⟨hb1,hb2⟩:=Bool.and_eq_true_iff.mp hb
    obtain ⟨p,x,rfl,h1,bx,_⟩:=fr_rat k1 hb1
    obtain ⟨r,y,rfl,h2,by',zy⟩:=fr_rat k2 hb2
    have hx:FM.B 1990 x:=bx.mono (by omega)
    have hy:FM.B 1990 y:=by'.mono (by omega)
    rw [show gB d1 d2=true from hb,if_pos rfl] at q
    exact ⟨_,rfl,p,_,0,_,rfl,rfl,SqT.of h1,rfl,_,rfl,r,_,0,_,rfl,rfl,SqT.of h2,rfl,_,_,rfl,rfl,mNN hx hy,_,rfl,p,_,1,_,rfl,rfl,SqT.of h1,rfl,_,rfl,r,_,1,_,rfl,rfl,SqT.of h2,rfl,_,_,rfl,rfl,mDD hx hy,_,_,rfl,FM.mul_ne,dd_lt hx hy,fun p' H' s' _=>q _ _ s'⟩
abbrev s_over:Stmt:=top 46
theorem ok_over (F:Fun K "over" "over" s_over f fd) {cl:Str→Addr} (Z:Ek K mg cl) (C_reduced:Cal P w K mg base "reduced" 3 ["top","bottom"] sp_reduced) (X_look_at_both:CalX P w K mg base "look_at_both" 5 ["one","other"] (sp_bothX (cl "NoFraction"))):FnOk P w K mg base (CX1 P w) 6 f fd ["one","other"] (sp_opX (cl "NoFraction") gO):=by
 have sc:FnScope ["one","other"] ["one","other"] (defScope s_over):=fsc (by decide +kernel)
 refine F.okX sc (fun vs H Q E h=>?_) (fun cdv A outer s H vs Q E hr h=>?_)
 · obtain ⟨N,k,v,u,d1,d2,rfl,_⟩:=h
   rfl
 · obtain ⟨N,k,v,u,d1,d2,rfl,k1,k2,hk,q⟩:=h
   have nd:=sc.nd
   have hu:=hu_of hr
   have hu1:=Nat.lt_of_succ_lt hu
   refine' ⟨_,?term,?read⟩
   case term =>
    refine' @L2.pss_cons _ _ _ _ _ ?g1 ?g2
    case g1 =>
     refine' @L2.ps_expr _ _ _ _ (pe_calX X_look_at_both xeOk1.passes hr (by decide) rfl (pa_cons (pv 0) (pa_cons (pv 1) pa_nil rfl) rfl)) (by rfl)
    case g2 =>
     refine' @L2.pss_cons _ _ _ _ _ ?g3 ?g4
     case g3 =>
      refine' @L2.ps_if _ _ _ _ _ _ _ _ ?g5 (pss_one (ps_raise xeOk1 rfl rfl Z.m_NoFraction Z.e_NoFraction)) pss_nil
      case g5 =>
       refine' @L2.pt_cmpR _ _ _ _ _ _ _ _ op_eq ?g6 pe_int (nomark _)
       case g6 =>
        refine' @L2.pe_ix _ _ _ _ _ _ _ ix_tup (pv 1) pe_int (fun _ _=>rfl)
     case g4 =>
      refine' @L2.pss_one _ _ _ ?g7
      case g7 =>
       refine' @L2.ps_ret _ _ _ _ ?g8
       case g8 =>
        refine' @L2.pe_cal _ _ _ _ _ _ _ _ _ _ _ C_reduced hr (by decide) rfl ?g9 (by decide) (by rfl) (by rfl)
        case g9 =>
         refine' @L2.pa_cons _ _ _ _ _ ?ga ?gb rfl
         case ga =>
          refine' @L2.pe_op _ _ _ _ _ _ _ _ op_mulB ?gc ?gd
          case gc =>
           refine' @L2.pe_ix _ _ _ _ _ _ _ ix_tup (pv 0) pe_int (fun _ _=>rfl)
          case gd =>
           refine' @L2.pe_ix _ _ _ _ _ _ _ ix_tup (pv 1) pe_int (fun _ _=>rfl)
         case gb =>
          refine' @L2.pa_cons _ _ _ _ _ ?ge pa_nil rfl
          case ge =>
           refine' @L2.pe_op _ _ _ _ _ _ _ _ op_mulB ?gf ?gg
           case gf =>
            refine' @L2.pe_ix _ _ _ _ _ _ _ ix_tup (pv 0) pe_int (fun _ _=>rfl)
           case gg =>
            refine' @L2.pe_ix _ _ _ _ _ _ _ ix_tup (pv 1) pe_int (fun _ _=>rfl)
   case read =>
    refine ⟨_,rfl,_,rfl,N,k,v,u,d1,d2,rfl,k1,k2,by omega,?_⟩
    by_cases hb:(isFr d1 && isFr d2)=true
    case neg =>
     rw [if_neg hb]
     rw [show gO d1 d2=false by (show (isFr d1 && isFr d2 && !isZ d2)=false; rw [Bool.eq_false_iff.mpr hb]; rfl)] at q; exact q
    rw [if_pos hb]
    obtain ⟨hb1,hb2⟩:=Bool.and_eq_true_iff.mp hb
    obtain ⟨p,x,rfl,h1,bx,_⟩:=fr_rat k1 hb1
    obtain ⟨r,y,rfl,h2,by',zy⟩:=fr_rat k2 hb2
    have hx:FM.B 1990 x:=bx.mono (by omega)
    have hy:FM.B 1990 y:=by'.mono (by omega)
    refine ⟨_,rfl,r,_,0,_,rfl,rfl,SqT.of h2,rfl,rfl,_,rfl,?_⟩
    by_cases hn:y.num=0
    · rw [show gO d1 d2=false by (show (isFr d1 && isFr d2 && !isZ d2)=false; rw [zy,decide_eq_true hn]; simp)] at q
      rw [show decide (V.int y.num=V.int 0)=true by exact decide_eq_true (by rw [hn])]
      exact iteT q
    rw [show gO d1 d2=true by (show (isFr d1 && isFr d2 && !isZ d2)=true; rw [hb,zy,decide_eq_false hn]; rfl),if_pos rfl] at q
    rw [show decide (V.int y.num=V.int 0)=false by exact decide_eq_false (fun z=>hn (V.int.inj z))]
    refine iteF ?_
    exact ⟨_,rfl,p,_,0,_,rfl,rfl,SqT.of h1,rfl,_,rfl,r,_,1,_,rfl,rfl,SqT.of h2,rfl,_,_,rfl,rfl,mND hx hy,_,rfl,p,_,1,_,rfl,rfl,SqT.of h1,rfl,_,rfl,r,_,0,_,rfl,rfl,SqT.of h2,rfl,_,_,rfl,rfl,mDN hx hy,_,_,rfl,Int.mul_ne_zero (FM.den_ne x) hn,dn_lt hx hy,fun p' H' s' _=>q _ _ s'⟩
abbrev s_less:Stmt:=top 47
theorem ok_less (F:Fun K "less" "less" s_less f fd) {cl:Str→Addr} (Z:Ek K mg cl) (X_look_at_both:CalX P w K mg base "look_at_both" 5 ["one","other"] (sp_bothX (cl "NoFraction"))):FnOk P w K mg base (CX1 P w) 6 f fd ["one","other"] (sp_opX (cl "NoFraction") gB):=by
 have sc:FnScope ["one","other"] ["one","other"] (defScope s_less):=fsc (by decide +kernel)
 refine F.okX sc (fun vs H Q E h=>?_) (fun cdv A outer s H vs Q E hr h=>?_)
 · obtain ⟨N,k,v,u,d1,d2,rfl,_⟩:=h
   rfl
 · obtain ⟨N,k,v,u,d1,d2,rfl,k1,k2,hk,q⟩:=h
   have nd:=sc.nd
   have hu:=hu_of hr
   have hu1:=Nat.lt_of_succ_lt hu
   refine' ⟨_,?term,?read⟩
   case term =>
    refine' @L2.pss_cons _ _ _ _ _ ?g1 ?g2
    case g1 =>
     refine' @L2.ps_expr _ _ _ _ (pe_calX X_look_at_both xeOk1.passes hr (by decide) rfl (pa_cons (pv 0) (pa_cons (pv 1) pa_nil rfl) rfl)) (by rfl)
    case g2 =>
     refine' @L2.pss_one _ _ _ ?g3
     case g3 =>
      refine' @L2.ps_ret _ _ _ _ ?g4
      case g4 =>
       refine' @L2.pe_cmpR _ _ _ _ _ _ _ _ op_lt ?g5 ?g6 (nomark _)
       case g5 =>
        refine' @L2.pe_op _ _ _ _ _ _ _ _ op_mulB ?g7 ?g8
        case g7 =>
         refine' @L2.pe_ix _ _ _ _ _ _ _ ix_tup (pv 0) pe_int (fun _ _=>rfl)
        case g8 =>
         refine' @L2.pe_ix _ _ _ _ _ _ _ ix_tup (pv 1) pe_int (fun _ _=>rfl)
       case g6 =>
        refine' @L2.pe_op _ _ _ _ _ _ _ _ op_mulB ?g9 ?ga
        case g9 =>
         refine' @L2.pe_ix _ _ _ _ _ _ _ ix_tup (pv 1) pe_int (fun _ _=>rfl)
        case ga =>
         refine' @L2.pe_ix _ _ _ _ _ _ _ ix_tup (pv 0) pe_int (fun _ _=>rfl)
   case read =>
    refine ⟨_,rfl,_,rfl,N,k,v,u,d1,d2,rfl,k1,k2,by omega,?_⟩
    by_cases hb:(isFr d1 && isFr d2)=true
    case neg =>
     rw [if_neg hb]
     rw [show gB d1 d2=false from Bool.eq_false_iff.mpr hb] at q; exact q
    rw [if_pos hb]
    obtain ⟨hb1,hb2⟩:=Bool.and_eq_true_iff.mp hb
    obtain ⟨p,x,rfl,h1,bx,_⟩:=fr_rat k1 hb1
    obtain ⟨r,y,rfl,h2,by',zy⟩:=fr_rat k2 hb2
    have hx:FM.B 1990 x:=bx.mono (by omega)
    have hy:FM.B 1990 y:=by'.mono (by omega)
    rw [show gB d1 d2=true from hb,if_pos rfl] at q
    exact ⟨_,rfl,p,_,0,_,rfl,rfl,SqT.of h1,rfl,_,rfl,r,_,1,_,rfl,rfl,SqT.of h2,rfl,_,_,rfl,rfl,mND hx hy,_,rfl,r,_,0,_,rfl,rfl,SqT.of h2,rfl,_,rfl,p,_,1,_,rfl,rfl,SqT.of h1,rfl,_,_,rfl,rfl,mND hy hx,_,_,rfl,rfl,q _ _ (Same.refl H)⟩
abbrev s__law_cell_at:Stmt:=top 49
theorem ok__law_cell_at (F:Fun K "_law_cell_at" "_law_cell_at" s__law_cell_at f fd):FnOk P w K mg base CX0 1 f fd ["_law_script","_law_k"] (sp_cell K):=by
 have sc:FnScope ["_law_script","_law_k"] ["_law_script","_law_k"] (defScope s__law_cell_at):=fsc (by decide +kernel)
 refine F.ok sc (fun vs H Q E h=>?_) (fun cdv A outer s H vs Q E hr h=>?_)
 · obtain ⟨a,ns,k,rfl,_⟩:=h
   rfl
 · obtain ⟨a,ns,k,rfl,hS,q⟩:=h
   have nd:=sc.nd
   have hu:=hu_of hr
   have hu1:=Nat.lt_of_succ_lt hu
   refine' ⟨_,?term,?read⟩
   case term =>
    refine' @L2.pss_cons _ _ _ _ _ ?g1 (pss_one (ps_ret pe_int))
    case g1 =>
     refine' @L2.ps_if _ _ _ _ _ _ _ _ (pt_cmpR op_lt (pv 1) (pe_callB call_len_seq rfl T.b_len bb_len (pa_cons (pv 0) pa_nil rfl)) (nomark _)) ?g2 pss_nil
     case g2 =>
      refine' @L2.pss_one _ _ _ ?g3
      case g3 =>
       refine' @L2.ps_ret _ _ _ _ ?g4
       case g4 =>
        refine' @L2.pe_ix _ _ _ _ _ _ _ ix_list (pv 0) (pv 1) (fun _ _=>rfl)
   case read =>
    refine ⟨_,rfl,_,rfl,a,_,rfl,.inl hS,_,_,rfl,rfl,_,rfl,?_⟩
    refine ite2 (fun hlt=>?_) (fun _=>q 0)
    have hk:k < ns.length:=by
     have z:=of_decide_eq_true hlt
     rw [List.length_map] at z
     omega
    exact ⟨_,rfl,_,rfl,a,_,_,_,rfl,rfl,hS,atI_nat (by rw [List.getElem?_map,List.getElem?_eq_getElem hk]; rfl),q _⟩
abbrev s__law_state:Stmt:=top 50
theorem ok__law_state (F:Fun K "_law_state" "_law_state" s__law_state f fd) (C__law_cell_at:Cal P w K mg base "_law_cell_at" 1 ["_law_script","_law_k"] (sp_cell K)):FnOk P w K mg base CX0 2 f fd ["_law_script","_law_k"] (sp_state K):=by
 have sc:FnScope ["_law_script","_law_k","_law_cell"] ["_law_script","_law_k"] (defScope s__law_state):=fsc (by decide +kernel)
 refine F.ok sc (fun vs H Q E h=>?_) (fun cdv A outer s H vs Q E hr h=>?_)
 · obtain ⟨a,ns,k,rfl,_⟩:=h
   rfl
 · obtain ⟨a,ns,k,rfl,hS,q⟩:=h
   have nd:=sc.nd
   have hu:=hu_of hr
   have hu1:=Nat.lt_of_succ_lt hu
   refine' ⟨_,?term,?read⟩
   case term =>
    refine' @L2.pss_cons _ _ _ _ _ ?g1 ?g2
    case g1 =>
     refine' @L2.ps_set _ _ (2) _ _ _ _ nd rfl (Or.inl rfl) (pe_cal C__law_cell_at hr (by decide) rfl (pa_cons (pv 0) (pa_cons (pv 1) pa_nil rfl) rfl)) (by rfl) (by first | exact Or.inl rfl | exact Or.inr rfl | assumption)
    case g2 =>
     refine' @L2.pss_one _ _ _ ?g3
     case g3 =>
      refine' @L2.ps_ret _ _ _ _ ?g4
      case g4 =>
       refine' @L2.pe_lst _ _ _ _ (pa_cons (pe_callB (call_max2 rfl) rfl T.b_max bb_max (pa_cons pe_int (pa_cons (pe_op op_sub (pv 2) (pe_op op_pow pe_int pe_int)) pa_nil rfl) rfl)) (pa_cons (pe_op op_add (pe_op op_modN (pv 2) pe_int) pe_int) (pa_cons pe_int pa_nil rfl) rfl) rfl)
   case read =>
    refine ⟨_,rfl,_,rfl,a,ns,k,rfl,hS,fun c=>?_⟩
    refine ⟨_,rfl,_,_,rfl,rfl,⟨by decide,by decide,by decide⟩,_,_,rfl,rfl,_,_,rfl,?_⟩
    refine ⟨_,rfl,_,_,rfl,rfl,(by show (2147483629:Int)≠0; decide),_,_,rfl,rfl,(by show 3≤sizeLine; decide),fun p hp=>q p _ hp (Same.new hp) ⟨_,_,_,upd_same,?_,?_⟩⟩
    · have:=Int.fmod_nonneg_of_pos c (b:=2147483629) (by decide)
      omega
    · have:=Int.fmod_lt_of_pos c (b:=2147483629) (by decide)
      omega
abbrev s__law_choice:Stmt:=top 51
theorem ok__law_choice (F:Fun K "_law_choice" "_law_choice" s__law_choice f fd):FnOk P w K mg base CX0 1 f fd ["_law_state_here","_law_many"] sp_choice:=by
 have sc:FnScope ["_law_state_here","_law_many","_law_found","_law_mixed"] ["_law_state_here","_law_many"] (defScope s__law_choice):=fsc (by decide +kernel)
 refine F.ok sc (fun vs H Q E h=>?_) (fun cdv A outer s H vs Q E hr h=>?_)
 · obtain ⟨l,m,rfl,_⟩:=h
   rfl
 · obtain ⟨l,m,rfl,⟨s0,s1,s2,hl,h0,h1⟩,hm,hz,q⟩:=h
   have nd:=sc.nd
   have hu:=hu_of hr
   have hu1:=Nat.lt_of_succ_lt hu
   refine' ⟨_,?term,?read⟩
   case term =>
    refine' @L2.pss_cons _ _ _ _ _ ?g1 ?g2
    case g1 =>
     refine' @L2.ps_if _ _ _ _ _ _ _ _ ?g3 ?g4 pss_nil
     case g3 =>
      refine' @L2.pt_cmpR _ _ _ _ _ _ _ _ op_gt ?g5 pe_int (nomark _)
      case g5 =>
       refine' @L2.pe_ix _ _ _ _ _ _ _ ix_list (pv 0) pe_int (fun _ _=>rfl)
     case g4 =>
      refine' @L2.pss_cons _ _ _ _ _ ?g6 ?g7
      case g6 =>
       refine' @L2.ps_set _ _ (2) _ _ _ _ nd rfl (Or.inl rfl) ?g8 (by rfl) (by first | exact Or.inl rfl | exact Or.inr rfl | assumption)
       case g8 =>
        refine' @L2.pe_op _ _ _ _ _ _ _ _ op_modN ?g9 (pv 1)
        case g9 =>
         refine' @L2.pe_ix _ _ _ _ _ _ _ ix_list (pv 0) pe_int (fun _ _=>rfl)
      case g7 =>
       refine' @L2.pss_cons _ _ _ _ _ ?ga (pss_one (ps_ret (pv 2)))
       case ga =>
        refine' @L2.ps_asg _ _ _ _ _ _ ?gb ?gc (by rfl) (by rfl) (by rfl)
        case gb =>
         refine' @L2.pe_op _ _ _ _ _ _ _ _ op_fdivB ?gd (pv 1)
         case gd =>
          refine' @L2.pe_ix _ _ _ _ _ _ _ ix_list (pv 0) pe_int (fun _ _=>rfl)
        case gc =>
         refine' @L2.pg_sub _ _ _ _ _ _ _ (pv 0) pe_int set_list (by intro _ ; rfl)
    case g2 =>
     refine' @L2.pss_cons _ _ _ _ _ ?ge ?gf
     case ge =>
      refine' @L2.ps_asg _ _ _ _ _ _ ?gg ?gh (by rfl) (by rfl) (by rfl)
      case gg =>
       refine' @L2.pe_op _ _ _ _ _ _ _ _ op_add ?gi pe_int
       case gi =>
        refine' @L2.pe_ix _ _ _ _ _ _ _ ix_list (pv 0) pe_int (fun _ _=>rfl)
      case gh =>
       refine' @L2.pg_sub _ _ _ _ _ _ _ (pv 0) pe_int set_list (by intro _ ; rfl)
     case gf =>
      refine' @L2.pss_cons _ _ _ _ _ ?gj ?gk
      case gj =>
       refine' @L2.ps_asg _ _ _ _ _ _ ?gl ?gm (by rfl) (by rfl) (by rfl)
       case gl =>
        refine' @L2.pe_op _ _ _ _ _ _ _ _ op_modN ?gn pe_int
        case gn =>
         refine' @L2.pe_op _ _ _ _ _ _ _ _ op_add ?go ?gp
         case go =>
          refine' @L2.pe_op _ _ _ _ _ _ _ _ op_add ?gq pe_int
          case gq =>
           refine' @L2.pe_op _ _ _ _ _ _ _ _ op_mulB ?gr pe_int
           case gr =>
            refine' @L2.pe_ix _ _ _ _ _ _ _ ix_list (pv 0) pe_int (fun _ _=>rfl)
         case gp =>
          refine' @L2.pe_ix _ _ _ _ _ _ _ ix_list (pv 0) pe_int (fun _ _=>rfl)
       case gm =>
        refine' @L2.pg_sub _ _ _ _ _ _ _ (pv 0) pe_int set_list (by intro _ ; rfl)
      case gk =>
       refine' @L2.pss_cons _ _ _ _ _ ?gs ?gt
       case gs =>
        refine' @L2.ps_set _ _ (3) _ _ _ _ nd rfl (Or.inl rfl) ?gu (by rfl) (by first | exact Or.inl rfl | exact Or.inr rfl | assumption)
        case gu =>
         refine' @L2.pe_op _ _ _ _ _ _ _ _ op_modN ?gv pe_int
         case gv =>
          refine' @L2.pe_op _ _ _ _ _ _ _ _ op_add ?gw pe_int
          case gw =>
           refine' @L2.pe_op _ _ _ _ _ _ _ _ op_add ?gx ?gy
           case gx =>
            refine' @L2.pe_op _ _ _ _ _ _ _ _ op_mulB ?gz ?g10
            case gz =>
             refine' @L2.pe_ix _ _ _ _ _ _ _ ix_list (pv 0) pe_int (fun _ _=>rfl)
            case g10 =>
             refine' @L2.pe_ix _ _ _ _ _ _ _ ix_list (pv 0) pe_int (fun _ _=>rfl)
           case gy =>
            refine' @L2.pe_op _ _ _ _ _ _ _ _ op_mulB pe_int ?g11
            case g11 =>
             refine' @L2.pe_ix _ _ _ _ _ _ _ ix_list (pv 0) pe_int (fun _ _=>rfl)
       case gt =>
        refine' @L2.pss_cons _ _ _ _ _ ?g12 (pss_one (ps_ret (pe_op op_modN (pe_op op_fdivB (pv 3) pe_int) (pv 1))))
        case g12 =>
         refine' @L2.ps_set _ _ (3) _ _ _ _ nd rfl (Or.inl rfl) (pe_op op_modN (pe_op op_add (pe_op op_mulB (pv 3) (pv 3)) (pe_op op_mulB pe_int (pv 3))) pe_int) (by rfl) (by first | exact Or.inl rfl | exact Or.inr rfl | assumption)
   case read =>
    have hm0:m≠0:=by omega
    refine ⟨_,rfl,l,_,0,_,rfl,rfl,SqL.of hl,rfl,_,_,rfl,rfl,_,rfl,?_⟩
    refine ite2 (fun _=>?_) (fun _=>?_)
    · refine ⟨_,rfl,l,_,0,_,rfl,rfl,SqL.of hl,rfl,_,rfl,_,_,rfl,rfl,hm0,?_⟩
      refine ⟨_,rfl,l,_,0,_,rfl,rfl,SqL.of hl,rfl,_,rfl,_,_,rfl,rfl,⟨hm0,hz⟩,?_⟩
      refine ⟨_,rfl,l,_,0,0,rfl,rfl,hl,rfl,?_⟩
      exact ⟨_,rfl,q _ _ (Int.fmod_nonneg_of_pos _ hm) (Int.fmod_lt_of_pos _ hm) Keep.upd ⟨_,_,_,upd_same,h0,h1⟩⟩
    ·
     refine ⟨_,rfl,l,_,2,_,rfl,rfl,SqL.of hl,rfl,_,_,rfl,rfl,?_⟩
     refine ⟨_,rfl,l,_,2,2,rfl,rfl,hl,rfl,?_⟩
     refine ⟨_,rfl,l,_,1,_,rfl,rfl,SqL.of upd_same,rfl,_,_,rfl,rfl,mulS (by rw [p64]; omega) (by decide),_,_,rfl,rfl,?_⟩
     refine ⟨_,rfl,l,_,2,_,rfl,rfl,SqL.of upd_same,rfl,_,_,rfl,rfl,_,_,rfl,rfl,(by show (2147483647:Int)≠0; decide),?_⟩
     refine ⟨_,rfl,l,_,1,1,rfl,rfl,upd_same,rfl,?_⟩
     generalize hs:Int.fmod (s1 * 48271+29+(s2+1)) 2147483647=u
     have u0:0≤u:=by rw [← hs]; exact Int.fmod_nonneg_of_pos _ (by decide)
     have u1:u < 2147483647:=by rw [← hs]; exact Int.fmod_lt_of_pos _ (by decide)
     refine ⟨_,rfl,l,_,1,_,rfl,rfl,SqL.of upd_same,rfl,_,rfl,l,_,1,_,rfl,rfl,SqL.of upd_same,rfl,u,u,by rw [← hs],by rw [← hs],mulS (by rw [p64]; omega) (by rw [p64]; omega),?_⟩
     refine ⟨_,rfl,l,_,1,_,rfl,rfl,SqL.of upd_same,rfl,39373,u,rfl,by rw [← hs],mulS (by decide) (by rw [p64]; omega),_,_,rfl,rfl,_,_,rfl,rfl,_,_,rfl,rfl,(by show (2147483629:Int)≠0; decide),?_⟩
     generalize hv:Int.fmod (u * u+39373 * u+7) 2147483629=v
     have v0:0≤v:=by rw [← hv]; exact Int.fmod_nonneg_of_pos _ (by decide)
     have v1:v < 2147483629:=by rw [← hv]; exact Int.fmod_lt_of_pos _ (by decide)
     refine ⟨_,rfl,_,rfl,v,v,by rw [← hv],by rw [← hv],mulS (by rw [p64]; omega) (by rw [p64]; omega),_,rfl,50021,v,rfl,by rw [← hv],mulS (by decide) (by rw [p64]; omega),_,_,rfl,rfl,_,_,rfl,rfl,(by show (2147483587:Int)≠0; decide),?_⟩
     refine ⟨_,rfl,_,_,rfl,rfl,⟨by decide,lt8999 (by decide)⟩,_,rfl,_,_,rfl,rfl,hm0,?_⟩
     exact q _ _ (Int.fmod_nonneg_of_pos _ hm) (Int.fmod_lt_of_pos _ hm) (Keep.upd.trans Keep.upd) ⟨_,u,_,by rw [← hs]; exact upd_same,u0,by omega⟩
abbrev s__law_low:Stmt:=top 52
theorem ok__law_low (F:Fun K "_law_low" "_law_low" s__law_low f fd):FnOk P w K mg base CX0 1 f fd ["_law_top","_law_bottom"] sp_low:=by
 have sc:FnScope ["_law_top","_law_bottom","_law_one","_law_other"] ["_law_top","_law_bottom"] (defScope s__law_low):=fsc (by decide +kernel)
 refine F.ok sc (fun vs H Q E h=>?_) (fun cdv A outer s H vs Q E hr h=>?_)
 · obtain ⟨t,b,rfl,_⟩:=h
   rfl
 · obtain ⟨t,b,rfl,hb,hz,q⟩:=h
   have nd:=sc.nd
   have hu:=hu_of hr
   have hu1:=Nat.lt_of_succ_lt hu
   refine' ⟨_,?term,?read⟩
   case term =>
    refine' @L2.pss_cons _ _ _ _ _ ?g1 ?g2
    case g1 =>
     refine' @L2.ps_par _ _ (2) (3) _ _ _ _ _ _ _ _ _ _ _ rfl nd rfl rfl (by decide) rfl rfl (pa_cons (pe_callB call_abs rfl T.b_abs bb_abs (pa_cons (pv 0) pa_nil rfl)) (pa_cons (pe_callB call_abs rfl T.b_abs bb_abs (pa_cons (pv 1) pa_nil rfl)) pa_nil rfl) rfl) rfl (by rfl)
    case g2 =>
     refine' @L2.pss_cons _ _ _ _ _ ?g3 ?g4
     case g3 =>
      refine' @L2.ps_while _ _ _ _ _ _ PassesOwn.never (pt_cmpR op_gt (pv 3) pe_int (nomark _)) ?g5
      case g5 =>
       refine' @L2.pss_one _ _ _ ?g6
       case g6 =>
        refine' @L2.ps_par _ _ (2) (3) _ _ _ _ _ _ _ _ _ _ _ rfl nd rfl rfl (by decide) rfl rfl (pa_cons (pv 3) (pa_cons (pe_op op_modN (pv 2) (pv 3)) pa_nil rfl) rfl) rfl (by rfl)
     case g4 =>
      refine' @L2.pss_one _ _ _ ?g7
      case g7 =>
       refine' @L2.ps_ret _ _ _ _ ?g8
       case g8 =>
        refine' @L2.pe_tup _ _ _ _ _ ?g9
        case g9 =>
         refine' @L2.pa_cons _ _ _ _ _ ?ga (pa_cons (pe_op op_fdivB (pe_callB call_abs rfl T.b_abs bb_abs (pa_cons (pv 1) pa_nil rfl)) (pv 2)) pa_nil rfl) rfl
         case ga =>
          refine' @L2.pe_ifExp _ _ _ _ _ _ _ _ (pt_cmpR op_gt (pv 1) pe_int (nomark _)) (pe_op op_fdivB (pv 0) (pv 2)) (pe_op op_sub pe_int (pe_op op_fdivB (pv 0) (pv 2)))
   case read =>
    have hg:=FM.gcd_ne (t:=t) hb
    have hgz:(Int.gcd t b) < 2 ^ 8999:=Nat.lt_of_le_of_lt (Nat.gcd_le_right _ (Int.natAbs_pos.mpr hb)) (lt4000 hz)
    have ab:∀ x:Int,(if x < 0 then -x else x)=(x.natAbs:Int):=fun x=>by split <;> omega
    refine ⟨_,rfl,t,rfl,_,rfl,b,rfl,_,_,rfl,?_⟩
    refine while_by (fun σ H'=>∃ x y:Int,σ=[some (.int t),some (.int b),some (.int x),some (.int y)]∧H'=H∧0≤x∧0≤y∧Int.gcd x y=Int.gcd t b) (fun σ _=>match σ with | [_,_,_,some (.int y)]=>y.natAbs | _=>0)
     ⟨_,_,rfl,rfl,by rw [ab]; omega,by rw [ab]; omega,by rw [ab,ab]; simp [Int.gcd]⟩ ?_ ?_
    · rintro σ H' ⟨x,y,rfl,rfl,hx,hy,e⟩
      refine ⟨_,rfl,_,_,rfl,rfl,_,rfl,?_⟩
      refine ite2 (fun hlt=>?_) (fun hlt=>?_)
      · have hy':0 < y:=of_decide_eq_true hlt
        have hy0:y≠0:=by omega
        refine ⟨_,rfl,_,rfl,_,rfl,x,y,rfl,rfl,hy0,_,_,rfl,⟨y,x.fmod y,rfl,rfl,hy,Int.fmod_nonneg_of_pos _ hy',by rw [FM.gcd_fmod hy0]; exact e⟩,FM.fmod_abs_lt hy0⟩
      · have hy':¬ 0 < y:=fun z=>hlt (decide_eq_true z)
        have y0:y=0:=by omega
        subst y0
        have x0:x=(Int.gcd t b:Int):=by rw [← e,Int.gcd_zero_right]; omega
        subst x0
        refine ⟨_,rfl,_,_,rfl,rfl,_,rfl,?_⟩
        have fin:∀ n:Int,n=(if 0 < b then t.fdiv (Int.gcd t b:Int) else 0 - t.fdiv (Int.gcd t b:Int))→∀ p,H' p=none→Q (.ref p) (upd H' p (.tup [.int n,.int (Int.fdiv (if b < 0 then -b else b) (Int.gcd t b:Int))])):=by
         rintro n rfl p hp
         rw [ab,FM.low_num hb,FM.low_den hb]
         exact q p _ (Same.new hp) upd_same
        refine ite2 (fun hlt=>?_) (fun hlt=>?_)
        · have hb':0 < b:=of_decide_eq_true hlt
          refine ⟨_,rfl,_,rfl,_,_,rfl,rfl,⟨hg,hgz⟩,_,rfl,b,rfl,_,rfl,_,_,rfl,rfl,⟨hg,hgz⟩,by show 2≤sizeLine; decide,?_⟩
          exact fin _ (by rw [if_pos hb'])
        · have hb':¬ 0 < b:=fun z=>hlt (decide_eq_true z)
          refine ⟨_,rfl,_,rfl,_,_,rfl,rfl,⟨hg,hgz⟩,_,_,rfl,rfl,_,rfl,b,rfl,_,rfl,_,_,rfl,rfl,⟨hg,hgz⟩,by show 2≤sizeLine; decide,?_⟩
          exact fin _ (by rw [if_neg hb'])
    · rintro σ H' Q1 Q2 hq ⟨v,e,i,j,e1,e2,k,e3,q'⟩
      exact ⟨v,e,i,j,e1,e2,k,e3,hq _ _ q'⟩
abbrev s__law_fraction:Stmt:=top 53
theorem ok__law_fraction (F:Fun K "_law_fraction" "_law_fraction" s__law_fraction f fd) (C__law_choice:Cal P w K mg base "_law_choice" 1 ["_law_state_here","_law_many"] sp_choice) (C__law_low:Cal P w K mg base "_law_low" 1 ["_law_top","_law_bottom"] sp_low):FnOk P w K mg base CX0 2 f fd ["_law_state_here"] (sp_drawn 60):=by
 have sc:FnScope ["_law_state_here","_law_top","_law_way"] ["_law_state_here"] (defScope s__law_fraction):=fsc (by decide +kernel)
 refine F.ok sc (fun vs H Q E h=>?_) (fun cdv A outer s H vs Q E hr h=>?_)
 · obtain ⟨l,rfl,_⟩:=h
   rfl
 · obtain ⟨l,rfl,hl,q⟩:=h
   have nd:=sc.nd
   have hu:=hu_of hr
   have hu1:=Nat.lt_of_succ_lt hu
   refine' ⟨_,?term,?read⟩
   case term =>
    refine' @L2.pss_cons _ _ _ _ _ ?g1 ?g2
    case g1 =>
     refine' @L2.ps_set _ _ (1) _ _ _ _ nd rfl (Or.inl rfl) (pe_op op_sub (pe_cal C__law_choice hr (by decide) rfl (pa_cons (pv 0) (pa_cons pe_int pa_nil rfl) rfl)) pe_int) (by rfl) (by first | exact Or.inl rfl | exact Or.inr rfl | assumption)
    case g2 =>
     refine' @L2.pss_cons _ _ _ _ _ ?g3 ?g4
     case g3 =>
      refine' @L2.ps_set _ _ (2) _ _ _ _ nd rfl (Or.inl rfl) (pe_cal C__law_choice hr (by decide) rfl (pa_cons (pv 0) (pa_cons pe_int pa_nil rfl) rfl)) (by rfl) (by first | exact Or.inl rfl | exact Or.inr rfl | assumption)
     case g4 =>
      refine' @L2.pss_cons _ _ _ _ _ ?g5 ?g6
      case g5 =>
       refine' @L2.ps_if _ _ _ _ _ _ _ _ (pt_cmpR op_lt (pv 2) pe_int (nomark _)) ?g7 pss_nil
       case g7 =>
        refine' @L2.pss_one _ _ _ ?g8
        case g8 =>
         refine' @L2.ps_ret _ _ _ _ ?g9
         case g9 =>
          refine' @L2.pe_ix _ _ _ _ _ _ _ ix_list ?ga (pv 2) (fun _ _=>rfl)
          case ga =>
           refine' @L2.pe_lst _ _ _ _ (pa_cons (pe_tup (pa_cons pe_int (pa_cons pe_int pa_nil rfl) rfl)) (pa_cons (pe_tup (pa_cons pe_int (pa_cons pe_int pa_nil rfl) rfl)) (pa_cons (pe_tup (pa_cons (pv 1) (pa_cons pe_int pa_nil rfl) rfl)) pa_nil rfl) rfl) rfl)
      case g6 =>
       refine' @L2.pss_one _ _ _ ?gb
       case gb =>
        refine' @L2.ps_ret _ _ _ _ ?gc
        case gc =>
         refine' @L2.pe_cal _ _ _ _ _ _ _ _ _ _ _ C__law_low hr (by decide) rfl ?gd (by decide) (by rfl) (by rfl)
         case gd =>
          refine' @L2.pa_cons _ _ _ _ _ ?ge (pa_cons (pe_op op_add pe_int (pe_cal C__law_choice hr (by decide) rfl (pa_cons (pv 0) (pa_cons pe_int pa_nil rfl) rfl))) pa_nil rfl) rfl
          case ge =>
           refine' @L2.pe_op _ _ _ _ _ _ _ _ op_mulB (pv 1) ?gf
           case gf =>
            refine' @L2.pe_ix _ _ _ _ _ _ _ ix_list ?gg (pe_callTy call_int1 rfl T.b_int bb_int (pa_cons (pe_cmpR op_eq (pe_cal C__law_choice hr (by decide) rfl (pa_cons (pv 0) (pa_cons pe_int pa_nil rfl) rfl)) pe_int (nomark _)) pa_nil rfl)) (fun _ _=>rfl)
            case gg =>
             refine' @L2.pe_lst _ _ _ _ (pa_cons pe_int (pa_cons (pe_op op_add (pe_op op_pow pe_int pe_int) pe_int) pa_nil rfl) rfl)
   case read =>
    refine ⟨_,rfl,l,19,rfl,hl,by decide,lt8999 (by decide),fun r1 H1 a1 b1 k1 l1=>?_⟩
    refine ⟨_,_,rfl,rfl,?_⟩
    refine ⟨_,rfl,l,5,rfl,l1,by decide,lt8999 (by decide),fun r2 H2 a2 b2 k2 l2=>?_⟩
    refine ⟨_,rfl,_,_,rfl,rfl,_,rfl,?_⟩
    have k12:=k1.trans k2
    refine ite2 (fun hlt=>?_) (fun hlt=>?_)
    · have hlt':r2 < 3:=of_decide_eq_true hlt
      refine ⟨by show 2≤sizeLine; decide,?_⟩
      intro p3 n3
      generalize hH3:upd H2 p3 _=H3
      have S3:Same H2 H3:=by (rw [← hH3]; exact Same.new n3)
      have A3:=(congrFun hH3 p3).symm
      rw [upd_same] at A3
      refine ⟨by show 2≤sizeLine; decide,?_⟩
      intro p4 n4
      generalize hH4:upd H3 p4 _=H4
      have S4:Same H3 H4:=by (rw [← hH4]; exact Same.new n4)
      have A4:=(congrFun hH4 p4).symm
      rw [upd_same] at A4
      refine ⟨_,rfl,by show 2≤sizeLine; decide,?_⟩
      intro p5 n5
      generalize hH5:upd H4 p5 _=H5
      have S5:Same H4 H5:=by (rw [← hH5]; exact Same.new n5)
      have A5:=(congrFun hH5 p5).symm
      rw [upd_same] at A5
      refine ⟨by show 3≤sizeLine; decide,?_⟩
      intro p6 n6
      generalize hH6:upd H5 p6 _=H6
      have S6:Same H5 H6:=by (rw [← hH6]; exact Same.new n6)
      have A6:=(congrFun hH6 p6).symm
      rw [upd_same] at A6
      refine ⟨_,rfl,?_⟩
      have hk:Keep l H H6:=k12.trans (((S3.trans S4).trans (S5.trans S6)).keep)
      have l6:StAt H6 l:=l2.same ((S3.trans S4).trans (S5.trans S6))
      have B3:=S6 _ _ (S5 _ _ (S4 _ _ A3))
      have B4:=S6 _ _ (S5 _ _ A4)
      have B5:=S6 _ _ A5
      have hr2:r2=0∨r2=1∨r2=2:=by omega
      have w1:=FM.whole (r1 - 9)
      rcases hr2 with rfl | rfl | rfl
      · exact ⟨p6,_,0,_,rfl,rfl,SqL.of A6,rfl,q _ p3 0 hk l6 B3 ⟨by decide,by decide⟩⟩
      · exact ⟨p6,_,1,_,rfl,rfl,SqL.of A6,rfl,q _ p4 1 hk l6 B4 ⟨by decide,by decide⟩⟩
      · refine ⟨p6,_,2,_,rfl,rfl,SqL.of A6,rfl,q _ p5 (Rat.divInt (r1 - 9) 1) hk l6 (by rw [rt,w1.1,w1.2]; exact B5) ⟨?_,?_⟩⟩
        · rw [w1.1]; show _ < 1152921504606846976; omega
        · have:=w1.2; show _ < 1152921504606846976; omega
    · refine ⟨_,rfl,?_⟩
      refine ⟨_,_,rfl,rfl,⟨by decide,by decide,by decide⟩,_,_,rfl,rfl,by show 2≤sizeLine; decide,?_⟩
      intro p3 n3
      generalize hH3:upd H2 p3 _=H3
      have S3:Same H2 H3:=by (rw [← hH3]; exact Same.new n3)
      have A3:=(congrFun hH3 p3).symm
      rw [upd_same] at A3
      refine ⟨_,rfl,l,9,rfl,l2.same S3,by decide,lt8999 (by decide),fun r4 H4 a4 b4 k4 l4=>?_⟩
      refine ⟨rfl,.inr ⟨_,rfl,?_⟩⟩
      have B3:=k4 _ _ (fun z=>l2.ne n3 z.symm) A3
      have hk4:Keep l H H4:=k12.trans (S3.keep.trans k4)
      by_cases h0:V.int r4=V.int 0
      · rw [decide_eq_true h0]
        refine ⟨p3,_,_,_,rfl,rfl,SqL.of B3,rfl,?_⟩
        have hz:(10 ^ Int.toNat 12+7:Int).natAbs≤1000000000007:=by decide
        refine ⟨_,_,rfl,rfl,mulS (by rw [p64]; omega) (by decide),?_⟩
        refine ⟨_,rfl,l,6,rfl,l4,by decide,lt8999 (by decide),fun r5 H5 a5 b5 k5 l5=>⟨_,_,rfl,rfl,_,_,rfl,by omega,lt8999 (by rw [p64]; omega),fun p H6 s6 at6=>?_⟩⟩
        refine q _ p _ (hk4.trans (k5.trans s6.keep)) (l5.same s6) at6 (FM.B_divInt (by omega) ?_ ?_)
        · rw [Int.natAbs_mul]
          have h9:(r1 - 9).natAbs≤9:=by omega
          have:=Nat.mul_le_mul h9 hz
          show _ < 1152921504606846976
          omega
        · show _ < 1152921504606846976
          omega
      · rw [decide_eq_false h0]
        refine ⟨p3,_,_,_,rfl,rfl,SqL.of B3,rfl,?_⟩
        have hz:(1:Int).natAbs≤1000000000007:=by decide
        refine ⟨_,_,rfl,rfl,mulS (by rw [p64]; omega) (by decide),?_⟩
        refine ⟨_,rfl,l,6,rfl,l4,by decide,lt8999 (by decide),fun r5 H5 a5 b5 k5 l5=>⟨_,_,rfl,rfl,_,_,rfl,by omega,lt8999 (by rw [p64]; omega),fun p H6 s6 at6=>?_⟩⟩
        refine q _ p _ (hk4.trans (k5.trans s6.keep)) (l5.same s6) at6 (FM.B_divInt (by omega) ?_ ?_)
        · rw [Int.natAbs_mul]
          have h9:(r1 - 9).natAbs≤9:=by omega
          have:=Nat.mul_le_mul h9 hz
          show _ < 1152921504606846976
          omega
        · show _ < 1152921504606846976
          omega
abbrev s__law_whole:Stmt:=top 58
theorem ok__law_whole (F:Fun K "_law_whole" "_law_whole" s__law_whole f fd):FnOk P w K mg base CX0 1 f fd ["_law_thing"] sp_wholeD:=by
 have sc:FnScope ["_law_thing"] ["_law_thing"] (defScope s__law_whole):=fsc (by decide +kernel)
 refine F.ok sc (fun vs H Q E h=>?_) (fun cdv A outer s H vs Q E hr h=>?_)
 · obtain ⟨N,k,v,d,rfl,_⟩:=h
   rfl
 · obtain ⟨N,k,v,d,rfl,h,q⟩:=h
   have nd:=sc.nd
   have hu:=hu_of hr
   have hu1:=Nat.lt_of_succ_lt hu
   refine' ⟨_,?term,?read⟩
   case term =>
    refine' @L2.pss_one _ _ _ ?g1
    case g1 =>
     refine' @L2.ps_ret _ _ _ _ ?g2
     case g2 =>
      refine' @L2.pe_and _ _ _ _ _ _ _ (pe_callB call_isi rfl T.b_isinstance bb_isinstance (pa_cons (pv 0) (pa_cons (pe_bltn (v:=.ty "int") rfl T.b_int bb_int rfl) pa_nil rfl) rfl)) ?g3
      case g3 =>
       refine' @L2.pe_one _ _ _ _ _ ?g4
       case g4 =>
        refine' @L2.pe_not _ _ _ _ (pe_callB call_isi rfl T.b_isinstance bb_isinstance (pa_cons (pv 0) (pa_cons (pe_bltn (v:=.ty "bool") rfl T.b_bool bb_bool rfl) pa_nil rfl) rfl))
   case read =>
    cases h with
    | non=>exact ⟨_,rfl,_,_,_,_,rfl,TyOf.non,rfl,false,rfl,iteF q⟩
    | bl b=>exact ⟨_,rfl,_,_,_,_,rfl,TyOf.bl b,rfl,true,rfl,iteT ⟨_,rfl,_,_,_,_,rfl,TyOf.bl b,rfl,true,rfl,q⟩⟩
    | int hi=>exact ⟨_,rfl,_,_,_,_,rfl,TyOf.int _,rfl,true,rfl,iteT ⟨_,rfl,_,_,_,_,rfl,TyOf.int _,rfl,false,rfl,q⟩⟩
    | str x=>exact ⟨_,rfl,_,_,_,_,rfl,TyOf.str x,rfl,false,rfl,iteF q⟩
    | tup h r=>exact ⟨_,rfl,_,_,_,_,rfl,TyOf.tup h,rfl,false,rfl,iteF q⟩
    | lst h n m r=>exact ⟨_,rfl,_,_,_,_,rfl,TyOf.lst h,rfl,false,rfl,iteF q⟩
    | dic h=>exact ⟨_,rfl,_,_,_,_,rfl,TyOf.dK h,rfl,false,rfl,iteF q⟩
abbrev s__law_is_fraction:Stmt:=top 59
theorem ok__law_is_fraction (F:Fun K "_law_is_fraction" "_law_is_fraction" s__law_is_fraction f fd) (C__law_low:Cal P w K mg base "_law_low" 1 ["_law_top","_law_bottom"] sp_low) (C__law_whole:Cal P w K mg base "_law_whole" 1 ["_law_thing"] sp_wholeD):FnOk P w K mg base CX0 2 f fd ["_law_thing"] sp_lawfr:=by
 have sc:FnScope ["_law_thing"] ["_law_thing"] (defScope s__law_is_fraction):=fsc (by decide +kernel)
 refine F.ok sc (fun vs H Q E h=>?_) (fun cdv A outer s H vs Q E hr h=>?_)
 · obtain ⟨N,k,v,d,rfl,_⟩:=h
   rfl
 · obtain ⟨N,k,v,d,rfl,h,hk,q⟩:=h
   have nd:=sc.nd
   have hu:=hu_of hr
   have hu1:=Nat.lt_of_succ_lt hu
   refine' ⟨_,?term,?read⟩
   case term =>
    refine' @L2.pss_cons _ _ _ _ _ ?g1 ?g2
    case g1 =>
     refine' @L2.ps_if _ _ _ _ _ _ _ _ ?g3 (pss_one (ps_ret pe_bl)) pss_nil
     case g3 =>
      refine' @L2.PW.pt _ _ _ ?g4
      case g4 =>
       refine' @L2.pw_or _ _ _ _ _ _ _ ?g5 ?g6
       case g5 =>
        refine' @L2.pt_not _ _ _ _ ?g7
        case g7 =>
         refine' @L2.pt_truth _ _ _ (pe_callB call_isi rfl T.b_isinstance bb_isinstance (pa_cons (pv 0) (pa_cons (pe_bltn (v:=.ty "tuple") rfl T.b_tuple bb_tuple rfl) pa_nil rfl) rfl)) (fun _=>rfl)
       case g6 =>
        refine' @L2.pw_or _ _ _ _ _ _ _ (pt_cmpR op_ne (pe_callB call_len_seq rfl T.b_len bb_len (pa_cons (pv 0) pa_nil rfl)) pe_int (nomark _)) ?g8
        case g8 =>
         refine' @L2.pw_or1 _ _ _ _ ?g9
         case g9 =>
          refine' @L2.pt_not _ _ _ _ ?ga
          case ga =>
           refine' @L2.pt_truth _ _ _ ?gb (fun _=>rfl)
           case gb =>
            refine' @L2.pe_callB _ _ _ _ _ _ _ _ _ (call_allB rfl) rfl T.b_all bb_all ?gc (by decide) (by decide) (by rfl) (by rfl)
            case gc =>
             refine' @L2.pa_cons _ _ _ _ _ ?gd pa_nil rfl
             case gd =>
              refine' @L2.pe_lc _ _ _ _ _ _ _ (["_law_one"]) ([none]) _ _ _ _ _ rfl (lcs_plain (by decide) rfl (by decide) rfl rfl) (pi_tup (pv 0)) (fun _ _ _ _=>(pg_name (i:=0) (show List.Nodup (["_law_one"]:List Str) by decide) rfl (Or.inl rfl) (Or.inr rfl))) (fun _ _ _ _=>pifs_nil) (fun _ _ _ _=>(pe_cal C__law_whole hr (by decide) rfl (pa_cons (pv 0) pa_nil rfl))) (by intro _ ; rfl)
    case g2 =>
     refine' @L2.pss_one _ _ _ ?ge
     case ge =>
      refine' @L2.ps_ret _ _ _ _ ?gf
      case gf =>
       refine' @L2.pe_and _ _ _ _ _ _ _ ?gg ?gh
       case gg =>
        refine' @L2.pe_cmpR _ _ _ _ _ _ _ _ op_gt ?gi pe_int (nomark _)
        case gi =>
         refine' @L2.pe_ix _ _ _ _ _ _ _ ix_tup (pv 0) pe_int (fun _ _=>rfl)
       case gh =>
        refine' @L2.pe_one _ _ _ _ _ ?gj
        case gj =>
         refine' @L2.pe_cmpR _ _ _ _ _ _ _ _ (op_eqT (Nat.lt_of_succ_lt hu)) ?gk (pv 0) (nomark _)
         case gk =>
          refine' @L2.pe_cal _ _ _ _ _ _ _ _ _ _ _ C__law_low hr (by decide) rfl ?gl (by decide) (by rfl) (by rfl)
          case gl =>
           refine' @L2.pa_cons _ _ _ _ _ ?gm ?gn rfl
           case gm =>
            refine' @L2.pe_ix _ _ _ _ _ _ _ ix_tup (pv 0) pe_int (fun _ _=>rfl)
           case gn =>
            refine' @L2.pa_cons _ _ _ _ _ ?go pa_nil rfl
            case go =>
             refine' @L2.pe_ix _ _ _ _ _ _ _ ix_tup (pv 0) pe_int (fun _ _=>rfl)
   case read =>
    rcases h.isT with ⟨p,xs,ds,rfl,rfl,hp,hs⟩ | e
    case inr =>
     obtain ⟨t,ty,ki⟩:=h.ty (K:=K)
     refine ⟨_,rfl,_,_,t,_,rfl,ty,ki,_,rfl,?_⟩
     rw [e]
     have z:isFr d=false:=by cases d <;> first | rfl | (cases e)
     rw [z] at q
     exact iteT (iteT (q _ (Same.refl H)))
    refine ⟨_,rfl,_,_,_,_,rfl,TyOf.tup hp,rfl,true,rfl,iteF ?_⟩
    by_cases h2:xs.length=2
    case neg =>
     rw [hs.len0 h2] at q
     refine ⟨_,rfl,p,_,rfl,.inr (SqT.of hp),rfl,_,rfl,?_⟩
     rw [show decide (V.int (xs.length:Int)=V.int 2)=false from decide_eq_false (fun z=>h2 (by have:=V.int.inj z; omega))]
     exact iteT (iteT (q _ (Same.refl H)))
    obtain ⟨x,y,d1,d2,rfl,rfl,k1,k2⟩:∃ x y d1 d2,xs=[x,y]∧ds=[d1,d2]∧Dt N H k x d1∧Dt N H k y d2:=by
     match xs,ds,hs,h2 with
     | [x,y],[d1,d2],.cons a (.cons b .nil),_=>exact ⟨x,y,d1,d2,rfl,rfl,a,b⟩
    refine ⟨_,rfl,p,_,rfl,.inr (SqT.of hp),rfl,false,rfl,iteF ?_⟩
    refine ⟨_,rfl,p,rfl,⟨_,SqT.of hp⟩,fun D nD=>?_⟩
    refine lc_tup (xs:=[x,y]) (fun n σ2 H2=>Same H H2∧H2 D=some (.lst (([isI d1,isI d2].take n).map V.bl))∧σ2.length=1) ⟨Same.new nD,upd_same,rfl⟩ ?_ ?_ ?_
    · rintro n σ2 H2 _ ⟨s2,_,_⟩
      exact SqT.of (s2 _ _ hp)
    · rintro n z σ2 H2 hn ⟨s2,a2,l2⟩
      obtain ⟨u,rfl⟩:∃ u,σ2=[u]:=by
       match σ2,l2 with
       | [u],_=>exact ⟨u,rfl⟩
      refine gName_yes ?_
      match n,hn with
      | 0,hn =>
        cases (show x=z by simpa using hn)
        refine ⟨_,rfl,N,k,x,d1,rfl,k1.same s2,?_⟩
        refine lcN_push (by show 0 < 2; decide) a2 (by show 0 < sizeLine; decide) ⟨?_,?_,rfl⟩
        · exact fun b o e=>by rw [upd_ne (ne_of_none e nD)]; exact s2 b o e
        · rw [upd_same]; rfl
      | 1,hn =>
        cases (show y=z by simpa using hn)
        refine ⟨_,rfl,N,k,y,d2,rfl,k2.same s2,?_⟩
        refine lcN_push (by show 1 < 2; decide) a2 (by show 1 < sizeLine; decide) ⟨?_,?_,rfl⟩
        · exact fun b o e=>by rw [upd_ne (ne_of_none e nD)]; exact s2 b o e
        · rw [upd_same]; rfl
      | n+2,hn=>simp at hn
    · rintro σ2 H2 ⟨s2,a2,_⟩
      refine ⟨D,[isI d1,isI d2],rfl,SqL.of a2,_,rfl,?_⟩
      rcases k1.isI with ⟨i,rfl,rfl,hi⟩ | e1
      case inr =>
       rw [show List.all [isI d1,isI d2] id=false by simp [e1]]
       have q':=q H2 s2
       rw [fr_1 e1] at q'
       exact iteT q'
      rcases k2.isI with ⟨j,rfl,rfl,hj⟩ | e2
      case inr =>
       rw [show List.all [isI (.int i),isI d2] id=false by simp [e2]]
       have q':=q H2 s2
       rw [fr_2 e2] at q'
       exact iteT q'
      refine iteF ?_
      refine ⟨_,rfl,p,_,1,_,rfl,rfl,SqT.of (s2 _ _ hp),rfl,_,_,rfl,rfl,_,rfl,?_⟩
      refine ite2 (fun hlt=>?_) (fun hlt=>?_)
      · have z:0 < j:=of_decide_eq_true hlt
        refine ⟨_,rfl,p,_,0,_,rfl,rfl,SqT.of (s2 _ _ hp),rfl,_,rfl,p,_,1,_,rfl,rfl,SqT.of (s2 _ _ hp),rfl,i,j,rfl,by omega,lt_8000 hj hk,fun p3 H3 s3 a3=>?_⟩
        refine ⟨_,rfl,p3,p,[(Rat.divInt i j).num,((Rat.divInt i j).den:Int)],[i,j],rfl,rfl,SqT.of a3,SqT.of (s3 _ _ (s2 _ _ hp)),?_⟩
        rw [if_neg (by decide),fr_low z]
        exact q _ (s2.trans s3)
      · have z:¬ 0 < j:=fun z=>hlt (decide_eq_true z)
        have q':=q H2 s2
        have e:isFr (.tuple [.int i,.int j])=false:=by
         show (decide (1≤j) && decide (Int.gcd i j=1))=false
         rw [decide_eq_false (by omega)]; rfl
        rw [e] at q'
        exact q'
abbrev s__law_odd:Stmt:=top 54
theorem ok__law_odd (F:Fun K "_law_odd" "_law_odd" s__law_odd f fd) (C__law_choice:Cal P w K mg base "_law_choice" 1 ["_law_state_here","_law_many"] sp_choice):FnOk P w K mg base CX0 2 f fd ["_law_state_here"] sp_odd:=by
 have sc:FnScope ["_law_state_here","_law_some"] ["_law_state_here"] (defScope s__law_odd):=fsc (by decide +kernel)
 refine F.ok sc (fun vs H Q E h=>?_) (fun cdv A outer s H vs Q E hr h=>?_)
 · obtain ⟨l,N,rfl,_⟩:=h
   rfl
 · obtain ⟨l,N,rfl,hl,hN,hD,q⟩:=h
   have nd:=sc.nd
   have hu:=hu_of hr
   have hu1:=Nat.lt_of_succ_lt hu
   refine' ⟨_,?term,?read⟩
   case term =>
    refine' @L2.pss_cons _ _ _ _ _ ?g1 ?g2
    case g1 =>
     refine' @L2.ps_set _ _ (1) _ _ _ _ nd rfl (Or.inl rfl) ?g3 (by rfl) (by first | exact Or.inl rfl | exact Or.inr rfl | assumption)
     case g3 =>
      refine' @L2.pe_lstN _ _ _ _ ?g4
      case g4 =>
       refine' @L2.pa_cons _ _ _ _ _ pe_non ?g5 rfl
       case g5 =>
        refine' @L2.pa_cons _ _ _ _ _ pe_bl ?g6 rfl
        case g6 =>
         refine' @L2.pa_cons _ _ _ _ _ pe_bl ?g7 rfl
         case g7 =>
          refine' @L2.pa_cons _ _ _ _ _ pe_int ?g8 rfl
          case g8 =>
           refine' @L2.pa_cons _ _ _ _ _ pe_int ?g9 rfl
           case g9 =>
            refine' @L2.pa_cons _ _ _ _ _ (pe_un un_neg pe_int) ?ga rfl
            case ga =>
             refine' @L2.pa_cons _ _ _ _ _ (pe_op op_pow pe_int pe_int) ?gb rfl
             case gb =>
              refine' @L2.pa_cons _ _ _ _ _ pe_str ?gc rfl
              case gc =>
               refine' @L2.pa_cons _ _ _ _ _ pe_str ?gd rfl
               case gd =>
                refine' @L2.pa_cons _ _ _ _ _ (pe_tup pa_nil) ?ge rfl
                case ge =>
                 refine' @L2.pa_cons _ _ _ _ _ ?gf ?gg rfl
                 case gf =>
                  refine' @L2.pe_lstN _ _ _ _ pa_nil
                 case gg =>
                  refine' @L2.pa_cons _ _ _ _ _ pe_dic0 ?gh rfl
                  case gh =>
                   refine' @L2.pa_cons _ _ _ _ _ (pe_tup (pa_cons pe_int (pa_cons pe_int pa_nil rfl) rfl)) ?gi rfl
                   case gi =>
                    refine' @L2.pa_cons _ _ _ _ _ (pe_tup (pa_cons pe_int (pa_cons pe_int pa_nil rfl) rfl)) ?gj rfl
                    case gj =>
                     refine' @L2.pa_cons _ _ _ _ _ ?gk pa_nil rfl
                     case gk =>
                      refine' @L2.pe_lstN _ _ _ _ (pa_cons pe_int (pa_cons pe_int pa_nil rfl) rfl)
    case g2 =>
     refine' @L2.pss_one _ _ _ ?gl
     case gl =>
      refine' @L2.ps_ret _ _ _ _ ?gm
      case gm =>
       refine' @L2.pe_ix _ _ _ _ _ _ _ ix_list ?gn (pe_cal C__law_choice hr (by decide) rfl (pa_cons (pv 0) (pa_cons pe_int pa_nil rfl) rfl)) (fun _ _=>rfl)
       case gn =>
        refine' @L2.pe_op _ _ _ _ _ _ _ _ op_cat (pv 1) ?go
        case go =>
         refine' @L2.pe_lstN _ _ _ _ ?gp
         case gp =>
          refine' @L2.pa_cons _ _ _ _ _ (pe_tup (pa_cons (pe_tup (pa_cons pe_int (pa_cons pe_int pa_nil rfl) rfl)) pa_nil rfl)) (pa_cons (pe_tup (pa_cons pe_int (pa_cons pe_int pa_nil rfl) rfl)) (pa_cons (pe_tup (pa_cons pe_int (pa_cons pe_int pa_nil rfl) rfl)) (pa_cons (pe_tup (pa_cons pe_int (pa_cons pe_int pa_nil rfl) rfl)) (pa_cons (pe_tup (pa_cons pe_bl (pa_cons pe_int pa_nil rfl) rfl)) pa_nil rfl) rfl) rfl) rfl) rfl
   case read =>
    refine ⟨_,rfl,_,_,rfl,rfl,⟨by decide,by decide,by decide⟩,by show 0≤sizeLine; decide,?_⟩
    intro p1 n1
    generalize hH1:upd H p1 _=H1
    have S1:Same H H1:=by (rw [← hH1]; exact Same.new n1)
    have A1:=(congrFun hH1 p1).symm
    rw [upd_same] at A1
    clear hH1
    have st1:=(hl).same S1
    refine ⟨by show 0≤sizeLine; decide,?_⟩
    intro p2 n2 m2
    generalize hH2:upd H1 p2 _=H2
    have S2:Same H1 H2:=by (rw [← hH2]; exact Same.new n2)
    have A2:=(congrFun hH2 p2).symm
    rw [upd_same] at A2
    clear hH2
    have st2:=(st1).same S2
    intro p3 n3
    generalize hH3:upd H2 p3 _=H3
    have S3:Same H2 H3:=by (rw [← hH3]; exact Same.new n3)
    have A3:=(congrFun hH3 p3).symm
    rw [upd_same] at A3
    clear hH3
    have st3:=(st2).same S3
    refine ⟨by show 2≤sizeLine; decide,?_⟩
    intro p4 n4
    generalize hH4:upd H3 p4 _=H4
    have S4:Same H3 H4:=by (rw [← hH4]; exact Same.new n4)
    have A4:=(congrFun hH4 p4).symm
    rw [upd_same] at A4
    clear hH4
    have st4:=(st3).same S4
    refine ⟨by show 2≤sizeLine; decide,?_⟩
    intro p5 n5
    generalize hH5:upd H4 p5 _=H5
    have S5:Same H4 H5:=by (rw [← hH5]; exact Same.new n5)
    have A5:=(congrFun hH5 p5).symm
    rw [upd_same] at A5
    clear hH5
    have st5:=(st4).same S5
    refine ⟨by show 2≤sizeLine; decide,?_⟩
    intro p6 n6 m6
    generalize hH6:upd H5 p6 _=H6
    have S6:Same H5 H6:=by (rw [← hH6]; exact Same.new n6)
    have A6:=(congrFun hH6 p6).symm
    rw [upd_same] at A6
    clear hH6
    have st6:=(st5).same S6
    refine ⟨by show 15≤sizeLine; decide,?_⟩
    intro p7 n7 m7
    generalize hH7:upd H6 p7 _=H7
    have S7:Same H6 H7:=by (rw [← hH7]; exact Same.new n7)
    have A7:=(congrFun hH7 p7).symm
    rw [upd_same] at A7
    clear hH7
    have st7:=(st6).same S7
    refine ⟨_,rfl,by show 2≤sizeLine; decide,?_⟩
    intro p8 n8
    generalize hH8:upd H7 p8 _=H8
    have S8:Same H7 H8:=by (rw [← hH8]; exact Same.new n8)
    have A8:=(congrFun hH8 p8).symm
    rw [upd_same] at A8
    clear hH8
    have st8:=(st7).same S8
    refine ⟨by show 1≤sizeLine; decide,?_⟩
    intro p9 n9
    generalize hH9:upd H8 p9 _=H9
    have S9:Same H8 H9:=by (rw [← hH9]; exact Same.new n9)
    have A9:=(congrFun hH9 p9).symm
    rw [upd_same] at A9
    clear hH9
    have st9:=(st8).same S9
    refine ⟨by show 2≤sizeLine; decide,?_⟩
    intro p10 n10
    generalize hH10:upd H9 p10 _=H10
    have S10:Same H9 H10:=by (rw [← hH10]; exact Same.new n10)
    have A10:=(congrFun hH10 p10).symm
    rw [upd_same] at A10
    clear hH10
    have st10:=(st9).same S10
    refine ⟨by show 2≤sizeLine; decide,?_⟩
    intro p11 n11
    generalize hH11:upd H10 p11 _=H11
    have S11:Same H10 H11:=by (rw [← hH11]; exact Same.new n11)
    have A11:=(congrFun hH11 p11).symm
    rw [upd_same] at A11
    clear hH11
    have st11:=(st10).same S11
    refine ⟨by show 2≤sizeLine; decide,?_⟩
    intro p12 n12
    generalize hH12:upd H11 p12 _=H12
    have S12:Same H11 H12:=by (rw [← hH12]; exact Same.new n12)
    have A12:=(congrFun hH12 p12).symm
    rw [upd_same] at A12
    clear hH12
    have st12:=(st11).same S12
    refine ⟨by show 2≤sizeLine; decide,?_⟩
    intro p13 n13
    generalize hH13:upd H12 p13 _=H13
    have S13:Same H12 H13:=by (rw [← hH13]; exact Same.new n13)
    have A13:=(congrFun hH13 p13).symm
    rw [upd_same] at A13
    clear hH13
    have st13:=(st12).same S13
    refine ⟨by show 5≤sizeLine; decide,?_⟩
    intro p14 n14 m14
    generalize hH14:upd H13 p14 _=H14
    have S14:Same H13 H14:=by (rw [← hH14]; exact Same.new n14)
    have A14:=(congrFun hH14 p14).symm
    rw [upd_same] at A14
    clear hH14
    have st14:=(st13).same S14
    refine ⟨p7,p14,_,_,rfl,rfl,(S14 _ _ (S13 _ _ (S12 _ _ (S11 _ _ (S10 _ _ (S9 _ _ (S8 _ _ A7))))))),A14,by show 20≤sizeLine; decide,?_⟩
    intro p15 n15
    generalize hH15:upd H14 p15 _=H15
    have S15:Same H14 H15:=by (rw [← hH15]; exact Same.new n15)
    have A15:=(congrFun hH15 p15).symm
    rw [upd_same] at A15
    clear hH15
    have st15:=(st14).same S15
    have T1:Tgs N H15 100 2 20 [.non,.bl true,.bl false,.int 0,.int 1,.int (-1),.int (10 ^ Int.toNat 29),.str "",.str "a",.ref p1,.ref p2,.ref p3,.ref p4,.ref p5,.ref p6]:=(Tgs.cons (⟨_,.non,Nat.le_of_ble_eq_true rfl,by decide +kernel⟩) (Tgs.cons (⟨_,(.bl true),Nat.le_of_ble_eq_true rfl,by decide +kernel⟩) (Tgs.cons (⟨_,(.bl false),Nat.le_of_ble_eq_true rfl,by decide +kernel⟩) (Tgs.cons (⟨_,(dint 0 (by decide) (by decide)),Nat.le_of_ble_eq_true rfl,by decide +kernel⟩) (Tgs.cons (⟨_,(dint 1 (by decide) (by decide)),Nat.le_of_ble_eq_true rfl,by decide +kernel⟩) (Tgs.cons (⟨_,(dint (-1) (by decide) (by decide)),Nat.le_of_ble_eq_true rfl,by decide +kernel⟩) (Tgs.cons (⟨_,(dint (10 ^ Int.toNat 29) (by decide) (by decide)),Nat.le_of_ble_eq_true rfl,by decide +kernel⟩) (Tgs.cons (⟨_,(.str ""),Nat.le_of_ble_eq_true rfl,by decide +kernel⟩) (Tgs.cons (⟨_,(.str "a"),Nat.le_of_ble_eq_true rfl,by decide +kernel⟩) (Tgs.cons (⟨_,.tup (S15 _ _ (S14 _ _ (S13 _ _ (S12 _ _ (S11 _ _ (S10 _ _ (S9 _ _ (S8 _ _ (S7 _ _ (S6 _ _ (S5 _ _ (S4 _ _ (S3 _ _ (S2 _ _ A1)))))))))))))) .nil,Nat.le_of_ble_eq_true rfl,by decide +kernel⟩) (Tgs.cons (⟨_,.lst (S15 _ _ (S14 _ _ (S13 _ _ (S12 _ _ (S11 _ _ (S10 _ _ (S9 _ _ (S8 _ _ (S7 _ _ (S6 _ _ (S5 _ _ (S4 _ _ (S3 _ _ A2))))))))))))) ((hD.same S1).new n2) m2 .nil,Nat.le_of_ble_eq_true rfl,by decide +kernel⟩) (Tgs.cons (⟨_,.dic (S15 _ _ (S14 _ _ (S13 _ _ (S12 _ _ (S11 _ _ (S10 _ _ (S9 _ _ (S8 _ _ (S7 _ _ (S6 _ _ (S5 _ _ (S4 _ _ A3)))))))))))),Nat.le_of_ble_eq_true rfl,by decide +kernel⟩) (Tgs.cons (⟨_,.tup (S15 _ _ (S14 _ _ (S13 _ _ (S12 _ _ (S11 _ _ (S10 _ _ (S9 _ _ (S8 _ _ (S7 _ _ (S6 _ _ (S5 _ _ A4))))))))))) (.cons (dint 0 (by decide) (by decide)) (.cons (dint 1 (by decide) (by decide)) .nil)),Nat.le_of_ble_eq_true rfl,by decide +kernel⟩) (Tgs.cons (⟨_,.tup (S15 _ _ (S14 _ _ (S13 _ _ (S12 _ _ (S11 _ _ (S10 _ _ (S9 _ _ (S8 _ _ (S7 _ _ (S6 _ _ A5)))))))))) (.cons (dint 1 (by decide) (by decide)) (.cons (dint 1 (by decide) (by decide)) .nil)),Nat.le_of_ble_eq_true rfl,by decide +kernel⟩) (Tgs.cons (⟨_,.lst (S15 _ _ (S14 _ _ (S13 _ _ (S12 _ _ (S11 _ _ (S10 _ _ (S9 _ _ (S8 _ _ (S7 _ _ A6))))))))) ((hD.same (S1.trans (S2.trans (S3.trans (S4.trans S5))))).new n6) m6 (.cons (dint 0 (by decide) (by decide)) (.cons (dint 1 (by decide) (by decide)) .nil)),Nat.le_of_ble_eq_true rfl,by decide +kernel⟩) Tgs.nil)))))))))))))))
    have T2:Tgs N H15 100 2 20 [.ref p9,.ref p10,.ref p11,.ref p12,.ref p13]:=(Tgs.cons (⟨_,.tup (S15 _ _ (S14 _ _ (S13 _ _ (S12 _ _ (S11 _ _ (S10 _ _ A9)))))) (.cons (.tup (S15 _ _ (S14 _ _ (S13 _ _ (S12 _ _ (S11 _ _ (S10 _ _ (S9 _ _ A8))))))) (.cons (dint 0 (by decide) (by decide)) (.cons (dint 1 (by decide) (by decide)) .nil))) .nil),Nat.le_of_ble_eq_true rfl,by decide +kernel⟩) (Tgs.cons (⟨_,.tup (S15 _ _ (S14 _ _ (S13 _ _ (S12 _ _ (S11 _ _ A10))))) (.cons (dint 2 (by decide) (by decide)) (.cons (dint 4 (by decide) (by decide)) .nil)),Nat.le_of_ble_eq_true rfl,by decide +kernel⟩) (Tgs.cons (⟨_,.tup (S15 _ _ (S14 _ _ (S13 _ _ (S12 _ _ A11)))) (.cons (dint 1 (by decide) (by decide)) (.cons (dint 0 (by decide) (by decide)) .nil)),Nat.le_of_ble_eq_true rfl,by decide +kernel⟩) (Tgs.cons (⟨_,.tup (S15 _ _ (S14 _ _ (S13 _ _ A12))) (.cons (dint 0 (by decide) (by decide)) (.cons (dint 2 (by decide) (by decide)) .nil)),Nat.le_of_ble_eq_true rfl,by decide +kernel⟩) (Tgs.cons (⟨_,.tup (S15 _ _ (S14 _ _ A13)) (.cons (.bl true) (.cons (dint 1 (by decide) (by decide)) .nil)),Nat.le_of_ble_eq_true rfl,by decide +kernel⟩) Tgs.nil)))))
    refine ⟨_,rfl,l,20,rfl,st15,by decide,lt8999 (by decide),fun r Hz r0 r1 kz lz=>?_⟩
    have TT:=T1.app T2
    obtain ⟨v,hv,mv⟩:=atI_mem (xs:=[.non,.bl true,.bl false,.int 0,.int 1,.int (-1),.int (10 ^ Int.toNat 29),.str "",.str "a",.ref p1,.ref p2,.ref p3,.ref p4,.ref p5,.ref p6]++[.ref p9,.ref p10,.ref p11,.ref p12,.ref p13]) r0 (by exact r1)
    exact ⟨p15,_,r,v,rfl,rfl,SqL.of (kz _ _ (fun z=>st14.ne n15 z.symm) A15),hv,q _ _ (((S1.trans (S2.trans (S3.trans (S4.trans (S5.trans (S6.trans (S7.trans (S8.trans (S9.trans (S10.trans (S11.trans (S12.trans (S13.trans (S14.trans S15))))))))))))))).keep.trans kz) lz (Tg.keepS hN st15 (TT v mv) kz)⟩
abbrev s__law_bent0:Stmt:=top 60
theorem ok__law_bent0 (F:Fun K "_law_bent" "_law_bent" s__law_bent0 f fd) (C__law_choice:Cal P w K mg base "_law_choice" 1 ["_law_state_here","_law_many"] sp_choice) (C__law_odd:Cal P w K mg base "_law_odd" 2 ["_law_state_here"] sp_odd) (C__law_whole:Cal P w K mg base "_law_whole" 1 ["_law_thing"] sp_wholeD):FnOk P w K mg base CX0 3 f fd ["_law_state_here","_law_thing"] (sp_bent 0):=by
 have sc:FnScope ["_law_state_here","_law_thing","_law_at","_law_way","_law_more"] ["_law_state_here","_law_thing"] (defScope s__law_bent0):=fsc (by decide +kernel)
 refine F.ok sc (fun vs H Q E h=>?_) (fun cdv A outer s H vs Q E hr h=>?_)
 · obtain ⟨l,N,k,v,d,rfl,_⟩:=h
   rfl
 · obtain ⟨l,N,k,v,d,rfl,hl,hN,hD,hd,hk,hn,hm,q⟩:=h
   have nd:=sc.nd
   have hu:=hu_of hr
   have hu1:=Nat.lt_of_succ_lt hu
   refine' ⟨_,?term,?read⟩
   case term =>
    refine' @L2.pss_cons _ _ _ _ _ ?g1 ?g2
    case g1 =>
     refine' @L2.ps_if _ _ _ _ _ _ _ _ ?g3 ?g4 pss_nil
     case g3 =>
      refine' @L2.PW.pt _ _ _ ?g5
      case g5 =>
       refine' @L2.pw_and _ _ _ _ _ _ _ ?g6 ?g7
       case g6 =>
        refine' @L2.pt_truth _ _ _ (pe_callB call_isi rfl T.b_isinstance bb_isinstance (pa_cons (pv 1) (pa_cons (pe_bltn (v:=.ty "tuple") rfl T.b_tuple bb_tuple rfl) pa_nil rfl) rfl)) (fun _=>rfl)
       case g7 =>
        refine' @L2.pw_and _ _ _ _ _ _ _ (pt_cmpR (op_ne0 (Nat.lt_of_succ_lt hu)) (pv 1) (pe_tup pa_nil) (nomark _)) ?g8
        case g8 =>
         refine' @L2.pw_and1 _ _ _ _ (pt_cmpR op_gt (pe_cal C__law_choice hr (by decide) rfl (pa_cons (pv 0) (pa_cons pe_int pa_nil rfl) rfl)) pe_int (nomark _))
     case g4 =>
      refine' @L2.pss_cons _ _ _ _ _ ?g9 (pss_one (ps_ret pe_never))
      case g9 =>
       refine' @L2.ps_set _ _ (2) _ _ _ _ nd rfl (Or.inl rfl) (pe_cal C__law_choice hr (by decide) rfl (pa_cons (pv 0) (pa_cons (pe_callB call_len_seq rfl T.b_len bb_len (pa_cons (pv 1) pa_nil rfl)) pa_nil rfl) rfl)) (by rfl) (by first | exact Or.inl rfl | exact Or.inr rfl | assumption)
    case g2 =>
     refine' @L2.pss_cons _ _ _ _ _ ?ga ?gb
     case ga =>
      refine' @L2.ps_set _ _ (3) _ _ _ _ nd rfl (Or.inl rfl) (pe_cal C__law_choice hr (by decide) rfl (pa_cons (pv 0) (pa_cons pe_int pa_nil rfl) rfl)) (by rfl) (by first | exact Or.inl rfl | exact Or.inr rfl | assumption)
     case gb =>
      refine' @L2.pss_cons _ _ _ _ _ ?gc ?gd
      case gc =>
       refine' @L2.ps_if _ _ _ _ _ _ _ _ ?ge ?gf pss_nil
       case ge =>
        refine' @L2.PW.pt _ _ _ ?gg
        case gg =>
         refine' @L2.pw_and _ _ _ _ _ _ _ ?gh ?gi
         case gh =>
          refine' @L2.pt_truth _ _ _ (pe_callB call_isi rfl T.b_isinstance bb_isinstance (pa_cons (pv 1) (pa_cons (pe_bltn (v:=.ty "tuple") rfl T.b_tuple bb_tuple rfl) pa_nil rfl) rfl)) (fun _=>rfl)
         case gi =>
          refine' @L2.pw_and1 _ _ _ _ (pt_cmpR op_lt (pv 3) pe_int (nomark _))
       case gf =>
        refine' @L2.pss_cons _ _ _ _ _ ?gj ?gk
        case gj =>
         refine' @L2.ps_set _ _ (4) _ _ _ _ nd rfl (Or.inl rfl) ?gl (by rfl) (by first | exact Or.inl rfl | exact Or.inr rfl | assumption)
         case gl =>
          refine' @L2.pe_lst _ _ _ _ ?gm
          case gm =>
           refine' @L2.pa_cons _ _ _ _ _ ?gn ?go rfl
           case gn =>
            refine' @L2.pe_op _ _ _ _ _ _ _ _ op_catU (pv 1) ?gp
            case gp =>
             refine' @L2.pe_slice _ _ _ _ _ _ _ _ _ _ sl_tupU (pv 1) (po_some (pe_un un_neg pe_int)) po_none
           case go =>
            refine' @L2.pa_cons _ _ _ _ _ ?gq ?gr rfl
            case gq =>
             refine' @L2.pe_slice _ _ _ _ _ _ _ _ _ _ sl_tupU (pv 1) po_none (po_some (pe_un un_neg pe_int))
            case gr =>
             refine' @L2.pa_cons _ _ _ _ _ ?gs ?gt rfl
             case gs =>
              refine' @L2.pe_slice _ _ _ _ _ _ _ _ _ _ sl_tupU (pv 1) (po_some pe_int) po_none
             case gt =>
              refine' @L2.pa_cons _ _ _ _ _ ?gu (pa_cons (pe_callTy call_listN rfl T.b_list bb_list (pa_cons (pv 1) pa_nil rfl)) (pa_cons (pe_op op_catU (pv 1) (pe_tup (pa_cons pe_int pa_nil rfl))) pa_nil rfl) rfl) rfl
              case gu =>
               refine' @L2.pe_slback _ _ _ _ _ _ pe_m1 (pv 1)
        case gk =>
         refine' @L2.pss_cons _ _ _ _ _ ?gv ?gw
         case gv =>
          refine' @L2.ps_expr _ _ _ _ ?gx (by rfl)
          case gx =>
           refine' @L2.pe_bm _ _ _ _ _ _ _ _ _ _ _ _ PySem.F.plainAttrs_list PySem.F.slot_list_append PySem.F.type_list_append mt_append (pv 4) (pa_cons (pe_op op_catU (pv 1) (pe_tup (pa_cons (pv 1) pa_nil rfl))) pa_nil rfl) (by rfl) (by rfl) (by rfl) (by rfl) (by rfl)
         case gw =>
          refine' @L2.pss_one _ _ _ ?gy
          case gy =>
           refine' @L2.ps_ret _ _ _ _ ?gz
           case gz =>
            refine' @L2.pe_ix _ _ _ _ _ _ _ ix_list (pv 4) (pv 3) (fun _ _=>rfl)
      case gd =>
       refine' @L2.pss_cons _ _ _ _ _ ?g10 (pss_one (ps_ret (pe_cal C__law_odd hr (by decide) rfl (pa_cons (pv 0) pa_nil rfl))))
       case g10 =>
        refine' @L2.ps_if _ _ _ _ _ _ _ _ ?g11 ?g12 pss_nil
        case g11 =>
         refine' @L2.PW.pt _ _ _ ?g13
         case g13 =>
          refine' @L2.pw_and _ _ _ _ _ _ _ ?g14 ?g15
          case g14 =>
           refine' @L2.pt_truth _ _ _ (pe_cal C__law_whole hr (by decide) rfl (pa_cons (pv 1) pa_nil rfl)) (fun _=>rfl)
          case g15 =>
           refine' @L2.pw_and1 _ _ _ _ (pt_cmpR op_lt (pv 3) pe_int (nomark _))
        case g12 =>
         refine' @L2.pss_one _ _ _ ?g16
         case g16 =>
          refine' @L2.ps_ret _ _ _ _ ?g17
          case g17 =>
           refine' @L2.pe_op _ _ _ _ _ _ _ _ op_add (pv 1) ?g18
           case g18 =>
            refine' @L2.pe_ix _ _ _ _ _ _ _ ix_list ?g19 (pv 3) (fun _ _=>rfl)
            case g19 =>
             refine' @L2.pe_lst _ _ _ _ (pa_cons pe_int (pa_cons (pe_un un_neg pe_int) (pa_cons pe_int (pa_cons pe_int (pa_cons (pe_un un_neg pe_int) (pa_cons pe_int pa_nil rfl) rfl) rfl) rfl) rfl) rfl)
   case read =>
    rcases hd.isT with ⟨a,xs,ds,rfl,rfl,ha,hs⟩ | e
    case inr =>
     obtain ⟨t,ty,ki⟩:=hd.ty (K:=K)
     rw [e] at ki
     refine ⟨_,rfl,_,_,t,_,rfl,ty,ki,_,rfl,iteF (iteF ?_)⟩
     refine ⟨_,rfl,l,9,rfl,hl,by decide,lt8999 (by decide),fun r H1 r0 r1 k1 l1=>?_⟩
     have hd1:=Dt.keepS hN hl hd k1
     obtain ⟨t',ty',ki'⟩:=hd1.ty (K:=K)
     rw [e] at ki'
     refine ⟨_,rfl,_,_,t',_,rfl,ty',ki',_,rfl,iteF (iteF ?_)⟩
     refine ⟨_,rfl,N,k,v,d,rfl,hd1,_,rfl,?_⟩
     rcases hd1.isI with ⟨i,rfl,rfl,hi⟩ | e2
     · refine iteT ?_
       refine ⟨_,rfl,_,_,rfl,rfl,_,rfl,?_⟩
       refine ite2 (fun hlt=>?_) (fun _=>?_)
       · refine ⟨_,rfl,_,rfl,_,rfl,by show 6≤sizeLine; decide,fun p2 n2=>?_⟩
         obtain ⟨w,hw,hm⟩:=atI_mem (xs:=[V.int 1,V.int (-1),V.int 2,V.int 30,V.int (-101),V.int 5]) r0 (of_decide_eq_true hlt)
         obtain ⟨c,ec,hc⟩:∃ c,w=.int c∧c.natAbs≤101:=by
          simp only [List.mem_cons,List.not_mem_nil,or_false] at hm
          rcases hm with rfl | rfl | rfl | rfl | rfl | rfl <;> exact ⟨_,rfl,by decide⟩
         refine ⟨_,rfl,p2,_,r,w,rfl,rfl,SqL.of upd_same,hw,i,c,rfl,ec,?_⟩
         refine q _ _ (k1.trans (Keep.new n2)) (l1.new n2) ⟨.int (i+c),.int ?_,Nat.zero_le _,by show 1≤_; omega⟩
         have h1:2 ^ (k+1)=2 * 2 ^ k:=Nat.pow_succ'
         have h2:2 ^ 7≤2 ^ k:=Nat.pow_le_pow_right (by decide) (by omega)
         have h3:=Int.natAbs_add_le i c
         rw [h1]
         have h5:(2:Nat) ^ 7=128:=by decide
         omega
       · exact ⟨_,rfl,l,N,rfl,l1,hN,Dom.keepS hD k1 l1,fun Hy vy ky ly ty=>q _ _ (k1.trans ky) ly (ty.up (by omega) (by omega) (by omega))⟩
     · rw [e2]
       exact iteF (iteF ⟨_,rfl,l,N,rfl,l1,hN,Dom.keepS hD k1 l1,fun Hy vy ky ly ty=>q _ _ (k1.trans ky) ly (ty.up (by omega) (by omega) (by omega))⟩)
    exact absurd hn (by show ¬ (PyData.depthAll ds+1≤0); omega)
abbrev s__law_bent1:Stmt:=top 60
theorem ok__law_bent1 (F:Fun K "_law_bent" "_law_bent" s__law_bent1 f fd) (C__law_bent0:Cal P w K mg base "_law_bent" 3 ["_law_state_here","_law_thing"] (sp_bent 0)) (C__law_choice:Cal P w K mg base "_law_choice" 1 ["_law_state_here","_law_many"] sp_choice) (C__law_odd:Cal P w K mg base "_law_odd" 2 ["_law_state_here"] sp_odd) (C__law_whole:Cal P w K mg base "_law_whole" 1 ["_law_thing"] sp_wholeD):FnOk P w K mg base CX0 4 f fd ["_law_state_here","_law_thing"] (sp_bent 1):=by
 have sc:FnScope ["_law_state_here","_law_thing","_law_at","_law_way","_law_more"] ["_law_state_here","_law_thing"] (defScope s__law_bent1):=fsc (by decide +kernel)
 refine F.ok sc (fun vs H Q E h=>?_) (fun cdv A outer s H vs Q E hr h=>?_)
 · obtain ⟨l,N,k,v,d,rfl,_⟩:=h
   rfl
 · obtain ⟨l,N,k,v,d,rfl,hl,hN,hD,hd,hk,hn,hm,q⟩:=h
   have nd:=sc.nd
   have hu:=hu_of hr
   have hu1:=Nat.lt_of_succ_lt hu
   refine' ⟨_,?term,?read⟩
   case term =>
    refine' @L2.pss_cons _ _ _ _ _ ?g1 ?g2
    case g1 =>
     refine' @L2.ps_if _ _ _ _ _ _ _ _ ?g3 ?g4 pss_nil
     case g3 =>
      refine' @L2.PW.pt _ _ _ ?g5
      case g5 =>
       refine' @L2.pw_and _ _ _ _ _ _ _ ?g6 ?g7
       case g6 =>
        refine' @L2.pt_truth _ _ _ (pe_callB call_isi rfl T.b_isinstance bb_isinstance (pa_cons (pv 1) (pa_cons (pe_bltn (v:=.ty "tuple") rfl T.b_tuple bb_tuple rfl) pa_nil rfl) rfl)) (fun _=>rfl)
       case g7 =>
        refine' @L2.pw_and _ _ _ _ _ _ _ (pt_cmpR (op_ne0 (Nat.lt_of_succ_lt hu)) (pv 1) (pe_tup pa_nil) (nomark _)) ?g8
        case g8 =>
         refine' @L2.pw_and1 _ _ _ _ (pt_cmpR op_gt (pe_cal C__law_choice hr (by decide) rfl (pa_cons (pv 0) (pa_cons pe_int pa_nil rfl) rfl)) pe_int (nomark _))
     case g4 =>
      refine' @L2.pss_cons _ _ _ _ _ ?g9 ?ga
      case g9 =>
       refine' @L2.ps_set _ _ (2) _ _ _ _ nd rfl (Or.inl rfl) (pe_cal C__law_choice hr (by decide) rfl (pa_cons (pv 0) (pa_cons (pe_callB call_len_seq rfl T.b_len bb_len (pa_cons (pv 1) pa_nil rfl)) pa_nil rfl) rfl)) (by rfl) (by first | exact Or.inl rfl | exact Or.inr rfl | assumption)
      case ga =>
       refine' @L2.pss_one _ _ _ ?gb
       case gb =>
        refine' @L2.ps_ret _ _ _ _ ?gc
        case gc =>
         refine' @L2.pe_op _ _ _ _ _ _ _ _ op_catU ?gd ?ge
         case gd =>
          refine' @L2.pe_op _ _ _ _ _ _ _ _ op_catU ?gf ?gg
          case gf =>
           refine' @L2.pe_slice _ _ _ _ _ _ _ _ _ _ sl_tupU (pv 1) po_none (po_some (pv 2))
          case gg =>
           refine' @L2.pe_tup _ _ _ _ _ ?gh
           case gh =>
            refine' @L2.pa_cons _ _ _ _ _ ?gi pa_nil rfl
            case gi =>
             refine' @L2.pe_cal _ _ _ _ _ _ _ _ _ _ _ C__law_bent0 hr (by decide) rfl ?gj (by decide) (by rfl) (by rfl)
             case gj =>
              refine' @L2.pa_cons _ _ _ _ _ (pv 0) ?gk rfl
              case gk =>
               refine' @L2.pa_cons _ _ _ _ _ ?gl pa_nil rfl
               case gl =>
                refine' @L2.pe_ix _ _ _ _ _ _ _ ix_tup (pv 1) (pv 2) (fun _ _=>rfl)
         case ge =>
          refine' @L2.pe_slice _ _ _ _ _ _ _ _ _ _ sl_tupU (pv 1) (po_some (pe_op op_add (pv 2) pe_int)) po_none
    case g2 =>
     refine' @L2.pss_cons _ _ _ _ _ ?gm ?gn
     case gm =>
      refine' @L2.ps_set _ _ (3) _ _ _ _ nd rfl (Or.inl rfl) (pe_cal C__law_choice hr (by decide) rfl (pa_cons (pv 0) (pa_cons pe_int pa_nil rfl) rfl)) (by rfl) (by first | exact Or.inl rfl | exact Or.inr rfl | assumption)
     case gn =>
      refine' @L2.pss_cons _ _ _ _ _ ?go ?gp
      case go =>
       refine' @L2.ps_if _ _ _ _ _ _ _ _ ?gq ?gr pss_nil
       case gq =>
        refine' @L2.PW.pt _ _ _ ?gs
        case gs =>
         refine' @L2.pw_and _ _ _ _ _ _ _ ?gt ?gu
         case gt =>
          refine' @L2.pt_truth _ _ _ (pe_callB call_isi rfl T.b_isinstance bb_isinstance (pa_cons (pv 1) (pa_cons (pe_bltn (v:=.ty "tuple") rfl T.b_tuple bb_tuple rfl) pa_nil rfl) rfl)) (fun _=>rfl)
         case gu =>
          refine' @L2.pw_and1 _ _ _ _ (pt_cmpR op_lt (pv 3) pe_int (nomark _))
       case gr =>
        refine' @L2.pss_cons _ _ _ _ _ ?gv ?gw
        case gv =>
         refine' @L2.ps_set _ _ (4) _ _ _ _ nd rfl (Or.inl rfl) ?gx (by rfl) (by first | exact Or.inl rfl | exact Or.inr rfl | assumption)
         case gx =>
          refine' @L2.pe_lst _ _ _ _ ?gy
          case gy =>
           refine' @L2.pa_cons _ _ _ _ _ ?gz ?g10 rfl
           case gz =>
            refine' @L2.pe_op _ _ _ _ _ _ _ _ op_catU (pv 1) ?g11
            case g11 =>
             refine' @L2.pe_slice _ _ _ _ _ _ _ _ _ _ sl_tupU (pv 1) (po_some (pe_un un_neg pe_int)) po_none
           case g10 =>
            refine' @L2.pa_cons _ _ _ _ _ ?g12 ?g13 rfl
            case g12 =>
             refine' @L2.pe_slice _ _ _ _ _ _ _ _ _ _ sl_tupU (pv 1) po_none (po_some (pe_un un_neg pe_int))
            case g13 =>
             refine' @L2.pa_cons _ _ _ _ _ ?g14 ?g15 rfl
             case g14 =>
              refine' @L2.pe_slice _ _ _ _ _ _ _ _ _ _ sl_tupU (pv 1) (po_some pe_int) po_none
             case g15 =>
              refine' @L2.pa_cons _ _ _ _ _ ?g16 (pa_cons (pe_callTy call_listN rfl T.b_list bb_list (pa_cons (pv 1) pa_nil rfl)) (pa_cons (pe_op op_catU (pv 1) (pe_tup (pa_cons pe_int pa_nil rfl))) pa_nil rfl) rfl) rfl
              case g16 =>
               refine' @L2.pe_slback _ _ _ _ _ _ pe_m1 (pv 1)
        case gw =>
         refine' @L2.pss_cons _ _ _ _ _ ?g17 ?g18
         case g17 =>
          refine' @L2.ps_expr _ _ _ _ ?g19 (by rfl)
          case g19 =>
           refine' @L2.pe_bm _ _ _ _ _ _ _ _ _ _ _ _ PySem.F.plainAttrs_list PySem.F.slot_list_append PySem.F.type_list_append mt_append (pv 4) (pa_cons (pe_op op_catU (pv 1) (pe_tup (pa_cons (pv 1) pa_nil rfl))) pa_nil rfl) (by rfl) (by rfl) (by rfl) (by rfl) (by rfl)
         case g18 =>
          refine' @L2.pss_one _ _ _ ?g1a
          case g1a =>
           refine' @L2.ps_ret _ _ _ _ ?g1b
           case g1b =>
            refine' @L2.pe_ix _ _ _ _ _ _ _ ix_list (pv 4) (pv 3) (fun _ _=>rfl)
      case gp =>
       refine' @L2.pss_cons _ _ _ _ _ ?g1c (pss_one (ps_ret (pe_cal C__law_odd hr (by decide) rfl (pa_cons (pv 0) pa_nil rfl))))
       case g1c =>
        refine' @L2.ps_if _ _ _ _ _ _ _ _ ?g1d ?g1e pss_nil
        case g1d =>
         refine' @L2.PW.pt _ _ _ ?g1f
         case g1f =>
          refine' @L2.pw_and _ _ _ _ _ _ _ ?g1g ?g1h
          case g1g =>
           refine' @L2.pt_truth _ _ _ (pe_cal C__law_whole hr (by decide) rfl (pa_cons (pv 1) pa_nil rfl)) (fun _=>rfl)
          case g1h =>
           refine' @L2.pw_and1 _ _ _ _ (pt_cmpR op_lt (pv 3) pe_int (nomark _))
        case g1e =>
         refine' @L2.pss_one _ _ _ ?g1i
         case g1i =>
          refine' @L2.ps_ret _ _ _ _ ?g1j
          case g1j =>
           refine' @L2.pe_op _ _ _ _ _ _ _ _ op_add (pv 1) ?g1k
           case g1k =>
            refine' @L2.pe_ix _ _ _ _ _ _ _ ix_list ?g1l (pv 3) (fun _ _=>rfl)
            case g1l =>
             refine' @L2.pe_lst _ _ _ _ (pa_cons pe_int (pa_cons (pe_un un_neg pe_int) (pa_cons pe_int (pa_cons pe_int (pa_cons (pe_un un_neg pe_int) (pa_cons pe_int pa_nil rfl) rfl) rfl) rfl) rfl) rfl)
   case read =>
    rcases hd.isT with ⟨a,xs,ds,rfl,rfl,ha,hs⟩ | e
    case inr =>
     obtain ⟨t,ty,ki⟩:=hd.ty (K:=K)
     rw [e] at ki
     refine ⟨_,rfl,_,_,t,_,rfl,ty,ki,_,rfl,iteF (iteF ?_)⟩
     refine ⟨_,rfl,l,9,rfl,hl,by decide,lt8999 (by decide),fun r H1 r0 r1 k1 l1=>?_⟩
     have hd1:=Dt.keepS hN hl hd k1
     obtain ⟨t',ty',ki'⟩:=hd1.ty (K:=K)
     rw [e] at ki'
     refine ⟨_,rfl,_,_,t',_,rfl,ty',ki',_,rfl,iteF (iteF ?_)⟩
     refine ⟨_,rfl,N,k,v,d,rfl,hd1,_,rfl,?_⟩
     rcases hd1.isI with ⟨i,rfl,rfl,hi⟩ | e2
     · refine iteT ?_
       refine ⟨_,rfl,_,_,rfl,rfl,_,rfl,?_⟩
       refine ite2 (fun hlt=>?_) (fun _=>?_)
       · refine ⟨_,rfl,_,rfl,_,rfl,by show 6≤sizeLine; decide,fun p2 n2=>?_⟩
         obtain ⟨w,hw,hm⟩:=atI_mem (xs:=[V.int 1,V.int (-1),V.int 2,V.int 30,V.int (-101),V.int 5]) r0 (of_decide_eq_true hlt)
         obtain ⟨c,ec,hc⟩:∃ c,w=.int c∧c.natAbs≤101:=by
          simp only [List.mem_cons,List.not_mem_nil,or_false] at hm
          rcases hm with rfl | rfl | rfl | rfl | rfl | rfl <;> exact ⟨_,rfl,by decide⟩
         refine ⟨_,rfl,p2,_,r,w,rfl,rfl,SqL.of upd_same,hw,i,c,rfl,ec,?_⟩
         refine q _ _ (k1.trans (Keep.new n2)) (l1.new n2) ⟨.int (i+c),.int ?_,Nat.zero_le _,by show 1≤_; omega⟩
         have h1:2 ^ (k+1)=2 * 2 ^ k:=Nat.pow_succ'
         have h2:2 ^ 7≤2 ^ k:=Nat.pow_le_pow_right (by decide) (by omega)
         have h3:=Int.natAbs_add_le i c
         rw [h1]
         have h5:(2:Nat) ^ 7=128:=by decide
         omega
       · exact ⟨_,rfl,l,N,rfl,l1,hN,Dom.keepS hD k1 l1,fun Hy vy ky ly ty=>q _ _ (k1.trans ky) ly (ty.up (by omega) (by omega) (by omega))⟩
     · rw [e2]
       exact iteF (iteF ⟨_,rfl,l,N,rfl,l1,hN,Dom.keepS hD k1 l1,fun Hy vy ky ly ty=>q _ _ (k1.trans ky) ly (ty.up (by omega) (by omega) (by omega))⟩)
    have dep:PyData.depthAll ds+1≤1:=hn
    have hz:1+nzAll ds≤100000:=hm
    have hlen:xs.length≤100000:=by rw [hs.len]; have:=len_nz ds; omega
    refine ⟨_,rfl,_,_,_,_,rfl,TyOf.tup ha,rfl,true,rfl,iteT ?_⟩
    refine ⟨_,rfl,by show 0≤sizeLine; decide,?_⟩
    intro p1 n1
    generalize hH1:upd H p1 _=H1
    have S1:Same H H1:=by (rw [← hH1]; exact Same.new n1)
    have A1:=(congrFun hH1 p1).symm
    rw [upd_same] at A1
    clear hH1
    have st1:=(hl).same S1
    refine ⟨a,p1,xs,rfl,rfl,SqT.of (S1 _ _ ha),SqT.of A1,_,rfl,?_⟩
    by_cases hx:xs=[]
    · rw [decide_eq_true hx]
      refine iteF (iteF ?_)
      refine ⟨_,rfl,l,9,rfl,st1,by decide,lt8999 (by decide),fun r Hc r0 r1 kc lc=>?_⟩
      have hc:=kc _ _ (fun z=>by subst z; exact absurd (((st1).neT (S1 _ _ ha)) rfl) id) (S1 _ _ ha)
      have Kc:Keep l H Hc:=(S1.keep).trans kc
      have hsc:Dts N Hc k xs ds:=Dts.keepS hN hl hs Kc
      refine ⟨_,rfl,_,_,_,_,rfl,TyOf.tup hc,rfl,true,rfl,iteT ?_⟩
      refine ⟨_,rfl,_,_,rfl,rfl,_,rfl,?_⟩
      refine ite2 (fun hlt=>?_) (fun _=>?_)
      · refine ⟨_,rfl,_,rfl,_,rfl,_,rfl,a,xs,rfl,hc,fun pc1 Hc1 Sc1 Ac1=>?_⟩
        have stc1:=(lc).same Sc1
        refine ⟨a,pc1,_,_,rfl,rfl,(Sc1 _ _ hc),Ac1,by have e:=sizeLine_eq; have:=cutV_length xs (some (-1)) none; (try simp only [List.length_cons,List.length_nil]); omega,fun pc2 Hc2 Sc2 Ac2=>?_⟩
        have stc2:=(stc1).same Sc2
        refine ⟨_,rfl,_,rfl,_,rfl,a,xs,rfl,(Sc2 _ _ (Sc1 _ _ hc)),fun pc3 Hc3 Sc3 Ac3=>?_⟩
        have stc3:=(stc2).same Sc3
        refine ⟨_,rfl,_,rfl,a,xs,rfl,(Sc3 _ _ (Sc2 _ _ (Sc1 _ _ hc))),fun pc4 Hc4 Sc4 Ac4=>?_⟩
        have stc4:=(stc3).same Sc4
        refine ⟨_,rfl,a,xs,rfl,SqT.of (Sc4 _ _ (Sc3 _ _ (Sc2 _ _ (Sc1 _ _ hc)))),?_⟩
        intro pc5 nc5
        generalize hHc5:upd Hc4 pc5 _=Hc5
        have Sc5:Same Hc4 Hc5:=by (rw [← hHc5]; exact Same.new nc5)
        have Ac5:=(congrFun hHc5 pc5).symm
        rw [upd_same] at Ac5
        clear hHc5
        have stc5:=(stc4).same Sc5
        refine ⟨_,rfl,a,xs,rfl,.inr (SqT.of (Sc5 _ _ (Sc4 _ _ (Sc3 _ _ (Sc2 _ _ (Sc1 _ _ hc)))))),?_⟩
        intro pc6 nc6 mc6
        generalize hHc6:upd Hc5 pc6 _=Hc6
        have Sc6:Same Hc5 Hc6:=by (rw [← hHc6]; exact Same.new nc6)
        have Ac6:=(congrFun hHc6 pc6).symm
        rw [upd_same] at Ac6
        clear hHc6
        have stc6:=(stc5).same Sc6
        refine ⟨_,rfl,by show 1≤sizeLine; decide,?_⟩
        intro pc7 nc7
        generalize hHc7:upd Hc6 pc7 _=Hc7
        have Sc7:Same Hc6 Hc7:=by (rw [← hHc7]; exact Same.new nc7)
        have Ac7:=(congrFun hHc7 pc7).symm
        rw [upd_same] at Ac7
        clear hHc7
        have stc7:=(stc6).same Sc7
        refine ⟨a,pc7,_,_,rfl,rfl,(Sc7 _ _ (Sc6 _ _ (Sc5 _ _ (Sc4 _ _ (Sc3 _ _ (Sc2 _ _ (Sc1 _ _ hc))))))),Ac7,by have e:=sizeLine_eq; have:=cutV_length xs (some (-1)) none; (try simp only [List.length_cons,List.length_nil]); omega,fun pc8 Hc8 Sc8 Ac8=>?_⟩
        have stc8:=(stc7).same Sc8
        refine ⟨by show 6≤sizeLine; decide,?_⟩
        intro pc9 nc9
        generalize hHc9:upd Hc8 pc9 _=Hc9
        have Sc9:Same Hc8 Hc9:=by (rw [← hHc9]; exact Same.new nc9)
        have Ac9:=(congrFun hHc9 pc9).symm
        rw [upd_same] at Ac9
        clear hHc9
        have stc9:=(stc8).same Sc9
        refine ⟨_,rfl,.inl ⟨rfl,_,SqL.of Ac9⟩,_,rfl,_,rfl,by show 1≤sizeLine; decide,?_⟩
        intro pc10 nc10
        generalize hHc10:upd Hc9 pc10 _=Hc10
        have Sc10:Same Hc9 Hc10:=by (rw [← hHc10]; exact Same.new nc10)
        have Ac10:=(congrFun hHc10 pc10).symm
        rw [upd_same] at Ac10
        clear hHc10
        have stc10:=(stc9).same Sc10
        refine ⟨a,pc10,_,_,rfl,rfl,(Sc10 _ _ (Sc9 _ _ (Sc8 _ _ (Sc7 _ _ (Sc6 _ _ (Sc5 _ _ (Sc4 _ _ (Sc3 _ _ (Sc2 _ _ (Sc1 _ _ hc)))))))))),Ac10,by have e:=sizeLine_eq; have:=cutV_length xs (some (-1)) none; (try simp only [List.length_cons,List.length_nil]); omega,fun pc11 Hc11 Sc11 Ac11=>?_⟩
        have stc11:=(stc10).same Sc11
        have QL:Hc11 pc9=some (.lst [.ref pc2,.ref pc3,.ref pc4,.ref pc5,.ref pc6,.ref pc8]):=(Sc11 _ _ (Sc10 _ _ Ac9))
        refine ⟨pc9,_,_,rfl,rfl,QL,by show 6 < sizeLine; decide,?_⟩
        generalize hHz:upd Hc11 pc9 _=Hz
        have Kz:Keep pc9 Hc11 Hz:=by (rw [← hHz]; exact Keep.upd)
        have Az:Hz pc9=some (.lst ([.ref pc2,.ref pc3,.ref pc4,.ref pc5,.ref pc6,.ref pc8]++[.ref pc11])):=by (rw [← hHz]; exact upd_same)
        clear hHz
        have Sz:Same Hc8 Hz:=fun b o e=>Kz b o (ne_of_none e nc9) ((Sc9.trans (Sc10.trans Sc11)) b o e)
        have stz:StAt Hz l:=(stc11).keep Kz (fun z=>stc8.ne nc9 z)
        have dz:Dts N Hz (k+1) xs ds:=(hsc.same ((Sc1.trans (Sc2.trans (Sc3.trans (Sc4.trans (Sc5.trans (Sc6.trans (Sc7.trans Sc8))))))).trans Sz)).up (by omega)
        obtain ⟨es1,f1,g1,h1⟩:=dz.cut (some (-1)) none
        obtain ⟨es2,f2,g2,h2⟩:=dz.cut none (some (-1))
        obtain ⟨es3,f3,g3,h3⟩:=dz.cut (some 1) none
        have U1:Tg N Hz (k+1) 3 (2 * nz (.tuple ds)+40) (.ref pc2):=⟨_,.tup (Sz _ _ (Sc8 _ _ (Sc7 _ _ (Sc6 _ _ (Sc5 _ _ (Sc4 _ _ (Sc3 _ _ Ac2))))))) (dz.app f1),by show PyData.depthAll _+1≤_; rw [depthAll_app]; omega,by show 1+nzAll _≤2 * (1+nzAll ds)+40; rw [nzAll_app]; omega⟩
        have U2:Tg N Hz (k+1) 3 (2 * nz (.tuple ds)+40) (.ref pc3):=⟨_,.tup (Sz _ _ (Sc8 _ _ (Sc7 _ _ (Sc6 _ _ (Sc5 _ _ (Sc4 _ _ Ac3)))))) f2,by show PyData.depthAll _+1≤_; omega,by show 1+nzAll _≤2 * (1+nzAll ds)+40; omega⟩
        have U3:Tg N Hz (k+1) 3 (2 * nz (.tuple ds)+40) (.ref pc4):=⟨_,.tup (Sz _ _ (Sc8 _ _ (Sc7 _ _ (Sc6 _ _ (Sc5 _ _ Ac4))))) f3,by show PyData.depthAll _+1≤_; omega,by show 1+nzAll _≤2 * (1+nzAll ds)+40; omega⟩
        have U4:Tg N Hz (k+1) 3 (2 * nz (.tuple ds)+40) (.ref pc5):=⟨_,.tup (Sz _ _ (Sc8 _ _ (Sc7 _ _ (Sc6 _ _ Ac5)))) dz.rev,by show PyData.depthAll _+1≤_; rw [depthAll_rev]; omega,by show 1+nzAll _≤2 * (1+nzAll ds)+40; rw [nzAll_rev]; omega⟩
        have U5:Tg N Hz (k+1) 3 (2 * nz (.tuple ds)+40) (.ref pc6):=⟨_,.lst (Sz _ _ (Sc8 _ _ (Sc7 _ _ Ac6))) (((Dom.keepS hD Kc lc).same (Sc1.trans (Sc2.trans (Sc3.trans (Sc4.trans Sc5))))).new nc6) mc6 dz,by show PyData.depthAll _+1≤_; omega,by show 1+nzAll _≤2 * (1+nzAll ds)+40; omega⟩
        have U6:Tg N Hz (k+1) 3 (2 * nz (.tuple ds)+40) (.ref pc8):=⟨_,.tup (Sz _ _ Ac8) (dz.app (.cons (dint 0 (by omega) (by decide)) .nil)),by show PyData.depthAll _+1≤_; rw [depthAll_app]; simp only [PyData.depthAll,PyData.depth]; omega,by show 1+nzAll _≤2 * (1+nzAll ds)+40; rw [nzAll_app]; simp only [nzAll,nz]; omega⟩
        have hz':Hz a=some (.tup xs):=Sz _ _ (Sc8 _ _ (Sc7 _ _ (Sc6 _ _ (Sc5 _ _ (Sc4 _ _ (Sc3 _ _ (Sc2 _ _ (Sc1 _ _ hc))))))))
        have U7:Tg N Hz (k+1) 3 (2 * nz (.tuple ds)+40) (.ref pc11):=⟨_,.tup (Kz _ _ (ne_of Ac11 QL (by intro z; cases z)) Ac11) (dz.app (.cons (.tup hz' dz) .nil)),by show PyData.depthAll _+1≤_; rw [depthAll_app]; simp only [PyData.depthAll,PyData.depth]; omega,by show 1+nzAll _≤2 * (1+nzAll ds)+40; rw [nzAll_app]; simp only [nzAll,nz]; omega⟩
        obtain ⟨w,hw,mw⟩:=atI_mem (xs:=[.ref pc2,.ref pc3,.ref pc4,.ref pc5,.ref pc6,.ref pc8]++[.ref pc11]) r0 (by exact of_decide_eq_true hlt)
        have TU:=Tgs.app (Tgs.cons U1 (Tgs.cons U2 (Tgs.cons U3 (Tgs.cons U4 (Tgs.cons U5 (Tgs.cons U6 Tgs.nil)))))) (Tgs.cons U7 Tgs.nil)
        refine ⟨_,rfl,_,rfl,pc9,_,r,w,rfl,rfl,SqL.of Az,hw,q _ _ ?_ stz (TU w mw)⟩
        exact fun b o nb e=>Sz b o ((Sc1.trans (Sc2.trans (Sc3.trans (Sc4.trans (Sc5.trans (Sc6.trans (Sc7.trans Sc8))))))) b o (Kc b o nb e))
      · refine ⟨_,rfl,N,k,_,_,rfl,.tup hc hsc,_,rfl,iteF (iteF ?_)⟩
        exact ⟨_,rfl,l,N,rfl,lc,hN,Dom.keepS hD Kc lc,fun Hy vy ky ly ty=>q _ _ (Kc.trans ky) ly (ty.up (by omega) (by omega) (by omega))⟩
    rw [decide_eq_false hx]
    refine iteT ?_
    refine ⟨_,rfl,l,5,rfl,st1,by decide,lt8999 (by decide),fun r5 H2 r50 r51 k2 l2=>?_⟩
    have K2:Keep l H H2:=S1.keep.trans k2
    have h2:H2 a=some (.tup xs):=K2 _ _ (hl.neT ha) ha
    refine ⟨_,_,rfl,rfl,_,rfl,?_⟩
    refine ite2 (fun _=>?_) (fun _=>?_)
    case refine_2 =>
     refine ⟨_,rfl,l,9,rfl,l2,by decide,lt8999 (by decide),fun r Hc r0 r1 kc lc=>?_⟩
     have hc:=kc _ _ (fun z=>by subst z; exact absurd (((l2).neT h2) rfl) id) h2
     have Kc:Keep l H Hc:=(K2).trans kc
     have hsc:Dts N Hc k xs ds:=Dts.keepS hN hl hs Kc
     refine ⟨_,rfl,_,_,_,_,rfl,TyOf.tup hc,rfl,true,rfl,iteT ?_⟩
     refine ⟨_,rfl,_,_,rfl,rfl,_,rfl,?_⟩
     refine ite2 (fun hlt=>?_) (fun _=>?_)
     · refine ⟨_,rfl,_,rfl,_,rfl,_,rfl,a,xs,rfl,hc,fun pc1 Hc1 Sc1 Ac1=>?_⟩
       have stc1:=(lc).same Sc1
       refine ⟨a,pc1,_,_,rfl,rfl,(Sc1 _ _ hc),Ac1,by have e:=sizeLine_eq; have:=cutV_length xs (some (-1)) none; (try simp only [List.length_cons,List.length_nil]); omega,fun pc2 Hc2 Sc2 Ac2=>?_⟩
       have stc2:=(stc1).same Sc2
       refine ⟨_,rfl,_,rfl,_,rfl,a,xs,rfl,(Sc2 _ _ (Sc1 _ _ hc)),fun pc3 Hc3 Sc3 Ac3=>?_⟩
       have stc3:=(stc2).same Sc3
       refine ⟨_,rfl,_,rfl,a,xs,rfl,(Sc3 _ _ (Sc2 _ _ (Sc1 _ _ hc))),fun pc4 Hc4 Sc4 Ac4=>?_⟩
       have stc4:=(stc3).same Sc4
       refine ⟨_,rfl,a,xs,rfl,SqT.of (Sc4 _ _ (Sc3 _ _ (Sc2 _ _ (Sc1 _ _ hc)))),?_⟩
       intro pc5 nc5
       generalize hHc5:upd Hc4 pc5 _=Hc5
       have Sc5:Same Hc4 Hc5:=by (rw [← hHc5]; exact Same.new nc5)
       have Ac5:=(congrFun hHc5 pc5).symm
       rw [upd_same] at Ac5
       clear hHc5
       have stc5:=(stc4).same Sc5
       refine ⟨_,rfl,a,xs,rfl,.inr (SqT.of (Sc5 _ _ (Sc4 _ _ (Sc3 _ _ (Sc2 _ _ (Sc1 _ _ hc)))))),?_⟩
       intro pc6 nc6 mc6
       generalize hHc6:upd Hc5 pc6 _=Hc6
       have Sc6:Same Hc5 Hc6:=by (rw [← hHc6]; exact Same.new nc6)
       have Ac6:=(congrFun hHc6 pc6).symm
       rw [upd_same] at Ac6
       clear hHc6
       have stc6:=(stc5).same Sc6
       refine ⟨_,rfl,by show 1≤sizeLine; decide,?_⟩
       intro pc7 nc7
       generalize hHc7:upd Hc6 pc7 _=Hc7
       have Sc7:Same Hc6 Hc7:=by (rw [← hHc7]; exact Same.new nc7)
       have Ac7:=(congrFun hHc7 pc7).symm
       rw [upd_same] at Ac7
       clear hHc7
       have stc7:=(stc6).same Sc7
       refine ⟨a,pc7,_,_,rfl,rfl,(Sc7 _ _ (Sc6 _ _ (Sc5 _ _ (Sc4 _ _ (Sc3 _ _ (Sc2 _ _ (Sc1 _ _ hc))))))),Ac7,by have e:=sizeLine_eq; have:=cutV_length xs (some (-1)) none; (try simp only [List.length_cons,List.length_nil]); omega,fun pc8 Hc8 Sc8 Ac8=>?_⟩
       have stc8:=(stc7).same Sc8
       refine ⟨by show 6≤sizeLine; decide,?_⟩
       intro pc9 nc9
       generalize hHc9:upd Hc8 pc9 _=Hc9
       have Sc9:Same Hc8 Hc9:=by (rw [← hHc9]; exact Same.new nc9)
       have Ac9:=(congrFun hHc9 pc9).symm
       rw [upd_same] at Ac9
       clear hHc9
       have stc9:=(stc8).same Sc9
       refine ⟨_,rfl,.inl ⟨rfl,_,SqL.of Ac9⟩,_,rfl,_,rfl,by show 1≤sizeLine; decide,?_⟩
       intro pc10 nc10
       generalize hHc10:upd Hc9 pc10 _=Hc10
       have Sc10:Same Hc9 Hc10:=by (rw [← hHc10]; exact Same.new nc10)
       have Ac10:=(congrFun hHc10 pc10).symm
       rw [upd_same] at Ac10
       clear hHc10
       have stc10:=(stc9).same Sc10
       refine ⟨a,pc10,_,_,rfl,rfl,(Sc10 _ _ (Sc9 _ _ (Sc8 _ _ (Sc7 _ _ (Sc6 _ _ (Sc5 _ _ (Sc4 _ _ (Sc3 _ _ (Sc2 _ _ (Sc1 _ _ hc)))))))))),Ac10,by have e:=sizeLine_eq; have:=cutV_length xs (some (-1)) none; (try simp only [List.length_cons,List.length_nil]); omega,fun pc11 Hc11 Sc11 Ac11=>?_⟩
       have stc11:=(stc10).same Sc11
       have QL:Hc11 pc9=some (.lst [.ref pc2,.ref pc3,.ref pc4,.ref pc5,.ref pc6,.ref pc8]):=(Sc11 _ _ (Sc10 _ _ Ac9))
       refine ⟨pc9,_,_,rfl,rfl,QL,by show 6 < sizeLine; decide,?_⟩
       generalize hHz:upd Hc11 pc9 _=Hz
       have Kz:Keep pc9 Hc11 Hz:=by (rw [← hHz]; exact Keep.upd)
       have Az:Hz pc9=some (.lst ([.ref pc2,.ref pc3,.ref pc4,.ref pc5,.ref pc6,.ref pc8]++[.ref pc11])):=by (rw [← hHz]; exact upd_same)
       clear hHz
       have Sz:Same Hc8 Hz:=fun b o e=>Kz b o (ne_of_none e nc9) ((Sc9.trans (Sc10.trans Sc11)) b o e)
       have stz:StAt Hz l:=(stc11).keep Kz (fun z=>stc8.ne nc9 z)
       have dz:Dts N Hz (k+1) xs ds:=(hsc.same ((Sc1.trans (Sc2.trans (Sc3.trans (Sc4.trans (Sc5.trans (Sc6.trans (Sc7.trans Sc8))))))).trans Sz)).up (by omega)
       obtain ⟨es1,f1,g1,h1⟩:=dz.cut (some (-1)) none
       obtain ⟨es2,f2,g2,h2⟩:=dz.cut none (some (-1))
       obtain ⟨es3,f3,g3,h3⟩:=dz.cut (some 1) none
       have U1:Tg N Hz (k+1) 3 (2 * nz (.tuple ds)+40) (.ref pc2):=⟨_,.tup (Sz _ _ (Sc8 _ _ (Sc7 _ _ (Sc6 _ _ (Sc5 _ _ (Sc4 _ _ (Sc3 _ _ Ac2))))))) (dz.app f1),by show PyData.depthAll _+1≤_; rw [depthAll_app]; omega,by show 1+nzAll _≤2 * (1+nzAll ds)+40; rw [nzAll_app]; omega⟩
       have U2:Tg N Hz (k+1) 3 (2 * nz (.tuple ds)+40) (.ref pc3):=⟨_,.tup (Sz _ _ (Sc8 _ _ (Sc7 _ _ (Sc6 _ _ (Sc5 _ _ (Sc4 _ _ Ac3)))))) f2,by show PyData.depthAll _+1≤_; omega,by show 1+nzAll _≤2 * (1+nzAll ds)+40; omega⟩
       have U3:Tg N Hz (k+1) 3 (2 * nz (.tuple ds)+40) (.ref pc4):=⟨_,.tup (Sz _ _ (Sc8 _ _ (Sc7 _ _ (Sc6 _ _ (Sc5 _ _ Ac4))))) f3,by show PyData.depthAll _+1≤_; omega,by show 1+nzAll _≤2 * (1+nzAll ds)+40; omega⟩
       have U4:Tg N Hz (k+1) 3 (2 * nz (.tuple ds)+40) (.ref pc5):=⟨_,.tup (Sz _ _ (Sc8 _ _ (Sc7 _ _ (Sc6 _ _ Ac5)))) dz.rev,by show PyData.depthAll _+1≤_; rw [depthAll_rev]; omega,by show 1+nzAll _≤2 * (1+nzAll ds)+40; rw [nzAll_rev]; omega⟩
       have U5:Tg N Hz (k+1) 3 (2 * nz (.tuple ds)+40) (.ref pc6):=⟨_,.lst (Sz _ _ (Sc8 _ _ (Sc7 _ _ Ac6))) (((Dom.keepS hD Kc lc).same (Sc1.trans (Sc2.trans (Sc3.trans (Sc4.trans Sc5))))).new nc6) mc6 dz,by show PyData.depthAll _+1≤_; omega,by show 1+nzAll _≤2 * (1+nzAll ds)+40; omega⟩
       have U6:Tg N Hz (k+1) 3 (2 * nz (.tuple ds)+40) (.ref pc8):=⟨_,.tup (Sz _ _ Ac8) (dz.app (.cons (dint 0 (by omega) (by decide)) .nil)),by show PyData.depthAll _+1≤_; rw [depthAll_app]; simp only [PyData.depthAll,PyData.depth]; omega,by show 1+nzAll _≤2 * (1+nzAll ds)+40; rw [nzAll_app]; simp only [nzAll,nz]; omega⟩
       have hz':Hz a=some (.tup xs):=Sz _ _ (Sc8 _ _ (Sc7 _ _ (Sc6 _ _ (Sc5 _ _ (Sc4 _ _ (Sc3 _ _ (Sc2 _ _ (Sc1 _ _ hc))))))))
       have U7:Tg N Hz (k+1) 3 (2 * nz (.tuple ds)+40) (.ref pc11):=⟨_,.tup (Kz _ _ (ne_of Ac11 QL (by intro z; cases z)) Ac11) (dz.app (.cons (.tup hz' dz) .nil)),by show PyData.depthAll _+1≤_; rw [depthAll_app]; simp only [PyData.depthAll,PyData.depth]; omega,by show 1+nzAll _≤2 * (1+nzAll ds)+40; rw [nzAll_app]; simp only [nzAll,nz]; omega⟩
       obtain ⟨w,hw,mw⟩:=atI_mem (xs:=[.ref pc2,.ref pc3,.ref pc4,.ref pc5,.ref pc6,.ref pc8]++[.ref pc11]) r0 (by exact of_decide_eq_true hlt)
       have TU:=Tgs.app (Tgs.cons U1 (Tgs.cons U2 (Tgs.cons U3 (Tgs.cons U4 (Tgs.cons U5 (Tgs.cons U6 Tgs.nil)))))) (Tgs.cons U7 Tgs.nil)
       refine ⟨_,rfl,_,rfl,pc9,_,r,w,rfl,rfl,SqL.of Az,hw,q _ _ ?_ stz (TU w mw)⟩
       exact fun b o nb e=>Sz b o ((Sc1.trans (Sc2.trans (Sc3.trans (Sc4.trans (Sc5.trans (Sc6.trans (Sc7.trans Sc8))))))) b o (Kc b o nb e))
     · refine ⟨_,rfl,N,k,_,_,rfl,.tup hc hsc,_,rfl,iteF (iteF ?_)⟩
       exact ⟨_,rfl,l,N,rfl,lc,hN,Dom.keepS hD Kc lc,fun Hy vy ky ly ty=>q _ _ (Kc.trans ky) ly (ty.up (by omega) (by omega) (by omega))⟩
    have hpos:0 < xs.length:=by rcases xs with _ | ⟨x,xs⟩; exact absurd rfl hx; simp
    refine ⟨_,rfl,_,rfl,a,xs,rfl,.inr (SqT.of h2),l,xs.length,rfl,l2,by omega,lt8999 (by rw [p64]; omega),fun r H3 r0 r1 k3 l3=>?_⟩
    obtain ⟨rn,rfl⟩:=Int.eq_ofNat_of_zero_le r0
    have hrn:rn < xs.length:=by omega
    have K3:Keep l H H3:=K2.trans k3
    have h3:H3 a=some (.tup xs):=K3 _ _ (hl.neT ha) ha
    refine ⟨_,rfl,_,rfl,_,rfl,a,xs,rfl,h3,fun p4 H4 S4 A4=>?_⟩
    rw [cut_take] at A4
    have K4:Keep l H H4:=K3.trans S4.keep
    obtain ⟨dx,edx,hdx⟩:=hs.get (List.getElem?_eq_getElem hrn)
    obtain ⟨gn,gd⟩:=get_parts edx
    refine ⟨_,rfl,_,rfl,_,rfl,a,xs,rn,xs[rn],rfl,rfl,SqT.of (S4 _ _ h3),atI_nat (List.getElem?_eq_getElem hrn),l,N,k,xs[rn],dx,rfl,l3.same S4,hN,Dom.keepS hD K4 (l3.same S4),Dt.keepS hN hl hdx K4,hk,by omega,by omega,fun H5 v5 k5 l5 t5=>?_⟩
    obtain ⟨d5,b5,c5,e5⟩:=t5
    have st4:StAt H4 l:=l3.same S4
    have a4:=k5 _ _ (st4.neT A4) A4
    have K5:Keep l H H5:=K4.trans k5
    refine ⟨by show 1≤sizeLine; decide,?_⟩
    intro p6 n6
    generalize hH6:upd H5 p6 _=H6
    have S6:Same H5 H6:=by (rw [← hH6]; exact Same.new n6)
    have A6:=(congrFun hH6 p6).symm
    rw [upd_same] at A6
    clear hH6
    refine ⟨p4,p6,_,_,rfl,rfl,S6 _ _ a4,A6,by have e:=sizeLine_eq; simp only [List.length_append,List.length_take,List.length_drop,List.length_cons,List.length_nil]; omega,fun p7 H7 S7 A7=>?_⟩
    have K7:Keep l H H7:=K5.trans (S6.trans S7).keep
    have h7:H7 a=some (.tup xs):=K7 _ _ (hl.neT ha) ha
    refine ⟨_,rfl,_,rfl,_,_,rfl,rfl,_,rfl,a,xs,rfl,h7,fun p8 H8 S8 A8=>?_⟩
    rw [show ((rn:Int)+1)=((rn+1:Nat):Int) from rfl,cut_drop] at A8
    refine ⟨p7,p8,_,_,rfl,rfl,S8 _ _ A7,A8,by have e:=sizeLine_eq; simp only [List.length_append,List.length_take,List.length_drop,List.length_cons,List.length_nil]; omega,fun p9 H9 S9 A9=>?_⟩
    have K9:Keep l H H9:=K7.trans (S8.trans S9).keep
    have s9:Same H5 H9:=S6.trans (S7.trans (S8.trans S9))
    have d9:Dts N H9 (k+1) xs ds:=(Dts.keepS hN hl hs K9).up (by omega)
    refine q _ _ K9 (l5.same s9) ⟨.tuple ((ds.take rn++[d5])++ds.drop (rn+1)),.tup A9 (((d9.take rn).app (.cons (b5.same s9) .nil)).app (d9.drop (rn+1))),?_,?_⟩
    · show PyData.depthAll _+1≤_
      rw [depthAll_app,depthAll_app]
      have z1:=depthAll_take rn ds
      have z2:=depthAll_drop (rn+1) ds
      simp only [PyData.depthAll]
      omega
    · show 1+nzAll _≤2 * (1+nzAll ds)+40
      rw [nzAll_app,nzAll_app]
      simp only [nzAll]
      omega
abbrev s__law_marks:Stmt:=top 55
theorem ok__law_marks (F:Fun K "_law_marks" "_law_marks" s__law_marks f fd) {cl:Str→Addr} (Z:Ek K mg cl):FnOkH P w K mg base 1 f fd ["_law_e"] (sp_marks K cl):=by
 have sc:FnScope ["_law_e","_law_marks_here"] ["_law_e"] (defScope s__law_marks):=fsc (by decide +kernel)
 refine F.okH sc (fun vs H Q E h=>?_) (fun cdv A outer s H vs Q hr h=>?_)
 · obtain ⟨ea,C,ix,rfl,_⟩:=h
   rfl
 · obtain ⟨ea,C,ix,rfl,hE,kk,q⟩:=h
   have nd:=sc.nd
   have hu:=hu_ofH hr
   have hu1:=Nat.lt_of_succ_lt hu
   refine' ⟨_,?term,?read⟩
   case term =>
    refine' @L2.pss_cons _ _ _ _ _ ?g1 ?g2
    case g1 =>
     refine' @L2.ps_set _ _ (1) _ _ _ _ nd rfl (Or.inl rfl) ?g3 (by rfl) (by first | exact Or.inl rfl | exact Or.inr rfl | assumption)
     case g3 =>
      refine' @L2.pe_lst _ _ _ _ ?g4
      case g4 =>
       refine' @L2.pa_cons _ _ _ _ _ ?g5 ?g6 rfl
       case g5 =>
        refine' @L2.pe_callB _ _ _ _ _ _ _ _ _ call_isiE rfl T.b_isinstance bb_isinstance ?g7 (by decide) (by decide) (by rfl) (by rfl)
        case g7 =>
         refine' @L2.pa_cons _ _ _ _ _ (pv 0) ?g8 rfl
         case g8 =>
          refine' @L2.pa_cons _ _ _ _ _ ?g9 pa_nil rfl
          case g9 =>
           refine' @L2.pe_glob _ _ (.ref (cl "NoBalance")) _ _ rfl (Z.nm "NoBalance" (by decide)) rfl (by decide)
       case g6 =>
        refine' @L2.pa_cons _ _ _ _ _ ?ga ?gb rfl
        case ga =>
         refine' @L2.pe_callB _ _ _ _ _ _ _ _ _ call_isiE rfl T.b_isinstance bb_isinstance ?gc (by decide) (by decide) (by rfl) (by rfl)
         case gc =>
          refine' @L2.pa_cons _ _ _ _ _ (pv 0) ?gd rfl
          case gd =>
           refine' @L2.pa_cons _ _ _ _ _ ?ge pa_nil rfl
           case ge =>
            refine' @L2.pe_glob _ _ (.ref (cl "NoDeed")) _ _ rfl (Z.nm "NoDeed" (by decide)) rfl (by decide)
        case gb =>
         refine' @L2.pa_cons _ _ _ _ _ ?gf ?gg rfl
         case gf =>
          refine' @L2.pe_callB _ _ _ _ _ _ _ _ _ call_isiE rfl T.b_isinstance bb_isinstance ?gh (by decide) (by decide) (by rfl) (by rfl)
          case gh =>
           refine' @L2.pa_cons _ _ _ _ _ (pv 0) ?gi rfl
           case gi =>
            refine' @L2.pa_cons _ _ _ _ _ ?gj pa_nil rfl
            case gj =>
             refine' @L2.pe_glob _ _ (.ref (cl "NoDeeds")) _ _ rfl (Z.nm "NoDeeds" (by decide)) rfl (by decide)
         case gg =>
          refine' @L2.pa_cons _ _ _ _ _ ?gk pa_nil rfl
          case gk =>
           refine' @L2.pe_callB _ _ _ _ _ _ _ _ _ call_isiE rfl T.b_isinstance bb_isinstance ?gl (by decide) (by decide) (by rfl) (by rfl)
           case gl =>
            refine' @L2.pa_cons _ _ _ _ _ (pv 0) ?gm rfl
            case gm =>
             refine' @L2.pa_cons _ _ _ _ _ ?gn pa_nil rfl
             case gn =>
              refine' @L2.pe_glob _ _ (.ref (cl "NoFirm")) _ _ rfl (Z.nm "NoFirm" (by decide)) rfl (by decide)
    case g2 =>
     refine' @L2.pss_cons _ _ _ _ _ ?go ?gp
     case go =>
      refine' @L2.ps_set _ _ (1) _ _ _ _ nd rfl (Or.inl rfl) ?gq (by rfl) (by first | exact Or.inl rfl | exact Or.inr rfl | assumption)
      case gq =>
       refine' @L2.pe_op _ _ _ _ _ _ _ _ op_cat (pv 1) ?gr
       case gr =>
        refine' @L2.pe_lst _ _ _ _ ?gs
        case gs =>
         refine' @L2.pa_cons _ _ _ _ _ ?gt ?gu rfl
         case gt =>
          refine' @L2.pe_callB _ _ _ _ _ _ _ _ _ call_isiE rfl T.b_isinstance bb_isinstance ?gv (by decide) (by decide) (by rfl) (by rfl)
          case gv =>
           refine' @L2.pa_cons _ _ _ _ _ (pv 0) ?gw rfl
           case gw =>
            refine' @L2.pa_cons _ _ _ _ _ ?gx pa_nil rfl
            case gx =>
             refine' @L2.pe_glob _ _ (.ref (cl "NoFraction")) _ _ rfl (Z.nm "NoFraction" (by decide)) rfl (by decide)
         case gu =>
          refine' @L2.pa_cons _ _ _ _ _ ?gy ?gz rfl
          case gy =>
           refine' @L2.pe_callB _ _ _ _ _ _ _ _ _ call_isiE rfl T.b_isinstance bb_isinstance ?g10 (by decide) (by decide) (by rfl) (by rfl)
           case g10 =>
            refine' @L2.pa_cons _ _ _ _ _ (pv 0) ?g11 rfl
            case g11 =>
             refine' @L2.pa_cons _ _ _ _ _ ?g12 pa_nil rfl
             case g12 =>
              refine' @L2.pe_glob _ _ (.ref (cl "NoFrame")) _ _ rfl (Z.nm "NoFrame" (by decide)) rfl (by decide)
          case gz =>
           refine' @L2.pa_cons _ _ _ _ _ ?g13 pa_nil rfl
           case g13 =>
            refine' @L2.pe_callB _ _ _ _ _ _ _ _ _ call_isiE rfl T.b_isinstance bb_isinstance ?g14 (by decide) (by decide) (by rfl) (by rfl)
            case g14 =>
             refine' @L2.pa_cons _ _ _ _ _ (pv 0) ?g15 rfl
             case g15 =>
              refine' @L2.pa_cons _ _ _ _ _ ?g16 pa_nil rfl
              case g16 =>
               refine' @L2.pe_glob _ _ (.ref (cl "NoHolding")) _ _ rfl (Z.nm "NoHolding" (by decide)) rfl (by decide)
     case gp =>
      refine' @L2.pss_cons _ _ _ _ _ ?g17 ?g18
      case g17 =>
       refine' @L2.ps_set _ _ (1) _ _ _ _ nd rfl (Or.inl rfl) ?g19 (by rfl) (by first | exact Or.inl rfl | exact Or.inr rfl | assumption)
       case g19 =>
        refine' @L2.pe_op _ _ _ _ _ _ _ _ op_cat (pv 1) ?g1a
        case g1a =>
         refine' @L2.pe_lst _ _ _ _ ?g1b
         case g1b =>
          refine' @L2.pa_cons _ _ _ _ _ ?g1c ?g1d rfl
          case g1c =>
           refine' @L2.pe_callB _ _ _ _ _ _ _ _ _ call_isiE rfl T.b_isinstance bb_isinstance ?g1e (by decide) (by decide) (by rfl) (by rfl)
           case g1e =>
            refine' @L2.pa_cons _ _ _ _ _ (pv 0) ?g1f rfl
            case g1f =>
             refine' @L2.pa_cons _ _ _ _ _ ?g1g pa_nil rfl
             case g1g =>
              refine' @L2.pe_glob _ _ (.ref (cl "NoInner")) _ _ rfl (Z.nm "NoInner" (by decide)) rfl (by decide)
          case g1d =>
           refine' @L2.pa_cons _ _ _ _ _ ?g1h ?g1i rfl
           case g1h =>
            refine' @L2.pe_callB _ _ _ _ _ _ _ _ _ call_isiE rfl T.b_isinstance bb_isinstance ?g1j (by decide) (by decide) (by rfl) (by rfl)
            case g1j =>
             refine' @L2.pa_cons _ _ _ _ _ (pv 0) ?g1k rfl
             case g1k =>
              refine' @L2.pa_cons _ _ _ _ _ ?g1l pa_nil rfl
              case g1l =>
               refine' @L2.pe_glob _ _ (.ref (cl "NoLine")) _ _ rfl (Z.nm "NoLine" (by decide)) rfl (by decide)
           case g1i =>
            refine' @L2.pa_cons _ _ _ _ _ ?g1m pa_nil rfl
            case g1m =>
             refine' @L2.pe_callB _ _ _ _ _ _ _ _ _ call_isiE rfl T.b_isinstance bb_isinstance ?g1n (by decide) (by decide) (by rfl) (by rfl)
             case g1n =>
              refine' @L2.pa_cons _ _ _ _ _ (pv 0) ?g1o rfl
              case g1o =>
               refine' @L2.pa_cons _ _ _ _ _ ?g1p pa_nil rfl
               case g1p =>
                refine' @L2.pe_glob _ _ (.ref (cl "NoLoads")) _ _ rfl (Z.nm "NoLoads" (by decide)) rfl (by decide)
      case g18 =>
       refine' @L2.pss_cons _ _ _ _ _ ?g1q ?g1r
       case g1q =>
        refine' @L2.ps_expr _ _ _ _ ?g1s (by rfl)
        case g1s =>
         refine' @L2.pe_bm _ _ _ _ _ _ _ _ _ _ _ _ PySem.F.plainAttrs_list PySem.F.slot_list_append PySem.F.type_list_append mt_append (pv 1) ?g1t (by rfl) (by rfl) (by rfl) (by rfl) (by rfl)
         case g1t =>
          refine' @L2.pa_cons _ _ _ _ _ ?g1u pa_nil rfl
          case g1u =>
           refine' @L2.pe_callB _ _ _ _ _ _ _ _ _ call_isiE rfl T.b_isinstance bb_isinstance ?g1v (by decide) (by decide) (by rfl) (by rfl)
           case g1v =>
            refine' @L2.pa_cons _ _ _ _ _ (pv 0) ?g1w rfl
            case g1w =>
             refine' @L2.pa_cons _ _ _ _ _ ?g1x pa_nil rfl
             case g1x =>
              refine' @L2.pe_glob _ _ (.ref (cl "NoLot")) _ _ rfl (Z.nm "NoLot" (by decide)) rfl (by decide)
       case g1r =>
        refine' @L2.pss_cons _ _ _ _ _ ?g1y ?g1z
        case g1y =>
         refine' @L2.ps_set _ _ (1) _ _ _ _ nd rfl (Or.inl rfl) ?g20 (by rfl) (by first | exact Or.inl rfl | exact Or.inr rfl | assumption)
         case g20 =>
          refine' @L2.pe_op _ _ _ _ _ _ _ _ op_cat (pv 1) ?g21
          case g21 =>
           refine' @L2.pe_lst _ _ _ _ ?g22
           case g22 =>
            refine' @L2.pa_cons _ _ _ _ _ ?g23 ?g24 rfl
            case g23 =>
             refine' @L2.pe_callB _ _ _ _ _ _ _ _ _ call_isiE rfl T.b_isinstance bb_isinstance ?g25 (by decide) (by decide) (by rfl) (by rfl)
             case g25 =>
              refine' @L2.pa_cons _ _ _ _ _ (pv 0) ?g26 rfl
              case g26 =>
               refine' @L2.pa_cons _ _ _ _ _ ?g27 pa_nil rfl
               case g27 =>
                refine' @L2.pe_glob _ _ (.ref (cl "NoMotions")) _ _ rfl (Z.nm "NoMotions" (by decide)) rfl (by decide)
            case g24 =>
             refine' @L2.pa_cons _ _ _ _ _ ?g28 ?g29 rfl
             case g28 =>
              refine' @L2.pe_callB _ _ _ _ _ _ _ _ _ call_isiE rfl T.b_isinstance bb_isinstance ?g2a (by decide) (by decide) (by rfl) (by rfl)
              case g2a =>
               refine' @L2.pa_cons _ _ _ _ _ (pv 0) ?g2b rfl
               case g2b =>
                refine' @L2.pa_cons _ _ _ _ _ ?g2c pa_nil rfl
                case g2c =>
                 refine' @L2.pe_glob _ _ (.ref (cl "NoPiece")) _ _ rfl (Z.nm "NoPiece" (by decide)) rfl (by decide)
             case g29 =>
              refine' @L2.pa_cons _ _ _ _ _ ?g2d pa_nil rfl
              case g2d =>
               refine' @L2.pe_callB _ _ _ _ _ _ _ _ _ call_isiE rfl T.b_isinstance bb_isinstance ?g2e (by decide) (by decide) (by rfl) (by rfl)
               case g2e =>
                refine' @L2.pa_cons _ _ _ _ _ (pv 0) ?g2f rfl
                case g2f =>
                 refine' @L2.pa_cons _ _ _ _ _ ?g2g pa_nil rfl
                 case g2g =>
                  refine' @L2.pe_glob _ _ (.ref (cl "NoPlate")) _ _ rfl (Z.nm "NoPlate" (by decide)) rfl (by decide)
        case g1z =>
         refine' @L2.pss_cons _ _ _ _ _ ?g2h ?g2i
         case g2h =>
          refine' @L2.ps_expr _ _ _ _ ?g2j (by rfl)
          case g2j =>
           refine' @L2.pe_bm _ _ _ _ _ _ _ _ _ _ _ _ PySem.F.plainAttrs_list PySem.F.slot_list_append PySem.F.type_list_append mt_append (pv 1) ?g2k (by rfl) (by rfl) (by rfl) (by rfl) (by rfl)
           case g2k =>
            refine' @L2.pa_cons _ _ _ _ _ ?g2l pa_nil rfl
            case g2l =>
             refine' @L2.pe_callB _ _ _ _ _ _ _ _ _ call_isiE rfl T.b_isinstance bb_isinstance ?g2m (by decide) (by decide) (by rfl) (by rfl)
             case g2m =>
              refine' @L2.pa_cons _ _ _ _ _ (pv 0) ?g2n rfl
              case g2n =>
               refine' @L2.pa_cons _ _ _ _ _ ?g2o pa_nil rfl
               case g2o =>
                refine' @L2.pe_glob _ _ (.ref (cl "NoRest")) _ _ rfl (Z.nm "NoRest" (by decide)) rfl (by decide)
         case g2i =>
          refine' @L2.pss_cons _ _ _ _ _ ?g2p ?g2q
          case g2p =>
           refine' @L2.ps_set _ _ (1) _ _ _ _ nd rfl (Or.inl rfl) ?g2r (by rfl) (by first | exact Or.inl rfl | exact Or.inr rfl | assumption)
           case g2r =>
            refine' @L2.pe_op _ _ _ _ _ _ _ _ op_cat (pv 1) ?g2s
            case g2s =>
             refine' @L2.pe_lst _ _ _ _ ?g2t
             case g2t =>
              refine' @L2.pa_cons _ _ _ _ _ ?g2u ?g2v rfl
              case g2u =>
               refine' @L2.pe_callB _ _ _ _ _ _ _ _ _ call_isiE rfl T.b_isinstance bb_isinstance ?g2w (by decide) (by decide) (by rfl) (by rfl)
               case g2w =>
                refine' @L2.pa_cons _ _ _ _ _ (pv 0) ?g2x rfl
                case g2x =>
                 refine' @L2.pa_cons _ _ _ _ _ ?g2y pa_nil rfl
                 case g2y =>
                  refine' @L2.pe_glob _ _ (.ref (cl "NoRounds")) _ _ rfl (Z.nm "NoRounds" (by decide)) rfl (by decide)
              case g2v =>
               refine' @L2.pa_cons _ _ _ _ _ ?g2z ?g30 rfl
               case g2z =>
                refine' @L2.pe_callB _ _ _ _ _ _ _ _ _ call_isiE rfl T.b_isinstance bb_isinstance ?g31 (by decide) (by decide) (by rfl) (by rfl)
                case g31 =>
                 refine' @L2.pa_cons _ _ _ _ _ (pv 0) ?g32 rfl
                 case g32 =>
                  refine' @L2.pa_cons _ _ _ _ _ ?g33 pa_nil rfl
                  case g33 =>
                   refine' @L2.pe_glob _ _ (.ref (cl "NoRows")) _ _ rfl (Z.nm "NoRows" (by decide)) rfl (by decide)
               case g30 =>
                refine' @L2.pa_cons _ _ _ _ _ ?g34 pa_nil rfl
                case g34 =>
                 refine' @L2.pe_callB _ _ _ _ _ _ _ _ _ call_isiE rfl T.b_isinstance bb_isinstance ?g35 (by decide) (by decide) (by rfl) (by rfl)
                 case g35 =>
                  refine' @L2.pa_cons _ _ _ _ _ (pv 0) ?g36 rfl
                  case g36 =>
                   refine' @L2.pa_cons _ _ _ _ _ ?g37 pa_nil rfl
                   case g37 =>
                    refine' @L2.pe_glob _ _ (.ref (cl "NoStresses")) _ _ rfl (Z.nm "NoStresses" (by decide)) rfl (by decide)
          case g2q =>
           refine' @L2.pss_cons _ _ _ _ _ ?g38 ?g39
           case g38 =>
            refine' @L2.ps_expr _ _ _ _ ?g3a (by rfl)
            case g3a =>
             refine' @L2.pe_bm _ _ _ _ _ _ _ _ _ _ _ _ PySem.F.plainAttrs_list PySem.F.slot_list_append PySem.F.type_list_append mt_append (pv 1) ?g3b (by rfl) (by rfl) (by rfl) (by rfl) (by rfl)
             case g3b =>
              refine' @L2.pa_cons _ _ _ _ _ ?g3c pa_nil rfl
              case g3c =>
               refine' @L2.pe_callB _ _ _ _ _ _ _ _ _ call_isiE rfl T.b_isinstance bb_isinstance ?g3d (by decide) (by decide) (by rfl) (by rfl)
               case g3d =>
                refine' @L2.pa_cons _ _ _ _ _ (pv 0) ?g3e rfl
                case g3e =>
                 refine' @L2.pa_cons _ _ _ _ _ ?g3f pa_nil rfl
                 case g3f =>
                  refine' @L2.pe_glob _ _ (.ref (cl "NoThick")) _ _ rfl (Z.nm "NoThick" (by decide)) rfl (by decide)
           case g39 =>
            refine' @L2.pss_cons _ _ _ _ _ ?g3g ?g3h
            case g3g =>
             refine' @L2.ps_set _ _ (1) _ _ _ _ nd rfl (Or.inl rfl) ?g3i (by rfl) (by first | exact Or.inl rfl | exact Or.inr rfl | assumption)
             case g3i =>
              refine' @L2.pe_op _ _ _ _ _ _ _ _ op_cat (pv 1) ?g3j
              case g3j =>
               refine' @L2.pe_lst _ _ _ _ ?g3k
               case g3k =>
                refine' @L2.pa_cons _ _ _ _ _ ?g3l ?g3m rfl
                case g3l =>
                 refine' @L2.pe_callB _ _ _ _ _ _ _ _ _ call_isiE rfl T.b_isinstance bb_isinstance ?g3n (by decide) (by decide) (by rfl) (by rfl)
                 case g3n =>
                  refine' @L2.pa_cons _ _ _ _ _ (pv 0) ?g3o rfl
                  case g3o =>
                   refine' @L2.pa_cons _ _ _ _ _ ?g3p pa_nil rfl
                   case g3p =>
                    refine' @L2.pe_glob _ _ (.ref (cl "NoTurning")) _ _ rfl (Z.nm "NoTurning" (by decide)) rfl (by decide)
                case g3m =>
                 refine' @L2.pa_cons _ _ _ _ _ ?g3q ?g3r rfl
                 case g3q =>
                  refine' @L2.pe_callB _ _ _ _ _ _ _ _ _ call_isiE rfl T.b_isinstance bb_isinstance ?g3s (by decide) (by decide) (by rfl) (by rfl)
                  case g3s =>
                   refine' @L2.pa_cons _ _ _ _ _ (pv 0) ?g3t rfl
                   case g3t =>
                    refine' @L2.pa_cons _ _ _ _ _ ?g3u pa_nil rfl
                    case g3u =>
                     refine' @L2.pe_glob _ _ (.ref (cl "NoWay")) _ _ rfl (Z.nm "NoWay" (by decide)) rfl (by decide)
                 case g3r =>
                  refine' @L2.pa_cons _ _ _ _ _ ?g3v pa_nil rfl
                  case g3v =>
                   refine' @L2.pe_callB _ _ _ _ _ _ _ _ _ call_isiE rfl T.b_isinstance bb_isinstance ?g3w (by decide) (by decide) (by rfl) (by rfl)
                   case g3w =>
                    refine' @L2.pa_cons _ _ _ _ _ (pv 0) ?g3x rfl
                    case g3x =>
                     refine' @L2.pa_cons _ _ _ _ _ ?g3y pa_nil rfl
                     case g3y =>
                      refine' @L2.pe_glob _ _ (.ref (cl "NoWays")) _ _ rfl (Z.nm "NoWays" (by decide)) rfl (by decide)
            case g3h =>
             refine' @L2.pss_cons _ _ _ _ _ ?g3z ?g40
             case g3z =>
              refine' @L2.ps_expr _ _ _ _ ?g41 (by rfl)
              case g41 =>
               refine' @L2.pe_bm _ _ _ _ _ _ _ _ _ _ _ _ PySem.F.plainAttrs_list PySem.F.slot_list_append PySem.F.type_list_append mt_append (pv 1) ?g42 (by rfl) (by rfl) (by rfl) (by rfl) (by rfl)
               case g42 =>
                refine' @L2.pa_cons _ _ _ _ _ ?g43 pa_nil rfl
                case g43 =>
                 refine' @L2.pe_callB _ _ _ _ _ _ _ _ _ call_isiE rfl T.b_isinstance bb_isinstance ?g44 (by decide) (by decide) (by rfl) (by rfl)
                 case g44 =>
                  refine' @L2.pa_cons _ _ _ _ _ (pv 0) ?g45 rfl
                  case g45 =>
                   refine' @L2.pa_cons _ _ _ _ _ ?g46 pa_nil rfl
                   case g46 =>
                    refine' @L2.pe_glob _ _ (.ref (cl "NoWhole")) _ _ rfl (Z.nm "NoWhole" (by decide)) rfl (by decide)
             case g40 =>
              refine' @L2.pss_one _ _ _ ?g47
              case g47 =>
               refine' @L2.ps_ret _ _ _ _ ?g48
               case g48 =>
                refine' @L2.pe_op _ _ _ _ _ _ _ _ op_cat (pv 1) ?g49
                case g49 =>
                 refine' @L2.pe_lst _ _ _ _ ?g4a
                 case g4a =>
                  refine' @L2.pa_cons _ _ _ _ _ ?g4b ?g4c rfl
                  case g4b =>
                   refine' @L2.pe_callB _ _ _ _ _ _ _ _ _ call_isiE rfl T.b_isinstance bb_isinstance ?g4d (by decide) (by decide) (by rfl) (by rfl)
                   case g4d =>
                    refine' @L2.pa_cons _ _ _ _ _ (pv 0) ?g4e rfl
                    case g4e =>
                     refine' @L2.pa_cons _ _ _ _ _ ?g4f pa_nil rfl
                     case g4f =>
                      refine' @L2.pe_glob _ _ (.ref (cl "NotHeld")) _ _ rfl (Z.nm "NotHeld" (by decide)) rfl (by decide)
                  case g4c =>
                   refine' @L2.pa_cons _ _ _ _ _ ?g4g ?g4h rfl
                   case g4g =>
                    refine' @L2.pe_callB _ _ _ _ _ _ _ _ _ call_isiE rfl T.b_isinstance bb_isinstance ?g4i (by decide) (by decide) (by rfl) (by rfl)
                    case g4i =>
                     refine' @L2.pa_cons _ _ _ _ _ (pv 0) ?g4j rfl
                     case g4j =>
                      refine' @L2.pa_cons _ _ _ _ _ ?g4k pa_nil rfl
                      case g4k =>
                       refine' @L2.pe_glob _ _ (.ref (cl "TooMany")) _ _ rfl (Z.nm "TooMany" (by decide)) rfl (by decide)
                   case g4h =>
                    refine' @L2.pa_cons _ _ _ _ _ ?g4l pa_nil rfl
                    case g4l =>
                     refine' @L2.pe_callB _ _ _ _ _ _ _ _ _ call_isiE rfl T.b_isinstance bb_isinstance ?g4m (by decide) (by decide) (by rfl) (by rfl)
                     case g4m =>
                      refine' @L2.pa_cons _ _ _ _ _ (pv 0) ?g4n rfl
                      case g4n =>
                       refine' @L2.pa_cons _ _ _ _ _ ?g4o pa_nil rfl
                       case g4o =>
                        refine' @L2.pe_glob _ _ (.ref (cl "NoText")) _ _ rfl (Z.nm "NoText" (by decide)) rfl (by decide)
   case read =>
    refine ⟨_,rfl,ea,C,_,_,rfl,((Same.refl H) _ _ hE),kk.lk,.inl ⟨_,rfl,kk.is 0 _ rfl⟩,_,rfl,ea,C,_,_,rfl,((Same.refl H) _ _ hE),kk.lk,.inl ⟨_,rfl,kk.is 1 _ rfl⟩,_,rfl,ea,C,_,_,rfl,((Same.refl H) _ _ hE),kk.lk,.inl ⟨_,rfl,kk.is 2 _ rfl⟩,_,rfl,ea,C,_,_,rfl,((Same.refl H) _ _ hE),kk.lk,.inl ⟨_,rfl,kk.is 3 _ rfl⟩,by show 4≤sizeLine; decide,?_⟩
    intro p1 n1
    generalize hH1:upd H p1 _=H1
    have S1:Same H H1:=by (rw [← hH1]; exact Same.new n1)
    have A1:=(congrFun hH1 p1).symm
    rw [upd_same] at A1
    clear hH1
    have T1:Same H H1:=(Same.refl H).trans S1
    refine ⟨_,rfl,_,rfl,ea,C,_,_,rfl,(T1 _ _ hE),kk.lk,.inl ⟨_,rfl,kk.is 4 _ rfl⟩,_,rfl,ea,C,_,_,rfl,(T1 _ _ hE),kk.lk,.inl ⟨_,rfl,kk.is 5 _ rfl⟩,_,rfl,ea,C,_,_,rfl,(T1 _ _ hE),kk.lk,.inl ⟨_,rfl,kk.is 6 _ rfl⟩,by show 3≤sizeLine; decide,?_⟩
    intro p2 n2
    generalize hH2:upd H1 p2 _=H2
    have S2:Same H1 H2:=by (rw [← hH2]; exact Same.new n2)
    have A2:=(congrFun hH2 p2).symm
    rw [upd_same] at A2
    clear hH2
    have T2:Same H H2:=T1.trans S2
    refine ⟨p1,p2,_,_,rfl,rfl,(S2 _ _ A1),A2,by show 7≤sizeLine; decide,?_⟩
    intro p3 n3
    generalize hH3:upd H2 p3 _=H3
    have S3:Same H2 H3:=by (rw [← hH3]; exact Same.new n3)
    have A3:=(congrFun hH3 p3).symm
    rw [upd_same] at A3
    clear hH3
    have T3:Same H H3:=T2.trans S3
    refine ⟨_,rfl,_,rfl,ea,C,_,_,rfl,(T3 _ _ hE),kk.lk,.inl ⟨_,rfl,kk.is 7 _ rfl⟩,_,rfl,ea,C,_,_,rfl,(T3 _ _ hE),kk.lk,.inl ⟨_,rfl,kk.is 8 _ rfl⟩,_,rfl,ea,C,_,_,rfl,(T3 _ _ hE),kk.lk,.inl ⟨_,rfl,kk.is 9 _ rfl⟩,by show 3≤sizeLine; decide,?_⟩
    intro p4 n4
    generalize hH4:upd H3 p4 _=H4
    have S4:Same H3 H4:=by (rw [← hH4]; exact Same.new n4)
    have A4:=(congrFun hH4 p4).symm
    rw [upd_same] at A4
    clear hH4
    have T4:Same H H4:=T3.trans S4
    refine ⟨p3,p4,_,_,rfl,rfl,(S4 _ _ A3),A4,by show 10≤sizeLine; decide,?_⟩
    intro p5 n5
    generalize hH5:upd H4 p5 _=H5
    have S5:Same H4 H5:=by (rw [← hH5]; exact Same.new n5)
    have A5:=(congrFun hH5 p5).symm
    rw [upd_same] at A5
    clear hH5
    have T5:Same H H5:=T4.trans S5
    refine ⟨_,rfl,.inl ⟨rfl,_,SqL.of A5⟩,_,rfl,ea,C,_,_,rfl,(T5 _ _ hE),kk.lk,.inl ⟨_,rfl,kk.is 10 _ rfl⟩,p5,_,_,rfl,rfl,A5,by show 10 < sizeLine; decide,?_⟩
    generalize hH6:upd H5 p5 _=H6
    have K6:Keep p5 H5 H6:=by (rw [← hH6]; exact Keep.upd)
    have A6:=(congrFun hH6 p5).symm
    rw [upd_same] at A6
    clear hH6
    have T6:Same H H6:=fun b o e=>K6 b o (ne_of_none (T4 b o e) n5) (T5 b o e)
    refine ⟨_,rfl,_,rfl,ea,C,_,_,rfl,(T6 _ _ hE),kk.lk,.inl ⟨_,rfl,kk.is 11 _ rfl⟩,_,rfl,ea,C,_,_,rfl,(T6 _ _ hE),kk.lk,.inl ⟨_,rfl,kk.is 12 _ rfl⟩,_,rfl,ea,C,_,_,rfl,(T6 _ _ hE),kk.lk,.inl ⟨_,rfl,kk.is 13 _ rfl⟩,by show 3≤sizeLine; decide,?_⟩
    intro p7 n7
    generalize hH7:upd H6 p7 _=H7
    have S7:Same H6 H7:=by (rw [← hH7]; exact Same.new n7)
    have A7:=(congrFun hH7 p7).symm
    rw [upd_same] at A7
    clear hH7
    have T7:Same H H7:=T6.trans S7
    refine ⟨p5,p7,_,_,rfl,rfl,(S7 _ _ A6),A7,by show 14≤sizeLine; decide,?_⟩
    intro p8 n8
    generalize hH8:upd H7 p8 _=H8
    have S8:Same H7 H8:=by (rw [← hH8]; exact Same.new n8)
    have A8:=(congrFun hH8 p8).symm
    rw [upd_same] at A8
    clear hH8
    have T8:Same H H8:=T7.trans S8
    refine ⟨_,rfl,.inl ⟨rfl,_,SqL.of A8⟩,_,rfl,ea,C,_,_,rfl,(T8 _ _ hE),kk.lk,.inl ⟨_,rfl,kk.is 14 _ rfl⟩,p8,_,_,rfl,rfl,A8,by show 14 < sizeLine; decide,?_⟩
    generalize hH9:upd H8 p8 _=H9
    have K9:Keep p8 H8 H9:=by (rw [← hH9]; exact Keep.upd)
    have A9:=(congrFun hH9 p8).symm
    rw [upd_same] at A9
    clear hH9
    have T9:Same H H9:=fun b o e=>K9 b o (ne_of_none (T7 b o e) n8) (T8 b o e)
    refine ⟨_,rfl,_,rfl,ea,C,_,_,rfl,(T9 _ _ hE),kk.lk,.inl ⟨_,rfl,kk.is 15 _ rfl⟩,_,rfl,ea,C,_,_,rfl,(T9 _ _ hE),kk.lk,.inl ⟨_,rfl,kk.is 16 _ rfl⟩,_,rfl,ea,C,_,_,rfl,(T9 _ _ hE),kk.lk,.inl ⟨_,rfl,kk.is 17 _ rfl⟩,by show 3≤sizeLine; decide,?_⟩
    intro p10 n10
    generalize hH10:upd H9 p10 _=H10
    have S10:Same H9 H10:=by (rw [← hH10]; exact Same.new n10)
    have A10:=(congrFun hH10 p10).symm
    rw [upd_same] at A10
    clear hH10
    have T10:Same H H10:=T9.trans S10
    refine ⟨p8,p10,_,_,rfl,rfl,(S10 _ _ A9),A10,by show 18≤sizeLine; decide,?_⟩
    intro p11 n11
    generalize hH11:upd H10 p11 _=H11
    have S11:Same H10 H11:=by (rw [← hH11]; exact Same.new n11)
    have A11:=(congrFun hH11 p11).symm
    rw [upd_same] at A11
    clear hH11
    have T11:Same H H11:=T10.trans S11
    refine ⟨_,rfl,.inl ⟨rfl,_,SqL.of A11⟩,_,rfl,ea,C,_,_,rfl,(T11 _ _ hE),kk.lk,.inl ⟨_,rfl,kk.is 18 _ rfl⟩,p11,_,_,rfl,rfl,A11,by show 18 < sizeLine; decide,?_⟩
    generalize hH12:upd H11 p11 _=H12
    have K12:Keep p11 H11 H12:=by (rw [← hH12]; exact Keep.upd)
    have A12:=(congrFun hH12 p11).symm
    rw [upd_same] at A12
    clear hH12
    have T12:Same H H12:=fun b o e=>K12 b o (ne_of_none (T10 b o e) n11) (T11 b o e)
    refine ⟨_,rfl,_,rfl,ea,C,_,_,rfl,(T12 _ _ hE),kk.lk,.inl ⟨_,rfl,kk.is 19 _ rfl⟩,_,rfl,ea,C,_,_,rfl,(T12 _ _ hE),kk.lk,.inl ⟨_,rfl,kk.is 20 _ rfl⟩,_,rfl,ea,C,_,_,rfl,(T12 _ _ hE),kk.lk,.inl ⟨_,rfl,kk.is 21 _ rfl⟩,by show 3≤sizeLine; decide,?_⟩
    intro p13 n13
    generalize hH13:upd H12 p13 _=H13
    have S13:Same H12 H13:=by (rw [← hH13]; exact Same.new n13)
    have A13:=(congrFun hH13 p13).symm
    rw [upd_same] at A13
    clear hH13
    have T13:Same H H13:=T12.trans S13
    refine ⟨p11,p13,_,_,rfl,rfl,(S13 _ _ A12),A13,by show 22≤sizeLine; decide,?_⟩
    intro p14 n14
    generalize hH14:upd H13 p14 _=H14
    have S14:Same H13 H14:=by (rw [← hH14]; exact Same.new n14)
    have A14:=(congrFun hH14 p14).symm
    rw [upd_same] at A14
    clear hH14
    have T14:Same H H14:=T13.trans S14
    refine ⟨_,rfl,.inl ⟨rfl,_,SqL.of A14⟩,_,rfl,ea,C,_,_,rfl,(T14 _ _ hE),kk.lk,.inl ⟨_,rfl,kk.is 22 _ rfl⟩,p14,_,_,rfl,rfl,A14,by show 22 < sizeLine; decide,?_⟩
    generalize hH15:upd H14 p14 _=H15
    have K15:Keep p14 H14 H15:=by (rw [← hH15]; exact Keep.upd)
    have A15:=(congrFun hH15 p14).symm
    rw [upd_same] at A15
    clear hH15
    have T15:Same H H15:=fun b o e=>K15 b o (ne_of_none (T13 b o e) n14) (T14 b o e)
    refine ⟨_,rfl,_,rfl,ea,C,_,_,rfl,(T15 _ _ hE),kk.lk,.inl ⟨_,rfl,kk.is 23 _ rfl⟩,_,rfl,ea,C,_,_,rfl,(T15 _ _ hE),kk.lk,.inl ⟨_,rfl,kk.is 24 _ rfl⟩,_,rfl,ea,C,_,_,rfl,(T15 _ _ hE),kk.lk,.inl ⟨_,rfl,kk.is 25 _ rfl⟩,by show 3≤sizeLine; decide,?_⟩
    intro p16 n16
    generalize hH16:upd H15 p16 _=H16
    have S16:Same H15 H16:=by (rw [← hH16]; exact Same.new n16)
    have A16:=(congrFun hH16 p16).symm
    rw [upd_same] at A16
    clear hH16
    have T16:Same H H16:=T15.trans S16
    refine ⟨p14,p16,_,_,rfl,rfl,(S16 _ _ A15),A16,by show 26≤sizeLine; decide,?_⟩
    intro p17 n17
    generalize hH17:upd H16 p17 _=H17
    have S17:Same H16 H17:=by (rw [← hH17]; exact Same.new n17)
    have A17:=(congrFun hH17 p17).symm
    rw [upd_same] at A17
    clear hH17
    have T17:Same H H17:=T16.trans S17
    exact q _ _ T17 A17
abbrev s__law_word:Stmt:=top 56
theorem ok__law_word (F:Fun K "_law_word" "_law_word" s__law_word f fd) {cl:Str→Addr} (Z:Ek K mg cl) (H__law_marks:CalH P w K mg base "_law_marks" 1 ["_law_e"] (sp_marks K cl)):FnOkH P w K mg base 2 f fd ["_law_e"] (sp_word K cl):=by
 have sc:FnScope ["_law_e","_law_words_here","_law_marks_here","_law_word_here"] ["_law_e"] (defScope s__law_word):=fsc (by decide +kernel)
 refine F.okH sc (fun vs H Q E h=>?_) (fun cdv A outer s H vs Q hr h=>?_)
 · obtain ⟨ea,C,ix,rfl,_⟩:=h
   rfl
 · obtain ⟨ea,C,ix,rfl,hE,kk,hix,q⟩:=h
   have nd:=sc.nd
   have hu:=hu_ofH hr
   have hu1:=Nat.lt_of_succ_lt hu
   refine' ⟨_,?term,?read⟩
   case term =>
    refine' @L2.pss_cons _ _ _ _ _ ?g1 ?g2
    case g1 =>
     refine' @L2.ps_set _ _ (1) _ _ _ _ nd rfl (Or.inl rfl) ?g3 (by rfl) (by first | exact Or.inl rfl | exact Or.inr rfl | assumption)
     case g3 =>
      refine' @L2.pe_lst _ _ _ _ (pa_cons pe_str (pa_cons pe_str (pa_cons pe_str (pa_cons pe_str (pa_cons pe_str (pa_cons pe_str (pa_cons pe_str (pa_cons pe_str (pa_cons pe_str pa_nil rfl) rfl) rfl) rfl) rfl) rfl) rfl) rfl) rfl)
    case g2 =>
     refine' @L2.pss_cons _ _ _ _ _ ?g4 ?g5
     case g4 =>
      refine' @L2.ps_set _ _ (1) _ _ _ _ nd rfl (Or.inl rfl) ?g6 (by rfl) (by first | exact Or.inl rfl | exact Or.inr rfl | assumption)
      case g6 =>
       refine' @L2.pe_op _ _ _ _ _ _ _ _ op_cat (pv 1) ?g7
       case g7 =>
        refine' @L2.pe_lst _ _ _ _ (pa_cons pe_str (pa_cons pe_str pa_nil rfl) rfl)
     case g5 =>
      refine' @L2.pss_cons _ _ _ _ _ ?g8 ?g9
      case g8 =>
       refine' @L2.ps_set _ _ (1) _ _ _ _ nd rfl (Or.inl rfl) ?ga (by rfl) (by first | exact Or.inl rfl | exact Or.inr rfl | assumption)
       case ga =>
        refine' @L2.pe_op _ _ _ _ _ _ _ _ op_cat (pv 1) ?gb
        case gb =>
         refine' @L2.pe_lst _ _ _ _ (pa_cons pe_str (pa_cons pe_str (pa_cons pe_str (pa_cons pe_str (pa_cons pe_str (pa_cons pe_str (pa_cons pe_str (pa_cons pe_str pa_nil rfl) rfl) rfl) rfl) rfl) rfl) rfl) rfl)
      case g9 =>
       refine' @L2.pss_cons _ _ _ _ _ ?gc ?gd
       case gc =>
        refine' @L2.ps_set _ _ (1) _ _ _ _ nd rfl (Or.inl rfl) ?ge (by rfl) (by first | exact Or.inl rfl | exact Or.inr rfl | assumption)
        case ge =>
         refine' @L2.pe_op _ _ _ _ _ _ _ _ op_cat (pv 1) ?gf
         case gf =>
          refine' @L2.pe_lst _ _ _ _ (pa_cons pe_str (pa_cons pe_str pa_nil rfl) rfl)
       case gd =>
        refine' @L2.pss_cons _ _ _ _ _ ?gg ?gh
        case gg =>
         refine' @L2.ps_set _ _ (1) _ _ _ _ nd rfl (Or.inl rfl) ?gi (by rfl) (by first | exact Or.inl rfl | exact Or.inr rfl | assumption)
         case gi =>
          refine' @L2.pe_op _ _ _ _ _ _ _ _ op_cat (pv 1) ?gj
          case gj =>
           refine' @L2.pe_lst _ _ _ _ (pa_cons pe_str (pa_cons pe_str (pa_cons pe_str (pa_cons pe_str (pa_cons pe_str pa_nil rfl) rfl) rfl) rfl) rfl)
        case gh =>
         refine' @L2.pss_cons _ _ _ _ _ ?gk ?gl
         case gk =>
          refine' @L2.ps_set _ _ (2) _ _ _ _ nd rfl (Or.inl rfl) (pe_calH H__law_marks hr (by decide) rfl (pa_cons (pv 0) pa_nil rfl)) (by rfl) (by first | exact Or.inl rfl | exact Or.inr rfl | assumption)
         case gl =>
          refine' @L2.pss_cons _ _ _ _ _ ?gm ?gn
          case gm =>
           refine' @L2.ps_if _ _ _ _ _ _ _ _ ?go (pss_one (ps_ret (pe_tup (pa_cons pe_str pa_nil rfl)))) pss_nil
           case go =>
            refine' @L2.PW.pt _ _ _ ?gp
            case gp =>
             refine' @L2.pw_or _ _ _ _ _ _ _ ?gq ?gr
             case gq =>
              refine' @L2.pt_cmpR _ _ _ _ _ _ _ _ op_ne ?gs pe_int (nomark _)
              case gs =>
               refine' @L2.pe_bm _ _ _ _ _ _ _ _ _ _ _ _ PySem.F.plainAttrs_list PySem.F.slot_list_count PySem.F.type_list_count mt_countB (pv 2) (pa_cons pe_bl pa_nil rfl) (by rfl) (by rfl) (by rfl) (by rfl) (by rfl)
             case gr =>
              refine' @L2.pw_or1 _ _ _ _ ?gt
              case gt =>
               refine' @L2.pt_not _ _ _ _ ?gu
               case gu =>
                refine' @L2.pt_truth _ _ _ (pe_callB call_isiE rfl T.b_isinstance bb_isinstance (pa_cons (pv 0) (pa_cons (pe_bltn (v:=.ty "ValueError") rfl Z.vb bb_VE rfl) pa_nil rfl) rfl)) (fun _=>rfl)
          case gn =>
           refine' @L2.pss_cons _ _ _ _ _ ?gv ?gw
           case gv =>
            refine' @L2.ps_set _ _ (3) _ _ _ _ nd rfl (Or.inl rfl) ?gx (by rfl) (by first | exact Or.inl rfl | exact Or.inr rfl | assumption)
            case gx =>
             refine' @L2.pe_ix _ _ _ _ _ _ _ ix_list (pv 1) ?gy (fun _ _=>rfl)
             case gy =>
              refine' @L2.pe_bm _ _ _ _ _ _ _ _ _ _ _ _ PySem.F.plainAttrs_list PySem.F.slot_list_index PySem.F.type_list_index (mt_indexB hu) (pv 2) (pa_cons pe_bl pa_nil rfl) (by rfl) (by rfl) (by rfl) (by rfl) (by rfl)
           case gw =>
            refine' @L2.pss_cons _ _ _ _ _ ?gz ?g10
            case gz =>
             refine' @L2.ps_if _ _ _ _ _ _ _ _ (pt_cmpR op_eq (pv 3) pe_str (nomark _)) (pss_one (ps_ret pe_never)) pss_nil
            case g10 =>
             refine' @L2.pss_one _ _ _ ?g11
             case g11 =>
              refine' @L2.ps_ret _ _ _ _ ?g12
              case g12 =>
               refine' @L2.pe_ifExp _ _ _ _ _ _ _ _ (pt_cmpR op_eq (pv 3) pe_str (nomark _)) pe_never (pe_tup (pa_cons (pv 3) pa_nil rfl))
   case read =>
    refine ⟨by show 9≤sizeLine; decide,?_⟩
    intro p1 n1
    generalize hH1:upd H p1 _=H1
    have S1:Same H H1:=by (rw [← hH1]; exact Same.new n1)
    have A1:=(congrFun hH1 p1).symm
    rw [upd_same] at A1
    clear hH1
    have T1:Same H H1:=(Same.refl H).trans S1
    refine ⟨_,rfl,by show 2≤sizeLine; decide,?_⟩
    intro p2 n2
    generalize hH2:upd H1 p2 _=H2
    have S2:Same H1 H2:=by (rw [← hH2]; exact Same.new n2)
    have A2:=(congrFun hH2 p2).symm
    rw [upd_same] at A2
    clear hH2
    have T2:Same H H2:=T1.trans S2
    refine ⟨p1,p2,_,_,rfl,rfl,(S2 _ _ A1),A2,by show 11≤sizeLine; decide,?_⟩
    intro p3 n3
    generalize hH3:upd H2 p3 _=H3
    have S3:Same H2 H3:=by (rw [← hH3]; exact Same.new n3)
    have A3:=(congrFun hH3 p3).symm
    rw [upd_same] at A3
    clear hH3
    have T3:Same H H3:=T2.trans S3
    refine ⟨_,rfl,by show 8≤sizeLine; decide,?_⟩
    intro p4 n4
    generalize hH4:upd H3 p4 _=H4
    have S4:Same H3 H4:=by (rw [← hH4]; exact Same.new n4)
    have A4:=(congrFun hH4 p4).symm
    rw [upd_same] at A4
    clear hH4
    have T4:Same H H4:=T3.trans S4
    refine ⟨p3,p4,_,_,rfl,rfl,(S4 _ _ A3),A4,by show 19≤sizeLine; decide,?_⟩
    intro p5 n5
    generalize hH5:upd H4 p5 _=H5
    have S5:Same H4 H5:=by (rw [← hH5]; exact Same.new n5)
    have A5:=(congrFun hH5 p5).symm
    rw [upd_same] at A5
    clear hH5
    have T5:Same H H5:=T4.trans S5
    refine ⟨_,rfl,by show 2≤sizeLine; decide,?_⟩
    intro p6 n6
    generalize hH6:upd H5 p6 _=H6
    have S6:Same H5 H6:=by (rw [← hH6]; exact Same.new n6)
    have A6:=(congrFun hH6 p6).symm
    rw [upd_same] at A6
    clear hH6
    have T6:Same H H6:=T5.trans S6
    refine ⟨p5,p6,_,_,rfl,rfl,(S6 _ _ A5),A6,by show 21≤sizeLine; decide,?_⟩
    intro p7 n7
    generalize hH7:upd H6 p7 _=H7
    have S7:Same H6 H7:=by (rw [← hH7]; exact Same.new n7)
    have A7:=(congrFun hH7 p7).symm
    rw [upd_same] at A7
    clear hH7
    have T7:Same H H7:=T6.trans S7
    refine ⟨_,rfl,by show 5≤sizeLine; decide,?_⟩
    intro p8 n8
    generalize hH8:upd H7 p8 _=H8
    have S8:Same H7 H8:=by (rw [← hH8]; exact Same.new n8)
    have A8:=(congrFun hH8 p8).symm
    rw [upd_same] at A8
    clear hH8
    have T8:Same H H8:=T7.trans S8
    refine ⟨p7,p8,_,_,rfl,rfl,(S8 _ _ A7),A8,by show 26≤sizeLine; decide,?_⟩
    intro p9 n9
    generalize hH9:upd H8 p9 _=H9
    have S9:Same H8 H9:=by (rw [← hH9]; exact Same.new n9)
    have A9:=(congrFun hH9 p9).symm
    rw [upd_same] at A9
    clear hH9
    have T9:Same H H9:=T8.trans S9
    refine ⟨_,rfl,ea,C,ix,rfl,(T9 _ _ hE),kk,fun M HM sM aM=>?_⟩
    have cnt:(mk26 ix).countP (· == true)=1:=by rcases hix with rfl | rfl <;> rfl
    refine ⟨_,rfl,.inl ⟨rfl,_,SqL.of aM⟩,M,mk26 ix,true,rfl,rfl,aM,rfl,_,rfl,?_⟩
    rw [cnt]
    refine iteF ?_
    have eM:=sM _ _ (T9 _ _ hE)
    refine ⟨_,rfl,ea,C,_,true,rfl,eM,kk.lk,.inr ⟨_,rfl,kk.ve⟩,true,rfl,iteF ?_⟩
    have wL:=sM _ _ A9
    obtain ⟨h1,h2,h3⟩:(mk26 ix)[ix]? = some true∧(∀ m,m < ix→(mk26 ix)[m]?≠some true)∧ix < 26:=by
     rcases hix with rfl | rfl
     · exact ⟨rfl,by decide,by decide⟩
     · exact ⟨rfl,by decide,by decide⟩
    refine ⟨_,rfl,_,rfl,.inl ⟨rfl,_,SqL.of aM⟩,M,mk26 ix,ix,rfl,rfl,aM,h1,h2,by show 26≤1000; decide,?_⟩
    obtain ⟨w,hw,hm,ht,wq⟩:∃ w:Str,atI [V.str "balance",V.str "deed",V.str "deeds",V.str "firm",V.str "fraction",V.str "frame",V.str "holding",V.str "inner",V.str "line",V.str "loads",V.str "lot",V.str "motions",V.str "piece",V.str "plate",V.str "rest",V.str "rounds",V.str "rows",V.str "stresses",V.str "thick",V.str "turning",V.str "way",V.str "ways",V.str "whole",V.str "held",V.str "many",V.str "text"] ix=some (.str w)∧decide (V.str w=V.str "many")=false∧decide (V.str w=V.str "text")=false∧WRD.getD ix "" = w:=by
     rcases hix with rfl | rfl
     · exact ⟨_,rfl,by decide +kernel,by decide +kernel,rfl⟩
     · exact ⟨_,rfl,by decide +kernel,by decide +kernel,rfl⟩
    refine ⟨p9,_,ix,_,rfl,rfl,SqL.of wL,hw,?_⟩
    refine ⟨_,rfl,rfl,_,rfl,?_⟩
    rw [hm]
    refine iteF ?_
    refine ⟨_,rfl,rfl,_,rfl,?_⟩
    rw [ht]
    refine iteF ?_
    refine ⟨_,rfl,by show 1≤sizeLine; decide,fun T nT=>?_⟩
    rw [wq] at q
    exact q T _ (T9.trans (sM.trans (Same.new nT))) upd_same
abbrev s__law_said:Stmt:=top 57
theorem ok__law_said (F:Fun K "_law_said" "_law_said" s__law_said f fd) {cl:Str→Addr} (Z:Ek K mg cl) (H__law_word:CalH P w K mg base "_law_word" 2 ["_law_e"] (sp_word K cl)):FnOk P w K mg base CX0 9 f fd ["_law_call"] (sp_said P w K mg base cl):=by
 have sc:FnScope ["_law_call","_law_e"] ["_law_call"] (defScope s__law_said):=fsc (by decide +kernel)
 refine F.ok sc (fun vs H Q E h=>?_) (fun cdv A outer s H vs Q E hr h=>?_)
 · obtain ⟨a,sp,o,fd',rfl,_⟩:=h
   rfl
 · obtain ⟨a,sp,o,fd',rfl,ho,hf,L,mo,q⟩:=h
   have nd:=sc.nd
   have hu:=hu_of hr
   have hu1:=Nat.lt_of_succ_lt hu
   refine' ⟨_,?term,?read⟩
   case term =>
    refine' @L2.pss_one _ _ _ ?g1
    case g1 =>
     refine' @L2.ps_try _ _ _ _ _ _ 1 _ _ _ _ _ _ rfl rfl ?b ?h rfl Z.mpe nd rfl rfl (by decide)
     case b =>
      intro pins E
      refine' @L2.pss_one _ _ _ (ps_ret (pe_lst (pa_cons ?c pa_nil rfl)))
      case c =>
       refine' @L2.pe_callL _ 0 8 8 _ E _ _ P w K mg base ?n0 ?n1 ?n2 ?n3 ?n4 (Nat.le_refl _) ?n5 ?n6
       case n0=>exact ⟨rfl,rfl,rfl,rfl,rfl⟩
       case n1=>rfl
       case n2=>exact Or.inl rfl
       case n3=>exact passesT rfl
       case n4=>exact hr
       case n5=>decide
       case n6=>decide
     case h =>
      intro ea
      refine' @L2.pss_one _ _ _ (ps_ret ?d)
      case d=>exact pe_calH H__law_word (hr.marked _) (by decide) rfl (pa_cons (pv 1) pa_nil rfl)
   case read =>
    refine ⟨a,sp,o,fd',rfl,ho,hf,L,mo _ _ _ _ _ (fun v H1 hq=>⟨by show 1≤sizeLine; decide,hq⟩) (fun c a' H1 hq=>?_) q⟩
    obtain ⟨C,ix,rfl,kk,hix,hq⟩:=hq
    refine ⟨C,rfl,kk.pe,fun σ ea hl ne=>?_⟩
    obtain ⟨u1,u2,rfl⟩:∃ u1 u2,σ=[u1,u2]:=by
     match σ,hl with
     | [u1,u2],_=>exact ⟨u1,u2,rfl⟩
    exact ⟨_,rfl,ea,C,ix,rfl,upd_same,kk,hix,fun T H2 s2 hT=>hq T H2 ((Same.new ne).trans s2) hT⟩
abbrev s__law_words:Stmt:=top 61
theorem ok__law_words (F:Fun K "_law_words" "_law_words" s__law_words f fd) {cl:Str→Addr} (Z:Ek K mg cl) {cc Pw:Addr} (hcd:fd.code=.ref cc) (CK:∀ h,K.In h→PySem.W.CodeHd h cc Pw) (BK:BltK K mg) (X_plus:CalX P w K mg base "plus" 6 ["one","other"] (sp_opX (cl "NoFraction") gB)) (X_minus:CalX P w K mg base "minus" 6 ["one","other"] (sp_opX (cl "NoFraction") gB)) (X_times:CalX P w K mg base "times" 6 ["one","other"] (sp_opX (cl "NoFraction") gB)) (X_less:CalX P w K mg base "less" 6 ["one","other"] (sp_opX (cl "NoFraction") gB)) (X_over:CalX P w K mg base "over" 6 ["one","other"] (sp_opX (cl "NoFraction") gO)) (C__law_said:Cal P w K mg base "_law_said" 9 ["_law_call"] (sp_said P w K mg base cl)):FnOk P w K mg base CX0 10 f fd ["_law_one","_law_other"] (sp_words Pw):=by
 have sc:FnScope ["_law_one","_law_other","_law_calls","_law_found"] ["_law_one","_law_other"] (defScope s__law_words):=fsc (by decide +kernel)
 refine F.okC sc (fun vs H Q E h=>?_) (fun cdv ecd A outer s H vs Q E hr h=>?_)
 · obtain ⟨N,k,v,u,d1,d2,rfl,_⟩:=h
   rfl
 · obtain ⟨N,k,v,u,d1,d2,rfl,k1,k2,hk,tb,q⟩:=h
   have nd:=sc.nd
   have hu:=hu_of hr
   have hu1:=Nat.lt_of_succ_lt hu
   refine' ⟨_,?term,?read⟩
   case term =>
    refine' @L2.pss_cons _ _ _ _ _ ?g1 ?g2
    case g1 =>
     refine' @L2.ps_set _ _ (2) _ _ _ _ nd rfl (Or.inl rfl) ?g3 (by rfl) (by first | exact Or.inl rfl | exact Or.inr rfl | assumption)
     case g3 =>
      refine' @L2.pe_lst _ _ _ _ (pa_cons (pe_lam (cc:=cc) (P:=Pw) (q := "_law_words.<locals>.<lambda>") rfl rfl (ecd.symm.trans hcd) rfl CK BK) pa_nil rfl)
    case g2 =>
     refine' @L2.pss_cons _ _ _ _ _ ?g4 ?g5
     case g4 =>
      refine' @L2.ps_expr _ _ _ _ ?g6 (by rfl)
      case g6 =>
       refine' @L2.pe_bm _ _ _ _ _ _ _ _ _ _ _ _ PySem.F.plainAttrs_list PySem.F.slot_list_append PySem.F.type_list_append mt_append (pv 2) (pa_cons (pe_lam (cc:=cc) (P:=Pw) (q := "_law_words.<locals>.<lambda>") rfl rfl (ecd.symm.trans hcd) rfl CK BK) pa_nil rfl) (by rfl) (by rfl) (by rfl) (by rfl) (by rfl)
     case g5 =>
      refine' @L2.pss_cons _ _ _ _ _ ?g7 ?g8
      case g7 =>
       refine' @L2.ps_expr _ _ _ _ ?g9 (by rfl)
       case g9 =>
        refine' @L2.pe_bm _ _ _ _ _ _ _ _ _ _ _ _ PySem.F.plainAttrs_list PySem.F.slot_list_append PySem.F.type_list_append mt_append (pv 2) (pa_cons (pe_lam (cc:=cc) (P:=Pw) (q := "_law_words.<locals>.<lambda>") rfl rfl (ecd.symm.trans hcd) rfl CK BK) pa_nil rfl) (by rfl) (by rfl) (by rfl) (by rfl) (by rfl)
      case g8 =>
       refine' @L2.pss_cons _ _ _ _ _ ?ga ?gb
       case ga =>
        refine' @L2.ps_expr _ _ _ _ ?gc (by rfl)
        case gc =>
         refine' @L2.pe_bm _ _ _ _ _ _ _ _ _ _ _ _ PySem.F.plainAttrs_list PySem.F.slot_list_append PySem.F.type_list_append mt_append (pv 2) (pa_cons (pe_lam (cc:=cc) (P:=Pw) (q := "_law_words.<locals>.<lambda>") rfl rfl (ecd.symm.trans hcd) rfl CK BK) pa_nil rfl) (by rfl) (by rfl) (by rfl) (by rfl) (by rfl)
       case gb =>
        refine' @L2.pss_cons _ _ _ _ _ ?gd ?ge
        case gd =>
         refine' @L2.ps_expr _ _ _ _ ?gf (by rfl)
         case gf =>
          refine' @L2.pe_bm _ _ _ _ _ _ _ _ _ _ _ _ PySem.F.plainAttrs_list PySem.F.slot_list_append PySem.F.type_list_append mt_append (pv 2) (pa_cons (pe_lam (cc:=cc) (P:=Pw) (q := "_law_words.<locals>.<lambda>") rfl rfl (ecd.symm.trans hcd) rfl CK BK) pa_nil rfl) (by rfl) (by rfl) (by rfl) (by rfl) (by rfl)
        case ge =>
         refine' @L2.pss_cons _ _ _ _ _ (ps_fix (i:=0) rfl rfl rfl rfl (ps_fix (i:=1) rfl rfl rfl rfl (ps_lcS (N:=["_law_call"]) (fr:=[none]) rfl rfl (pg_name (i:=3) nd rfl (Or.inl rfl)) (lcs_plain (by decide) rfl (by decide) rfl rfl) (pi_list (pv 2)) (fun _ _ _ _=>(pg_name (i:=0) (show List.Nodup (["_law_call"]:List Str) by decide) rfl (Or.inl rfl) (Or.inr rfl))) (fun _ _ _ _=>pifs_nil) (fun _ _ _ _=>(pe_cal C__law_said hr (by decide) rfl (pa_cons (pv 0) pa_nil rfl)))))) ?gg
         case gg =>
          refine' @L2.pss_one _ _ _ ?gh
          case gh =>
           refine' @L2.ps_ret _ _ _ _ ?gi
           case gi =>
            refine' @L2.pe_lc _ _ _ _ _ _ _ (["_law_said_here"]) ([none]) _ _ _ _ _ rfl (lcs_plain (by decide) rfl (by decide) rfl rfl) (pi_list (pv 3)) (fun _ _ _ _=>(pg_name (i:=0) (show List.Nodup (["_law_said_here"]:List Str) by decide) rfl (Or.inl rfl) (Or.inr rfl))) (fun _ _ _ _=>pifs_nil) (fun _ _ _ _=>(pe_isl K 0 rfl rfl (Or.inl rfl) rfl T.b_isinstance bb_isinstance rfl T.b_list bb_list (by decide) (by decide))) (by intro _ ; rfl)
   case read =>
    refine ⟨tb,fun a1 H1 kp1 tb1 na1 nP1 l1=>?_⟩
    refine ⟨by show 1≤sizeLine; decide,fun L nL=>?_⟩
    generalize hG:upd H1 L (.lst [.ref a1])=G1
    have e1:G1 L=some (.lst [.ref a1]):=by (rw [← hG]; exact upd_same)
    have s1:Same H1 G1:=by (rw [← hG]; exact Same.new nL)
    clear hG
    replace l1:=l1.same s1
    replace tb1:=tb1.same s1
    have K1:KeepP Pw H G1:=fun b o n e=>s1 _ _ (kp1 b o n e)
    have nLH:∀ b o,b≠Pw→H b=some o→b≠L:=fun b o n e=>ne_of_none (kp1 b o n e) nL
    refine ⟨_,rfl,.inl ⟨rfl,_,SqL.of e1⟩,tb1,fun a2 F2 kp2 tq2 na2 nP2 l2=>?_⟩
    have nLP2:L≠Pw:=fun z=>by (obtain ⟨ps,h,_⟩:=tb1; rw [z,h] at e1; cases e1)
    have f2:=kp2 _ _ nLP2 e1
    replace l1:=l1.keepP tb1 kp2
    refine ⟨L,_,_,rfl,rfl,f2,by show 1 < sizeLine; decide,?_⟩
    generalize hG:upd F2 L (.lst ([.ref a1]++[.ref a2]))=G2
    have e2:G2 L=some (.lst [.ref a1,.ref a2]):=by (rw [← hG]; exact upd_same)
    have kL2:Keep L F2 G2:=by (rw [← hG]; exact Keep.upd)
    clear hG
    replace l1:=l1.keepL f2 kL2
    replace l2:=l2.keepL f2 kL2
    have tb2:=tq2.keepL f2 kL2
    have K2:KeepP Pw H G2:=fun b o n e=>kL2 _ _ (nLH b o n e) (kp2 _ _ n (K1 b o n e))
    refine ⟨_,rfl,.inl ⟨rfl,_,SqL.of e2⟩,tb2,fun a3 F3 kp3 tq3 na3 nP3 l3=>?_⟩
    have nLP3:L≠Pw:=fun z=>by (obtain ⟨ps,h,_⟩:=tb2; rw [z,h] at e2; cases e2)
    have f3:=kp3 _ _ nLP3 e2
    replace l1:=l1.keepP tb2 kp3
    replace l2:=l2.keepP tb2 kp3
    refine ⟨L,_,_,rfl,rfl,f3,by show 2 < sizeLine; decide,?_⟩
    generalize hG:upd F3 L (.lst ([.ref a1,.ref a2]++[.ref a3]))=G3
    have e3:G3 L=some (.lst [.ref a1,.ref a2,.ref a3]):=by (rw [← hG]; exact upd_same)
    have kL3:Keep L F3 G3:=by (rw [← hG]; exact Keep.upd)
    clear hG
    replace l1:=l1.keepL f3 kL3
    replace l2:=l2.keepL f3 kL3
    replace l3:=l3.keepL f3 kL3
    have tb3:=tq3.keepL f3 kL3
    have K3:KeepP Pw H G3:=fun b o n e=>kL3 _ _ (nLH b o n e) (kp3 _ _ n (K2 b o n e))
    refine ⟨_,rfl,.inl ⟨rfl,_,SqL.of e3⟩,tb3,fun a4 F4 kp4 tq4 na4 nP4 l4=>?_⟩
    have nLP4:L≠Pw:=fun z=>by (obtain ⟨ps,h,_⟩:=tb3; rw [z,h] at e3; cases e3)
    have f4:=kp4 _ _ nLP4 e3
    replace l1:=l1.keepP tb3 kp4
    replace l2:=l2.keepP tb3 kp4
    replace l3:=l3.keepP tb3 kp4
    refine ⟨L,_,_,rfl,rfl,f4,by show 3 < sizeLine; decide,?_⟩
    generalize hG:upd F4 L (.lst ([.ref a1,.ref a2,.ref a3]++[.ref a4]))=G4
    have e4:G4 L=some (.lst [.ref a1,.ref a2,.ref a3,.ref a4]):=by (rw [← hG]; exact upd_same)
    have kL4:Keep L F4 G4:=by (rw [← hG]; exact Keep.upd)
    clear hG
    replace l1:=l1.keepL f4 kL4
    replace l2:=l2.keepL f4 kL4
    replace l3:=l3.keepL f4 kL4
    replace l4:=l4.keepL f4 kL4
    have tb4:=tq4.keepL f4 kL4
    have K4:KeepP Pw H G4:=fun b o n e=>kL4 _ _ (nLH b o n e) (kp4 _ _ n (K3 b o n e))
    refine ⟨_,rfl,.inl ⟨rfl,_,SqL.of e4⟩,tb4,fun a5 F5 kp5 tq5 na5 nP5 l5=>?_⟩
    have nLP5:L≠Pw:=fun z=>by (obtain ⟨ps,h,_⟩:=tb4; rw [z,h] at e4; cases e4)
    have f5:=kp5 _ _ nLP5 e4
    replace l1:=l1.keepP tb4 kp5
    replace l2:=l2.keepP tb4 kp5
    replace l3:=l3.keepP tb4 kp5
    replace l4:=l4.keepP tb4 kp5
    refine ⟨L,_,_,rfl,rfl,f5,by show 4 < sizeLine; decide,?_⟩
    generalize hG:upd F5 L (.lst ([.ref a1,.ref a2,.ref a3,.ref a4]++[.ref a5]))=G5
    have e5:G5 L=some (.lst [.ref a1,.ref a2,.ref a3,.ref a4,.ref a5]):=by (rw [← hG]; exact upd_same)
    have kL5:Keep L F5 G5:=by (rw [← hG]; exact Keep.upd)
    clear hG
    replace l1:=l1.keepL f5 kL5
    replace l2:=l2.keepL f5 kL5
    replace l3:=l3.keepL f5 kL5
    replace l4:=l4.keepL f5 kL5
    replace l5:=l5.keepL f5 kL5
    have tb5:=tq5.keepL f5 kL5
    have K5:KeepP Pw H G5:=fun b o n e=>kL5 _ _ (nLH b o n e) (kp5 _ _ n (K4 b o n e))
    have k1':=k1.keepT tb K5
    have k2':=k2.keepT tb K5
    refine ⟨_,rfl,fun o1 u1 hd1 r1 nc1=>⟨_,rfl,fun o2 u2 hd2 r2 nc2=>?_⟩⟩
    have c12:s.heap.objs.size+1≠s.heap.objs.size+1+1:=Nat.ne_of_lt (Nat.lt_succ_self _)
    generalize hc1:s.heap.objs.size+1=c1 at *
    generalize hc2:c1+1=c2 at *
    have nc2':G5 c2=none:=by rw [upd_ne (Ne.symm c12)] at nc2; exact nc2
    have sF:Same G5 (upd (upd G5 c1 (fzO o1)) c2 (fzO o2)):=(Same.new nc1).trans (Same.new nc2)
    have z1:upd (upd G5 c1 (fzO o1)) c2 (fzO o2) c1=some (fzO o1):=by rw [upd_ne c12]; exact upd_same
    have z2:upd (upd G5 c1 (fzO o1)) c2 (fzO o2) c2=some (fzO o2):=upd_same
    generalize upd (upd G5 c1 (fzO o1)) c2 (fzO o2)=GF at sF z1 z2 ⊢
    refine ⟨_,rfl,L,rfl,⟨_,SqL.of (sF _ _ e5)⟩,fun D nD=>?_⟩
    refine lc_U (k:=.l) (vs:=[.ref a1,.ref a2,.ref a3,.ref a4,.ref a5]) (SaidR D "fraction") SaidR.keep (gs5 d1 d2) rfl (by show 5≤1000; decide) nD (sF _ _ e5) (fun i x H2 C hx s2 eD c=>?_) (fun H2 us s2 eD al=>?_)
    · obtain ⟨ws,eD⟩:=eD
      have S2:=sF.trans s2
      have dv:=k1'.same S2
      have du:=k2'.same S2
      have cf1:CellF H2 c1 v:=⟨o1,u1,s2 _ _ z1,hd1,r1⟩
      have cf2:CellF H2 c2 u:=⟨o2,u2,s2 _ _ z2,hd2,r2⟩
      have fin:∀ b,(gs5 d1 d2)[i]? = some b→(if b=true then ∀ r H',Same H2 H'→∀ M,H' M=none→C (.ref M) (upd H' M (.lst [r])) else ∃ C' ix,Value.ref (cl "NoFraction")=.ref C'∧Kind K cl C' ix∧(ix=4∨ix=22)∧∀ T H3,Same H2 H3→H3 T=some (.tup [.str (WRD.getD ix "")])→C (.ref T) H3):=fun b eb=>by
       cases b with
       | true=>exact iteT fun r H' s' M nM=>c _ _ true (s'.trans (Same.new nM)) eb ⟨fun _=>⟨M,_,rfl,ne_of_none' (s' _ _ eD) nM,upd_same⟩,fun z=>(nomatch z)⟩
       | false=>exact iteF ⟨_,4,rfl,Z.fr,.inl rfl,fun T H3 s3 hT=>c _ _ false s3 eb ⟨fun z=>(nomatch z),fun _=>⟨T,rfl,ne_of hT (s3 _ _ eD) (by intro z; cases z),hT⟩⟩⟩
      match i,hx with
      | 0,hx =>
        cases (show .ref a1=x by simpa using hx)
        have lm:=l1.same S2
        obtain ⟨dd,ct,hA,cf⟩:=id lm
        exact ⟨_,rfl,a1,_,_,_,rfl,hA,rfl,lamOp X_plus c12 (fun _ _ _=>rfl) (by decide),spOp_mono,lm,v,u,cf1,cf2,N,k,v,u,d1,d2,rfl,dv,du,hk,fin _ rfl⟩
      | 1,hx =>
        cases (show .ref a2=x by simpa using hx)
        have lm:=l2.same S2
        obtain ⟨dd,ct,hA,cf⟩:=id lm
        exact ⟨_,rfl,a2,_,_,_,rfl,hA,rfl,lamOp X_minus c12 (fun _ _ _=>rfl) (by decide),spOp_mono,lm,v,u,cf1,cf2,N,k,v,u,d1,d2,rfl,dv,du,hk,fin _ rfl⟩
      | 2,hx =>
        cases (show .ref a3=x by simpa using hx)
        have lm:=l3.same S2
        obtain ⟨dd,ct,hA,cf⟩:=id lm
        exact ⟨_,rfl,a3,_,_,_,rfl,hA,rfl,lamOp X_times c12 (fun _ _ _=>rfl) (by decide),spOp_mono,lm,v,u,cf1,cf2,N,k,v,u,d1,d2,rfl,dv,du,hk,fin _ rfl⟩
      | 3,hx =>
        cases (show .ref a4=x by simpa using hx)
        have lm:=l4.same S2
        obtain ⟨dd,ct,hA,cf⟩:=id lm
        exact ⟨_,rfl,a4,_,_,_,rfl,hA,rfl,lamOp X_less c12 (fun _ _ _=>rfl) (by decide),spOp_mono,lm,v,u,cf1,cf2,N,k,v,u,d1,d2,rfl,dv,du,hk,fin _ rfl⟩
      | 4,hx =>
        cases (show .ref a5=x by simpa using hx)
        have lm:=l5.same S2
        obtain ⟨dd,ct,hA,cf⟩:=id lm
        exact ⟨_,rfl,a5,_,_,_,rfl,hA,rfl,lamOp X_over c12 (fun _ _ _=>rfl) (by decide),spOp_mono,lm,v,u,cf1,cf2,N,k,v,u,d1,d2,rfl,dv,du,hk,fin _ rfl⟩
      | n+5,hx=>simp at hx
    have S2:=sF.trans s2
    have y1:=s2 _ _ z1
    have y2:=s2 _ _ z2
    have dS:Same G5 (del (del H2 c2) c1):=fun b o e=>by
     have n1:b≠c1:=ne_of_none e nc1
     have n2:b≠c2:=ne_of_none e nc2'
     rw [del_ne n1,del_ne n2]; exact S2 b o e
    have tbF:TabF (del (del H2 c2) c1) Pw "_law_words.<locals>.<lambda>" := tb5.same dS
    have dk:∀ b o,(∀ o',o≠fzO o')→H2 b=some o→del (del H2 c2) c1 b=some o:=fun b o n e=>by
     rw [del_ne fun z=>by rw [z,y1] at e; exact n _ (Option.some.inj e).symm,del_ne fun z=>by rw [z,y2] at e; exact n _ (Option.some.inj e).symm]; exact e
    have eD5:=dk _ _ (by intro o' z; cases z) eD
    have al5:Al (SaidR D "fraction" (del (del H2 c2) c1)) us (gs5 d1 d2):=al.imp fun v b x=>⟨fun z=>(let ⟨M,xs,e,n,h⟩:=x.1 z; ⟨M,xs,e,n,dk _ _ (by intro o' z; cases z) h⟩),fun z=>(let ⟨T,e,n,h⟩:=x.2 z; ⟨T,e,n,dk _ _ (by intro o' z; cases z) h⟩)⟩
    have KF:KeepP Pw H (del (del H2 c2) c1):=fun b o n e=>dS _ _ (K5 b o n e)
    have ulen:us.length=5:=al5.1
    refine ⟨_,rfl,D,rfl,⟨_,SqL.of eD5⟩,fun D2 nD2=>?_⟩
    refine lc_T (k:=.l) (vs:=us) IsOw (fun _ _ _ _ t x=>IsOw.tk t x) ((gs5 d1 d2).map ow) (by rw [ulen]; rfl) (by omega) nD2 eD5 (fun i x H6 C hx s6 c=>?_) (fun H6 us6 s6 e6 al6=>?_)
    · obtain ⟨b,eb,hb⟩:=al5.get hx
      have eo:((gs5 d1 d2).map ow)[i]? = some (ow b):=by rw [List.getElem?_map,eb]; rfl
      cases b with
      | true =>
        obtain ⟨M,xs,rfl,_,h⟩:=hb.1 rfl
        exact ⟨_,_,true,rfl,TyOf.lst (s6 _ _ h),rfl,c _ _ _ (Same.refl _) eo (.inl ⟨rfl,rfl⟩)⟩
      | false =>
        obtain ⟨T,rfl,_,h⟩:=hb.2 rfl
        exact ⟨_,_,false,rfl,TyOf.tup (s6 _ _ h),rfl,c _ _ _ (Same.refl _) eo (.inr ⟨T,_,rfl,s6 _ _ h,rfl⟩)⟩
    exact q D2 H6 us6 (fun b o n e=>s6 _ _ (KF b o n e)) (tbF.same s6) e6 al6
abbrev s_law:Stmt:=top 62
theorem ok_law (F:Fun K "law" "law" s_law f fd) {cl:Str→Addr} (Z:Ek K mg cl) {cc Pl Pw:Addr} (hcd:fd.code=.ref cc) (CK:∀ h,K.In h→PySem.W.CodeHd h cc Pl) (BK:BltK K mg) (X_made:CalX P w K mg base "made" 4 ["top","bottom"] (sp_madeX (cl "NoWhole"))) (Y_made:CalXD P w K mg base "made" 4 ["top","bottom"] [.int 1] (sp_madeX (cl "NoWhole"))) (C__law_bent1:Cal P w K mg base "_law_bent" 4 ["_law_state_here","_law_thing"] (sp_bent 1)) (C__law_fraction:Cal P w K mg base "_law_fraction" 2 ["_law_state_here"] (sp_drawn 60)) (C__law_is_fraction:Cal P w K mg base "_law_is_fraction" 2 ["_law_thing"] sp_lawfr) (C__law_odd:Cal P w K mg base "_law_odd" 2 ["_law_state_here"] sp_odd) (C__law_said:Cal P w K mg base "_law_said" 9 ["_law_call"] (sp_said P w K mg base cl)) (C__law_state:Cal P w K mg base "_law_state" 2 ["_law_script","_law_k"] (sp_state K)) (C__law_words:Cal P w K mg base "_law_words" 10 ["_law_one","_law_other"] (sp_words Pw)):FnOk P w K mg base CX0 11 f fd ["_law_script"] (sp_law K Pw Pl):=by
 have sc:FnScope ["_law_script","_law_k","_law_state_here","_law_good","_law_bads","_law_bad","_law_kept","_law_due"] ["_law_script"] (defScope s_law):=fsc (by decide +kernel)
 refine F.okC sc (fun vs H Q E h=>?_) (fun cdv ecd A outer s H vs Q E hr h=>?_)
 · obtain ⟨a,ns,rfl,_⟩:=h
   rfl
 · obtain ⟨a,ns,rfl,hS,hlen,nPP,tw,tl,q⟩:=h
   have nd:=sc.nd
   have hu:=hu_of hr
   have hu1:=Nat.lt_of_succ_lt hu
   refine' ⟨_,?term,?read⟩
   case term =>
    refine' @L2.pss_cons _ _ _ _ _ ?g1 (pss_one (ps_ret pe_bl))
    case g1 =>
     refine' @L2.ps_for _ _ _ _ _ _ _ _ PassesOwn.never rfl ?g2 (pg_name (i:=1) nd rfl (Or.inl rfl)) ?g3 (by intro _ ; rfl)
     case g2 =>
      refine' @L2.pi_range1 _ _ _ _ _ _ rfl T.b_range (pa_cons (pe_callB (call_max2 rfl) rfl T.b_max bb_max (pa_cons pe_int (pa_cons (pe_callB (call_min2 rfl) rfl T.b_min bb_min (pa_cons (pe_callB call_len_seq rfl T.b_len bb_len (pa_cons (pv 0) pa_nil rfl)) (pa_cons pe_int pa_nil rfl) rfl)) pa_nil rfl) rfl)) pa_nil rfl) (by rfl)
     case g3 =>
      refine' @L2.pss_cons _ _ _ _ _ ?g4 ?g5
      case g4 =>
       refine' @L2.ps_set _ _ (2) _ _ _ _ nd rfl (Or.inl rfl) (pe_cal C__law_state hr (by decide) rfl (pa_cons (pv 0) (pa_cons (pv 1) pa_nil rfl) rfl)) (by rfl) (by first | exact Or.inl rfl | exact Or.inr rfl | assumption)
      case g5 =>
       refine' @L2.pss_cons _ _ _ _ _ ?g6 ?g7
       case g6 =>
        refine' @L2.ps_set _ _ (3) _ _ _ _ nd rfl (Or.inl rfl) (pe_cal C__law_fraction hr (by decide) rfl (pa_cons (pv 2) pa_nil rfl)) (by rfl) (by first | exact Or.inl rfl | exact Or.inr rfl | assumption)
       case g7 =>
        refine' @L2.pss_cons _ _ _ _ _ ?g8 ?g9
        case g8 =>
         refine' @L2.ps_set _ _ (4) _ _ _ _ nd rfl (Or.inl rfl) ?ga (by rfl) (by first | exact Or.inl rfl | exact Or.inr rfl | assumption)
         case ga =>
          refine' @L2.pe_lst _ _ _ _ ?gb
          case gb =>
           refine' @L2.pa_cons _ _ _ _ _ (pe_tup (pa_cons pe_int (pa_cons pe_int pa_nil rfl) rfl)) ?gc rfl
           case gc =>
            refine' @L2.pa_cons _ _ _ _ _ (pe_tup (pa_cons pe_int (pa_cons pe_int pa_nil rfl) rfl)) ?gd rfl
            case gd =>
             refine' @L2.pa_cons _ _ _ _ _ (pe_tup (pa_cons pe_int (pa_cons pe_int pa_nil rfl) rfl)) ?ge rfl
             case ge =>
              refine' @L2.pa_cons _ _ _ _ _ (pe_tup (pa_cons pe_int (pa_cons (pe_un un_neg pe_int) pa_nil rfl) rfl)) ?gf rfl
              case gf =>
               refine' @L2.pa_cons _ _ _ _ _ (pe_tup (pa_cons pe_bl (pa_cons pe_int pa_nil rfl) rfl)) ?gg rfl
               case gg =>
                refine' @L2.pa_cons _ _ _ _ _ (pe_tup (pa_cons pe_int (pa_cons pe_bl pa_nil rfl) rfl)) ?gh rfl
                case gh =>
                 refine' @L2.pa_cons _ _ _ _ _ ?gi (pa_cons pe_int (pa_cons pe_non (pa_cons pe_str pa_nil rfl) rfl) rfl) rfl
                 case gi =>
                  refine' @L2.pe_lstN _ _ _ _ (pa_cons pe_int (pa_cons pe_int pa_nil rfl) rfl)
        case g9 =>
         refine' @L2.pss_cons _ _ _ _ _ ?gj ?gk
         case gj =>
          refine' @L2.ps_set _ _ (4) _ _ _ _ nd rfl (Or.inl rfl) ?gl (by rfl) (by first | exact Or.inl rfl | exact Or.inr rfl | assumption)
          case gl =>
           refine' @L2.pe_op _ _ _ _ _ _ _ _ op_cat (pv 4) ?gm
           case gm =>
            refine' @L2.pe_lst _ _ _ _ (pa_cons (pe_tup (pa_cons pe_int (pa_cons pe_int (pa_cons pe_int pa_nil rfl) rfl) rfl)) (pa_cons (pe_tup (pa_cons pe_int pa_nil rfl)) (pa_cons (pe_tup (pa_cons (pe_tup (pa_cons pe_int (pa_cons pe_int pa_nil rfl) rfl)) pa_nil rfl)) pa_nil rfl) rfl) rfl)
         case gk =>
          refine' @L2.pss_cons _ _ _ _ _ ?gn ?go
          case gn =>
           refine' @L2.ps_set _ _ (4) _ _ _ _ nd rfl (Or.inl rfl) ?gp (by rfl) (by first | exact Or.inl rfl | exact Or.inr rfl | assumption)
           case gp =>
            refine' @L2.pe_op _ _ _ _ _ _ _ _ op_cat (pv 4) ?gq
            case gq =>
             refine' @L2.pe_lst _ _ _ _ (pa_cons (pe_cal C__law_odd hr (by decide) rfl (pa_cons (pv 2) pa_nil rfl)) (pa_cons (pe_cal C__law_bent1 hr (by decide) rfl (pa_cons (pv 2) (pa_cons (pv 3) pa_nil rfl) rfl)) pa_nil rfl) rfl)
          case go =>
           refine' @L2.pss_cons _ _ _ _ _ ?gr ?gs
           case gr =>
            refine' @L2.ps_for _ _ _ _ _ _ _ _ PassesOwn.never rfl (pi_list (pv 4)) (pg_name (i:=5) nd rfl (Or.inr rfl)) ?gt (by intro _ ; rfl)
            case gt =>
             refine' @L2.pss_cons _ _ _ _ _ ?gu ?gv
             case gu =>
              refine' @L2.ps_set _ _ (6) _ _ _ _ nd rfl (Or.inl rfl) (pe_callB (call_reprD hr) rfl T.b_repr bb_repr (pa_cons (pe_tup (pa_cons (pv 5) (pa_cons (pv 3) pa_nil rfl) rfl)) pa_nil rfl)) (by rfl) (by first | exact Or.inl rfl | exact Or.inr rfl | assumption)
             case gv =>
              refine' @L2.pss_cons _ _ _ _ _ ?gw ?gx
              case gw =>
               refine' @L2.ps_set _ _ (7) _ _ _ _ nd rfl (Or.inl rfl) ?gy (by rfl) (by first | exact Or.inl rfl | exact Or.inr rfl | assumption)
               case gy =>
                refine' @L2.pe_op _ _ _ _ _ _ _ _ op_rep ?gz pe_int
                case gz =>
                 refine' @L2.pe_lst _ _ _ _ (pa_cons pe_non pa_nil rfl)
              case gx =>
               refine' @L2.pss_cons _ _ _ _ _ ?g10 ?g11
               case g10 =>
                refine' @L2.ps_if _ _ _ _ _ _ _ _ ?g12 ?g13 ?g14
                case g12 =>
                 refine' @L2.pt_not _ _ _ _ ?g15
                 case g15 =>
                  refine' @L2.pt_truth _ _ _ (pe_cal C__law_is_fraction hr (by decide) rfl (pa_cons (pv 5) pa_nil rfl)) (fun _=>rfl)
                case g13 =>
                 refine' @L2.pss_one _ _ _ ?g16
                 case g16 =>
                  refine' @L2.ps_set _ _ (7) _ _ _ _ nd rfl (Or.inl rfl) ?g17 (by rfl) (by first | exact Or.inl rfl | exact Or.inr rfl | assumption)
                  case g17 =>
                   refine' @L2.pe_op _ _ _ _ _ _ _ _ op_rep ?g18 pe_int
                   case g18 =>
                    refine' @L2.pe_lst _ _ _ _ (pa_cons (pe_tup (pa_cons pe_str pa_nil rfl)) pa_nil rfl)
                case g14 =>
                 refine' @L2.pss_one _ _ _ ?g19
                 case g19 =>
                  refine' @L2.ps_if _ _ _ _ _ _ _ _ (pt_cmpR (op_eqT (Nat.lt_of_succ_lt hu)) (pv 5) (pe_tup (pa_cons pe_int (pa_cons pe_int pa_nil rfl) rfl)) (nomark _)) ?g1a pss_nil
                  case g1a =>
                   refine' @L2.pss_one _ _ _ ?g1b
                   case g1b =>
                    refine' @L2.ps_set _ _ (7) _ _ _ _ nd rfl (Or.inl rfl) ?g1c (by rfl) (by first | exact Or.inl rfl | exact Or.inr rfl | assumption)
                    case g1c =>
                     refine' @L2.pe_op _ _ _ _ _ _ _ _ op_cat ?g1d ?g1e
                     case g1d =>
                      refine' @L2.pe_op _ _ _ _ _ _ _ _ op_rep ?g1f pe_int
                      case g1f =>
                       refine' @L2.pe_lst _ _ _ _ (pa_cons pe_non pa_nil rfl)
                     case g1e =>
                      refine' @L2.pe_lst _ _ _ _ (pa_cons (pe_tup (pa_cons pe_str pa_nil rfl)) pa_nil rfl)
               case g11 =>
                refine' @L2.pss_cons _ _ _ _ _ ?g1g ?g1h
                case g1g =>
                 refine' @L2.ps_if _ _ _ _ _ _ _ _ ?g1i (pss_one (ps_ret pe_bl)) pss_nil
                 case g1i =>
                  refine' @L2.PW.pt _ _ _ ?g1j
                  case g1j =>
                   refine' @L2.pw_or _ _ _ _ _ _ _ (pt_cmpR (op_neLG eqT_ow (hu_d2 hr)) (pe_cal C__law_words hr (by decide) rfl (pa_cons (pv 3) (pa_cons (pv 5) pa_nil rfl) rfl)) (pv 7) (nomark _)) ?g1k
                   case g1k =>
                    refine' @L2.pw_or1 _ _ _ _ (pt_cmpR op_ne (pe_callB (call_reprD hr) rfl T.b_repr bb_repr (pa_cons (pe_tup (pa_cons (pv 5) (pa_cons (pv 3) pa_nil rfl) rfl)) pa_nil rfl)) (pv 6) (nomark _))
                case g1h =>
                 refine' @L2.pss_one _ _ _ ?g1l
                 case g1l =>
                  refine' @L2.ps_if _ _ _ _ _ _ _ _ ?g1m (pss_one (ps_ret pe_bl)) pss_nil
                  case g1m =>
                   refine' @L2.PW.pt _ _ _ ?g1n
                   case g1n =>
                    refine' @L2.pw_and _ _ _ _ _ _ _ ?g1o ?g1p
                    case g1o =>
                     refine' @L2.pt_not _ _ _ _ ?g1q
                     case g1q =>
                      refine' @L2.pt_truth _ _ _ (pe_cal C__law_is_fraction hr (by decide) rfl (pa_cons (pv 5) pa_nil rfl)) (fun _=>rfl)
                    case g1p =>
                     refine' @L2.pw_and1 _ _ _ _ (pt_cmpR (op_neLG eqT_ow (hu_d2 hr)) (pe_cal C__law_words hr (by decide) rfl (pa_cons (pv 5) (pa_cons (pe_cal C__law_odd hr (by decide) rfl (pa_cons (pv 2) pa_nil rfl)) pa_nil rfl) rfl)) (pv 7) (nomark _))
           case gs =>
            refine' @L2.pss_cons _ _ _ _ _ ?g1r ?g1s
            case g1r =>
             refine' @L2.ps_for _ _ _ _ _ _ _ _ PassesOwn.never rfl ?g1t (pg_name (i:=5) nd rfl (Or.inr rfl)) ?g1u (by intro _ ; rfl)
             case g1t =>
              refine' @L2.pi_list _ _ _ _ ?g1v
              case g1v =>
               refine' @L2.pe_lst _ _ _ _ ?g1w
               case g1w =>
                refine' @L2.pa_cons _ _ _ _ _ pe_non ?g1x rfl
                case g1x =>
                 refine' @L2.pa_cons _ _ _ _ _ pe_bl ?g1y rfl
                 case g1y =>
                  refine' @L2.pa_cons _ _ _ _ _ pe_str ?g1z rfl
                  case g1z =>
                   refine' @L2.pa_cons _ _ _ _ _ (pe_tup (pa_cons pe_int (pa_cons pe_int pa_nil rfl) rfl)) ?g20 rfl
                   case g20 =>
                    refine' @L2.pa_cons _ _ _ _ _ ?g21 (pa_cons (pe_tup pa_nil) (pa_cons pe_bl pa_nil rfl) rfl) rfl
                    case g21 =>
                     refine' @L2.pe_lstN _ _ _ _ (pa_cons pe_int pa_nil rfl)
             case g1u =>
              refine' @L2.pss_cons _ _ _ _ _ ?g22 ?g23
              case g22 =>
               refine' @L2.ps_if _ _ _ _ _ _ _ _ (pt_cmpR (op_neG eqT_str (hu_d1 hr)) (pe_fix (i:=5) rfl rfl rfl rfl (pe_cal C__law_said hr (by decide) rfl (pa_cons (pe_lam (cc:=cc) (P:=Pl) (q := "law.<locals>.<lambda>") rfl rfl (ecd.symm.trans hcd) rfl CK BK) pa_nil rfl))) (pe_tup (pa_cons pe_str pa_nil rfl)) (nomark _)) (pss_one (ps_ret pe_bl)) pss_nil
              case g23 =>
               refine' @L2.pss_one _ _ _ ?g24
               case g24 =>
                refine' @L2.ps_if _ _ _ _ _ _ _ _ (pt_cmpR (op_neG eqT_str (hu_d1 hr)) (pe_fix (i:=5) rfl rfl rfl rfl (pe_cal C__law_said hr (by decide) rfl (pa_cons (pe_lam (cc:=cc) (P:=Pl) (q := "law.<locals>.<lambda>") rfl rfl (ecd.symm.trans hcd) rfl CK BK) pa_nil rfl))) (pe_tup (pa_cons pe_str pa_nil rfl)) (nomark _)) (pss_one (ps_ret pe_bl)) pss_nil
            case g1s =>
             refine' @L2.pss_cons _ _ _ _ _ ?g25 ?g26
             case g25 =>
              refine' @L2.ps_if _ _ _ _ _ _ _ _ (pt_cmpR (op_neG eqT_str (hu_d1 hr)) (pe_cal C__law_said hr (by decide) rfl (pa_cons (pe_lam (cc:=cc) (P:=Pl) (q := "law.<locals>.<lambda>") rfl rfl (ecd.symm.trans hcd) rfl CK BK) pa_nil rfl)) (pe_tup (pa_cons pe_str pa_nil rfl)) (nomark _)) (pss_one (ps_ret pe_bl)) pss_nil
             case g26 =>
              refine' @L2.pss_one _ _ _ ?g27
              case g27 =>
               refine' @L2.ps_if _ _ _ _ _ _ _ _ (pt_cmpR (op_neG eqT_str (hu_d1 hr)) (pe_cal C__law_said hr (by decide) rfl (pa_cons (pe_lam (cc:=cc) (P:=Pl) (q := "law.<locals>.<lambda>") rfl rfl (ecd.symm.trans hcd) rfl CK BK) pa_nil rfl)) (pe_tup (pa_cons pe_str pa_nil rfl)) (nomark _)) (pss_one (ps_ret pe_bl)) pss_nil
   case read =>
    refine ⟨_,rfl,a,_,rfl,.inl hS,_,_,rfl,_,_,rfl,_,rfl,?_,?_,?_⟩
    · split <;> (try split) <;> omega
    · rw [List.length_map]
      split <;> (try split) <;> omega
    refine for_range (fun i σ H2=>∃ v1 v2 v3 v4 v5 v6 v7:Option V,σ=[some (.ref a),v1,v2,v3,v4,v5,v6,v7]∧Gv Pw Pl H H2∧TabF H2 Pw "_law_words.<locals>.<lambda>" ∧ TabF H2 Pl "law.<locals>.<lambda>") ⟨_,_,_,_,_,_,_,rfl,Gv.refl,tw,tl⟩ ?_ ?_
    rotate_left
    · rintro σ H2 ⟨v1,v2,v3,v4,v5,v6,v7,rfl,_⟩
      exact q H2
    rintro i σ H2 _ ⟨v1,v2,v3,v4,v5,v6,v7,rfl,g2,tw2,tl2⟩
    refine ⟨_,rfl,_,rfl,a,ns,i,by rw [Int.zero_add],sqL_gv hS g2 tw tl,fun l H3 nl s3 st3=>?_⟩
    refine ⟨_,rfl,l,rfl,st3,fun H4 pg qg k4 st4 ag bg=>?_⟩
    obtain ⟨ys3,el3⟩:=st3.lst'
    have tw4:=(tw2.same s3).keepL el3 k4
    have tl4:=(tl2.same s3).keepL el3 k4
    refine ⟨by show 2≤sizeLine; decide,?_⟩
    intro pa1 na1
    generalize hHa1:upd H4 pa1 _=Ha1
    have Sa1:Same H4 Ha1:=by (rw [← hHa1]; exact Same.new na1)
    have Aa1:=(congrFun hHa1 pa1).symm
    rw [upd_same] at Aa1
    clear hHa1
    have sta1:=(st4).same Sa1
    refine ⟨by show 2≤sizeLine; decide,?_⟩
    intro pa2 na2
    generalize hHa2:upd Ha1 pa2 _=Ha2
    have Sa2:Same Ha1 Ha2:=by (rw [← hHa2]; exact Same.new na2)
    have Aa2:=(congrFun hHa2 pa2).symm
    rw [upd_same] at Aa2
    clear hHa2
    have sta2:=(sta1).same Sa2
    refine ⟨by show 2≤sizeLine; decide,?_⟩
    intro pa3 na3
    generalize hHa3:upd Ha2 pa3 _=Ha3
    have Sa3:Same Ha2 Ha3:=by (rw [← hHa3]; exact Same.new na3)
    have Aa3:=(congrFun hHa3 pa3).symm
    rw [upd_same] at Aa3
    clear hHa3
    have sta3:=(sta2).same Sa3
    refine ⟨_,rfl,by show 2≤sizeLine; decide,?_⟩
    intro pa4 na4
    generalize hHa4:upd Ha3 pa4 _=Ha4
    have Sa4:Same Ha3 Ha4:=by (rw [← hHa4]; exact Same.new na4)
    have Aa4:=(congrFun hHa4 pa4).symm
    rw [upd_same] at Aa4
    clear hHa4
    have sta4:=(sta3).same Sa4
    refine ⟨by show 2≤sizeLine; decide,?_⟩
    intro pa5 na5
    generalize hHa5:upd Ha4 pa5 _=Ha5
    have Sa5:Same Ha4 Ha5:=by (rw [← hHa5]; exact Same.new na5)
    have Aa5:=(congrFun hHa5 pa5).symm
    rw [upd_same] at Aa5
    clear hHa5
    have sta5:=(sta4).same Sa5
    refine ⟨by show 2≤sizeLine; decide,?_⟩
    intro pa6 na6
    generalize hHa6:upd Ha5 pa6 _=Ha6
    have Sa6:Same Ha5 Ha6:=by (rw [← hHa6]; exact Same.new na6)
    have Aa6:=(congrFun hHa6 pa6).symm
    rw [upd_same] at Aa6
    clear hHa6
    have sta6:=(sta5).same Sa6
    refine ⟨by show 2≤sizeLine; decide,?_⟩
    intro pa7 na7 ma7
    generalize hHa7:upd Ha6 pa7 _=Ha7
    have Sa7:Same Ha6 Ha7:=by (rw [← hHa7]; exact Same.new na7)
    have Aa7:=(congrFun hHa7 pa7).symm
    rw [upd_same] at Aa7
    clear hHa7
    have sta7:=(sta6).same Sa7
    refine ⟨by show 10≤sizeLine; decide,?_⟩
    intro pa8 na8
    generalize hHa8:upd Ha7 pa8 _=Ha8
    have Sa8:Same Ha7 Ha8:=by (rw [← hHa8]; exact Same.new na8)
    have Aa8:=(congrFun hHa8 pa8).symm
    rw [upd_same] at Aa8
    clear hHa8
    have sta8:=(sta7).same Sa8
    refine ⟨_,rfl,by show 3≤sizeLine; decide,?_⟩
    intro pa9 na9
    generalize hHa9:upd Ha8 pa9 _=Ha9
    have Sa9:Same Ha8 Ha9:=by (rw [← hHa9]; exact Same.new na9)
    have Aa9:=(congrFun hHa9 pa9).symm
    rw [upd_same] at Aa9
    clear hHa9
    have sta9:=(sta8).same Sa9
    refine ⟨by show 1≤sizeLine; decide,?_⟩
    intro pa10 na10
    generalize hHa10:upd Ha9 pa10 _=Ha10
    have Sa10:Same Ha9 Ha10:=by (rw [← hHa10]; exact Same.new na10)
    have Aa10:=(congrFun hHa10 pa10).symm
    rw [upd_same] at Aa10
    clear hHa10
    have sta10:=(sta9).same Sa10
    refine ⟨by show 2≤sizeLine; decide,?_⟩
    intro pa11 na11
    generalize hHa11:upd Ha10 pa11 _=Ha11
    have Sa11:Same Ha10 Ha11:=by (rw [← hHa11]; exact Same.new na11)
    have Aa11:=(congrFun hHa11 pa11).symm
    rw [upd_same] at Aa11
    clear hHa11
    have sta11:=(sta10).same Sa11
    refine ⟨by show 1≤sizeLine; decide,?_⟩
    intro pa12 na12
    generalize hHa12:upd Ha11 pa12 _=Ha12
    have Sa12:Same Ha11 Ha12:=by (rw [← hHa12]; exact Same.new na12)
    have Aa12:=(congrFun hHa12 pa12).symm
    rw [upd_same] at Aa12
    clear hHa12
    have sta12:=(sta11).same Sa12
    refine ⟨by show 3≤sizeLine; decide,?_⟩
    intro pa13 na13
    generalize hHa13:upd Ha12 pa13 _=Ha13
    have Sa13:Same Ha12 Ha13:=by (rw [← hHa13]; exact Same.new na13)
    have Aa13:=(congrFun hHa13 pa13).symm
    rw [upd_same] at Aa13
    clear hHa13
    have sta13:=(sta12).same Sa13
    refine ⟨pa8,pa13,_,_,rfl,rfl,(Sa13 _ _ (Sa12 _ _ (Sa11 _ _ (Sa10 _ _ (Sa9 _ _ Aa8))))),Aa13,by show 13≤sizeLine; decide,?_⟩
    intro pa14 na14
    generalize hHa14:upd Ha13 pa14 _=Ha14
    have Sa14:Same Ha13 Ha14:=by (rw [← hHa14]; exact Same.new na14)
    have Aa14:=(congrFun hHa14 pa14).symm
    rw [upd_same] at Aa14
    clear hHa14
    have sta14:=(sta13).same Sa14
    generalize hN:(fun b=>b=l)=N
    have Nl:N l:=by rw [← hN]
    have D0:Dom N Ha14:=fun b z=>by (rw [← hN] at z; obtain ⟨ys,e⟩:=sta14.lst'; exact ⟨_,by rw [show b=l from z]; exact e⟩)
    have T1:Tgs N Ha14 100 3 50 [.ref pa1,.ref pa2,.ref pa3,.ref pa4,.ref pa5,.ref pa6,.ref pa7,.int 1,.non,.str "1/2"]:=(Tgs.cons ⟨_,(.tup (Sa14 _ _ (Sa13 _ _ (Sa12 _ _ (Sa11 _ _ (Sa10 _ _ (Sa9 _ _ (Sa8 _ _ (Sa7 _ _ (Sa6 _ _ (Sa5 _ _ (Sa4 _ _ (Sa3 _ _ (Sa2 _ _ Aa1))))))))))))) (.cons (dint 2 (by decide) (by decide)) (.cons (dint 4 (by decide) (by decide)) .nil))),Nat.le_of_ble_eq_true rfl,Nat.le_of_ble_eq_true rfl⟩ (Tgs.cons ⟨_,(.tup (Sa14 _ _ (Sa13 _ _ (Sa12 _ _ (Sa11 _ _ (Sa10 _ _ (Sa9 _ _ (Sa8 _ _ (Sa7 _ _ (Sa6 _ _ (Sa5 _ _ (Sa4 _ _ (Sa3 _ _ Aa2)))))))))))) (.cons (dint 0 (by decide) (by decide)) (.cons (dint 2 (by decide) (by decide)) .nil))),Nat.le_of_ble_eq_true rfl,Nat.le_of_ble_eq_true rfl⟩ (Tgs.cons ⟨_,(.tup (Sa14 _ _ (Sa13 _ _ (Sa12 _ _ (Sa11 _ _ (Sa10 _ _ (Sa9 _ _ (Sa8 _ _ (Sa7 _ _ (Sa6 _ _ (Sa5 _ _ (Sa4 _ _ Aa3))))))))))) (.cons (dint 1 (by decide) (by decide)) (.cons (dint 0 (by decide) (by decide)) .nil))),Nat.le_of_ble_eq_true rfl,Nat.le_of_ble_eq_true rfl⟩ (Tgs.cons ⟨_,(.tup (Sa14 _ _ (Sa13 _ _ (Sa12 _ _ (Sa11 _ _ (Sa10 _ _ (Sa9 _ _ (Sa8 _ _ (Sa7 _ _ (Sa6 _ _ (Sa5 _ _ Aa4)))))))))) (.cons (dint 1 (by decide) (by decide)) (.cons (dint (-1) (by decide) (by decide)) .nil))),Nat.le_of_ble_eq_true rfl,Nat.le_of_ble_eq_true rfl⟩ (Tgs.cons ⟨_,(.tup (Sa14 _ _ (Sa13 _ _ (Sa12 _ _ (Sa11 _ _ (Sa10 _ _ (Sa9 _ _ (Sa8 _ _ (Sa7 _ _ (Sa6 _ _ Aa5))))))))) (.cons (.bl true) (.cons (dint 1 (by decide) (by decide)) .nil))),Nat.le_of_ble_eq_true rfl,Nat.le_of_ble_eq_true rfl⟩ (Tgs.cons ⟨_,(.tup (Sa14 _ _ (Sa13 _ _ (Sa12 _ _ (Sa11 _ _ (Sa10 _ _ (Sa9 _ _ (Sa8 _ _ (Sa7 _ _ Aa6)))))))) (.cons (dint 1 (by decide) (by decide)) (.cons (.bl true) .nil))),Nat.le_of_ble_eq_true rfl,Nat.le_of_ble_eq_true rfl⟩ (Tgs.cons ⟨_,(.lst (Sa14 _ _ (Sa13 _ _ (Sa12 _ _ (Sa11 _ _ (Sa10 _ _ (Sa9 _ _ (Sa8 _ _ Aa7))))))) (fun z=>by rw [← hN] at z; exact sta6.ne na7 z.symm) ma7 (.cons (dint 1 (by decide) (by decide)) (.cons (dint 1 (by decide) (by decide)) .nil))),Nat.le_of_ble_eq_true rfl,Nat.le_of_ble_eq_true rfl⟩ (Tgs.cons ⟨_,(dint 1 (by decide) (by decide)),Nat.le_of_ble_eq_true rfl,Nat.le_of_ble_eq_true rfl⟩ (Tgs.cons ⟨_,.non,Nat.le_of_ble_eq_true rfl,Nat.le_of_ble_eq_true rfl⟩ (Tgs.cons ⟨_,(.str "1/2"),Nat.le_of_ble_eq_true rfl,by decide +kernel⟩ Tgs.nil))))))))))
    have T2:Tgs N Ha14 100 3 50 [.ref pa9,.ref pa10,.ref pa12]:=(Tgs.cons ⟨_,(.tup (Sa14 _ _ (Sa13 _ _ (Sa12 _ _ (Sa11 _ _ (Sa10 _ _ Aa9))))) (.cons (dint 1 (by decide) (by decide)) (.cons (dint 1 (by decide) (by decide)) (.cons (dint 1 (by decide) (by decide)) .nil)))),Nat.le_of_ble_eq_true rfl,Nat.le_of_ble_eq_true rfl⟩ (Tgs.cons ⟨_,(.tup (Sa14 _ _ (Sa13 _ _ (Sa12 _ _ (Sa11 _ _ Aa10)))) (.cons (dint 1 (by decide) (by decide)) .nil)),Nat.le_of_ble_eq_true rfl,Nat.le_of_ble_eq_true rfl⟩ (Tgs.cons ⟨_,(.tup (Sa14 _ _ (Sa13 _ _ Aa12)) (.cons (.tup (Sa14 _ _ (Sa13 _ _ (Sa12 _ _ Aa11))) (.cons (dint 1 (by decide) (by decide)) (.cons (dint 1 (by decide) (by decide)) .nil))) .nil)),Nat.le_of_ble_eq_true rfl,Nat.le_of_ble_eq_true rfl⟩ Tgs.nil)))
    refine ⟨_,rfl,_,rfl,l,N,rfl,sta14,Nl,D0,fun Hb vb kb stb tgb=>?_⟩
    have kc4:Keep l H4 Hb:=((Sa1.trans (Sa2.trans (Sa3.trans (Sa4.trans (Sa5.trans (Sa6.trans (Sa7.trans (Sa8.trans (Sa9.trans (Sa10.trans (Sa11.trans (Sa12.trans (Sa13.trans Sa14)))))))))))))).keep.trans kb
    have agb:=kc4 _ _ (st4.neT ag) ag
    have dgb:Dt N Hb 100 (.ref pg) (.tuple [.int qg.num,.int qg.den]):=dt2 agb (Nat.lt_of_lt_of_le bg.1 (Nat.pow_le_pow_right (by decide) (by decide))) (Nat.lt_of_lt_of_le (show (qg.den:Int).natAbs < 2 ^ 60 from bg.2) (Nat.pow_le_pow_right (by decide) (by decide)))
    have Db:Dom N Hb:=Dom.keepS D0 kb stb
    refine ⟨_,rfl,_,rfl,l,N,100,_,_,rfl,stb,Nl,Db,dgb,by decide,Nat.le_of_ble_eq_true rfl,Nat.le_of_ble_eq_true rfl,fun Hc vc kc stc tgc=>?_⟩
    refine ⟨by show 2≤sizeLine; decide,fun L3 n3=>?_⟩
    have kbc:=kb.trans kc
    generalize hG:upd Hc L3 (.lst [vb,vc])=Hd
    have Sd:Same Hc Hd:=by (rw [← hG]; exact Same.new n3)
    have Ad:Hd L3=some (.lst [vb,vc]):=by (rw [← hG]; exact upd_same)
    clear hG
    have Ab1:Hd pa14=some (.lst ([.ref pa1,.ref pa2,.ref pa3,.ref pa4,.ref pa5,.ref pa6,.ref pa7,.int 1,.non,.str "1/2"]++[.ref pa9,.ref pa10,.ref pa12])):=Sd _ _ (kbc _ _ (fun z=>sta13.ne na14 z.symm) Aa14)
    refine ⟨pa14,L3,_,_,rfl,rfl,Ab1,Ad,by show 15≤sizeLine; decide,fun pB nB=>?_⟩
    have TB0:Tgs N Hd 101 3 50 ((([.ref pa1,.ref pa2,.ref pa3,.ref pa4,.ref pa5,.ref pa6,.ref pa7,.int 1,.non,.str "1/2"]:List V)++([.ref pa9,.ref pa10,.ref pa12]:List V))++[vb,vc]):=Tgs.same Sd (((Tgs.keepS Nl sta14 (T1.app T2) kbc).up (by decide) (by decide) (by decide)).app (Tgs.cons ((Tg.keepS Nl stb tgb kc).up (by decide) (by decide) (by decide)) (Tgs.cons (tgc.up (by decide) (by decide) (Nat.le_of_ble_eq_true rfl)) Tgs.nil)))
    have xl:(((([.ref pa1,.ref pa2,.ref pa3,.ref pa4,.ref pa5,.ref pa6,.ref pa7,.int 1,.non,.str "1/2"]:List V)++([.ref pa9,.ref pa10,.ref pa12]:List V))++[vb,vc])).length≤1000:=by show 15≤1000; decide
    generalize ((([.ref pa1,.ref pa2,.ref pa3,.ref pa4,.ref pa5,.ref pa6,.ref pa7,.int 1,.non,.str "1/2"]:List V)++([.ref pa9,.ref pa10,.ref pa12]:List V))++[vb,vc])=XS at TB0 xl ⊢
    generalize hG:upd Hd pB (.lst XS)=HB
    have SB:Same Hd HB:=by (rw [← hG]; exact Same.new nB)
    have AB:HB pB=some (.lst XS):=by (rw [← hG]; exact upd_same)
    clear hG
    have TB:=TB0.same SB
    have stB:=(stc.same Sd).same SB
    have nlB:l≠pB:=(stc.same Sd).ne nB
    have k4B:Keep l H4 HB:=kc4.trans (kc.trans (Sd.trans SB).keep)
    obtain ⟨ys4,el4⟩:=st4.lst'
    have twB:=tw4.keepL el4 k4B
    have tlB:=tl4.keepL el4 k4B
    have agB:=k4B _ _ (st4.neT ag) ag
    have k3B:Keep l H3 HB:=k4.trans k4B
    clear TB0 T1 T2 tgb tgc D0 Db dgb kb kc kc4 Ab1 Ad
    refine ⟨_,rfl,pB,rfl,⟨_,SqL.of AB⟩,?_⟩
    refine for_list (xs:=XS) (fun (n:Nat) σ H5=>∃ u1 w5 w6 w7:Option V,σ=[some (.ref a),u1,some (.ref l),some (.ref pg),some (.ref pB),w5,w6,w7]∧Gv Pw l HB H5∧StAt H5 l∧TabF H5 Pw "_law_words.<locals>.<lambda>" ∧ TabF H5 Pl "law.<locals>.<lambda>") ⟨_,_,_,_,rfl,Gv.refl,stB,twB,tlB⟩ ?_ ?_ ?_
    · rintro n σ H5 _ ⟨u1,w5,w6,w7,rfl,g5,st5,tw5,tl5⟩
      obtain ⟨ps,ep,_⟩:=twB
      exact SqL.of (g5 _ _ (ne_of AB ep (by intro z; cases z)) (Ne.symm nlB) AB)
    · rintro n z σ H5 hz ⟨u1,w5,w6,w7,rfl,g5,st5,tw5,tl5⟩
      obtain ⟨d,hd0,dd,dz⟩:=TB z (List.mem_of_getElem? hz)
      obtain ⟨ysB,elB⟩:=stB.lst'
      have hd5:Dt N H5 101 z d:=hd0.gen fun b o D e=>g5 b o (D.neT e twB) (D.neL e Nl elB) e
      have ag5:H5 pg=some (.tup (rt qg)):=by (obtain ⟨ps,ep,_⟩:=twB; exact g5 _ _ (ne_of agB ep (by intro z; cases z)) (stB.neT agB) agB)
      generalize hdg:PyData.tuple [.int qg.num,.int qg.den]=dg
      have dgt:∀ {G:Hp},G pg=some (.tup (rt qg))→Dt N G 101 (.ref pg) dg:=fun e=>by (rw [← hdg]; exact dt2 e (Nat.lt_of_lt_of_le bg.1 (Nat.pow_le_pow_right (by decide) (by decide))) (Nat.lt_of_lt_of_le (show (qg.den:Int).natAbs < 2 ^ 60 from bg.2) (Nat.pow_le_pow_right (by decide) (by decide))))
      have frg:isFr dg=true:=by rw [← hdg]; exact frRat qg
      have dtp:PyData.depth (.tuple [d,dg])≤20:=by (rw [← hdg]; show PyData.depthAll [d,PyData.tuple [.int qg.num,.int qg.den]]+1≤20; simp only [PyData.depthAll,PyData.depth]; omega)
      have ntp:nz (.tuple [d,dg])≤8000:=by (rw [← hdg]; simp only [nz,nzAll]; omega)
      clear hdg
      refine ⟨_,rfl,_,rfl,by show 2≤sizeLine; decide,?_⟩
      intro p6 n6
      generalize hG:upd H5 p6 (.tup [z,.ref pg])=H6
      have S6:Same H5 H6:=by (rw [← hG]; exact Same.new n6)
      have A6:H6 p6=some (.tup [z,.ref pg]):=by (rw [← hG]; exact upd_same)
      clear hG
      refine ⟨N,101,_,.tuple [d,dg],rfl,.tup A6 (.cons (hd5.same S6) (.cons (dgt (S6 _ _ ag5)) .nil)),by decide,dtp,ntp,?_⟩
      refine ⟨by show 1≤sizeLine; decide,?_⟩
      intro p7 n7
      generalize hG:upd H6 p7 (.lst [.non])=H7
      have S7:Same H6 H7:=by (rw [← hG]; exact Same.new n7)
      have A7:H7 p7=some (.lst [.non]):=by (rw [← hG]; exact upd_same)
      clear hG
      refine ⟨p7,5,_,rfl,rfl,A7,by decide,by decide,by show 1 * 5≤sizeLine; decide,?_⟩
      intro p8 n8
      generalize hG:upd H7 p8 (.lst (List.replicate (Int.toNat 5) [V.non]).flatten)=H8
      have S8:Same H7 H8:=by (rw [← hG]; exact Same.new n8)
      have A8:H8 p8=some (.lst [.non,.non,.non,.non,.non]):=by (rw [← hG]; exact upd_same)
      clear hG
      have S58:=S6.trans (S7.trans S8)
      dsimp only [gName]
      refine sq fun M m=>?_
      have key:∀ (H9:Hp) (D:Addr) (us:List V),Same H8 H9→D≠l→H9 D=some (.lst us)→Al (IsOw H9) us ((gs5 dg d).map ow)→M [some (.ref a),u1,some (.ref l),some (.ref pg),some (.ref pB),some z,some (.str (PyData.tuple [d,dg]).shown),some (.ref D)] H9:=by
       intro H9 D us S9 nlD eD alD
       refine m ?_
       have S59:=S58.trans S9
       have tw9:=tw5.same S59
       have nDw:D≠Pw:=by (obtain ⟨ps,ep,_⟩:=tw9; exact ne_of eD ep (by intro z; cases z))
       refine ⟨_,rfl,_,rfl,N,101,_,z,dg,d,rfl,dgt (S59 _ _ ag5),hd5.same S59,by decide,tw9,fun L H10 vs kp10 tw10 eL alL=>?_⟩
       have tk10:Tk H9 H10:=fun b xs e=>kp10 _ _ (by (obtain ⟨ps,ep,_⟩:=tw9; exact ne_of e ep (by intro z; cases z))) e
       refine ⟨_,rfl,L,D,vs,us,_,_,rfl,rfl,eL,kp10 _ _ nDw eD,alL,alD.imp fun v o x=>IsOw.tk tk10 x,_,rfl,?_⟩
       rw [decide_eq_true rfl]
       refine iteF ?_
       have hd10:=(hd5.same S59).keepT tw9 kp10
       have ag10:=tk10 _ _ (S59 _ _ ag5)
       refine ⟨_,rfl,_,rfl,by show 2≤sizeLine; decide,?_⟩
       intro p11 n11
       generalize hG:upd H10 p11 (.tup [z,.ref pg])=H11
       have S11:Same H10 H11:=by (rw [← hG]; exact Same.new n11)
       have A11:H11 p11=some (.tup [z,.ref pg]):=by (rw [← hG]; exact upd_same)
       clear hG
       refine ⟨N,101,_,.tuple [d,dg],rfl,.tup A11 (.cons (hd10.same S11) (.cons (dgt (S11 _ _ ag10)) .nil)),by decide,dtp,ntp,_,rfl,rfl,_,rfl,?_⟩
       rw [decide_eq_true rfl]
       refine iteF ?_
       have nlw:l≠Pw:=by (obtain ⟨ps,ep,_⟩:=tw5; obtain ⟨ys,el⟩:=st5.lst'; exact ne_of el ep (by intro z; cases z))
       have g11:Gv Pw l HB H11:=g5.trans ((S59.gv).trans ((KeepP.gv1 kp10).trans S11.gv))
       have st11:StAt H11 l:=((st5.same S59).keep kp10 nlw).same S11
       have tw11:=tw10.same S11
       have tl11:=((tl5.same S59).gvP tw9 (Ne.symm nPP) kp10).same S11
       refine ⟨_,rfl,N,101,z,d,rfl,hd10.same S11,by decide,fun H12 s12=>⟨_,rfl,?_⟩⟩
       cases ef:isFr d with
       | true=>exact iteF (iteF ⟨_,_,_,_,rfl,g11.trans s12.gv,st11.same s12,tw11.same s12,tl11.same s12⟩)
       | false =>
         refine iteT ?_
         have st12:=st11.same s12
         have D12:Dom N H12:=fun b z=>by (rw [← hN] at z; obtain ⟨ys,e⟩:=st12.lst'; exact ⟨_,by rw [show b=l from z]; exact e⟩)
         refine ⟨_,rfl,_,rfl,l,N,rfl,st12,Nl,D12,fun H13 vo k13 st13 to=>?_⟩
         obtain ⟨do',ho,_,_⟩:=to
         obtain ⟨ys12,el12⟩:=st12.lst'
         have tw13:=(tw11.same s12).keepL el12 k13
         have tl13:=(tl11.same s12).keepL el12 k13
         refine ⟨N,101,z,vo,d,do',rfl,Dt.keepS Nl st12 ((hd10.same S11).same s12) k13,ho.up (by decide),by decide,tw13,fun L2 H14 vs2 kp14 tw14 eL2 alL2=>?_⟩
         have tk13:Tk H9 H14:=fun b xs e=>by (have e1:=s12 _ _ (S11 _ _ (tk10 _ _ e)); have e2:=k13 _ _ (st12.neT e1) e1; obtain ⟨ps,ep,_⟩:=tw13; exact kp14 _ _ (ne_of e2 ep (by intro z; cases z)) e2)
         refine ⟨_,rfl,L2,D,vs2,us,_,_,rfl,rfl,eL2,kp14 _ _ nDw (k13 _ _ nlD (s12 _ _ (S11 _ _ (kp10 _ _ nDw eD)))),alL2,alD.imp fun v o x=>IsOw.tk tk13 x,_,rfl,?_⟩
         rw [show (gs5 d do').map ow=(gs5 dg d).map ow by simp only [gs5,gB,gO,ef,Bool.false_and,Bool.and_false],decide_eq_true rfl]
         refine iteF ?_
         exact ⟨_,_,_,_,rfl,g11.trans ((s12.gv).trans ((Keep.gv2 k13).trans (KeepP.gv1 kp14))),st13.keep kp14 nlw,tw14,tl13.gvP tw13 (Ne.symm nPP) kp14⟩
      have hd8:=hd5.same S58
      have st8:=st5.same S58
      refine ⟨_,rfl,N,101,z,d,rfl,hd8,by decide,fun H9 s9=>⟨_,rfl,?_⟩⟩
      have st9:=st8.same s9
      cases ef:isFr d with
      | false =>
        refine iteT ?_
        refine ⟨by show 1≤sizeLine; decide,fun T nT=>⟨by show 1≤sizeLine; decide,fun L nL=>⟨L,5,_,rfl,rfl,upd_same,by decide,by decide,by show 1 * 5≤sizeLine; decide,fun D nD=>?_⟩⟩⟩
        have hT:=(Same.new (o:=.lst (List.replicate (Int.toNat 5) [V.ref T]).flatten) nD) _ _ ((Same.new (o:=.lst [V.ref T]) nL) _ _ (upd_same (H:=H9) (a:=T) (o:=.tup [.str "fraction"])))
        refine key _ D _ (s9.trans ((Same.new nT).trans ((Same.new nL).trans (Same.new nD)))) (((st9.new nT).new nL).ne nD).symm upd_same ?_
        rw [show (gs5 dg d).map ow=[ow false,ow false,ow false,ow false,ow false] by (simp only [gs5,gB,gO,ef,Bool.false_and,Bool.and_false]; rfl)]
        exact al5c (.inr ⟨T,_,rfl,hT,rfl⟩)
      | true =>
        refine iteF ?_
        obtain ⟨p,qz,ez,hz9,_,zz⟩:=fr_rat (hd8.same s9) ef
        have due:(gs5 dg d).map ow=[none,none,none,none,ow (!decide (qz.num=0))]:=by (simp only [gs5,gB,gO,ef,frg,zz,Bool.and_true,Bool.true_and]; rfl)
        refine ⟨_,rfl,by show 2≤sizeLine; decide,fun T nT=>⟨p,T,[qz.num,(qz.den:Int)],[0,1],ez,rfl,SqT.of ((Same.new nT) _ _ hz9),SqT.of upd_same,_,rfl,?_⟩⟩
        by_cases h0:qz.num=0
        · rw [if_neg (by decide),decide_eq_true (show [qz.num,(qz.den:Int)]=[0,1] by rw [zero_den h0,h0]; rfl)]
          refine iteT ?_
          refine ⟨by show 1≤sizeLine; decide,fun L4 n4=>⟨L4,4,_,rfl,rfl,upd_same,by decide,by decide,by show 1 * 4≤sizeLine; decide,fun R4 nR=>⟨by show 1≤sizeLine; decide,fun T2 nT2=>⟨by show 1≤sizeLine; decide,fun L5 n5=>⟨R4,L5,_,_,rfl,rfl,(Same.new n5) _ _ ((Same.new nT2) _ _ upd_same),upd_same,by show 5≤sizeLine; decide,fun D nD=>?_⟩⟩⟩⟩⟩
          refine key _ D _ (s9.trans ((Same.new nT).trans ((Same.new n4).trans ((Same.new nR).trans ((Same.new nT2).trans ((Same.new n5).trans (Same.new nD))))))) ((((((st9.new nT).new n4).new nR).new nT2).new n5).ne nD).symm upd_same ?_
          rw [due,decide_eq_true h0]
          exact al5d (.inl ⟨rfl,rfl⟩) (.inr ⟨T2,_,rfl,(Same.new nD) _ _ ((Same.new n5) _ _ upd_same),rfl⟩)
        · rw [if_neg (by decide),decide_eq_false (show ¬ [qz.num,(qz.den:Int)]=[0,1] from fun z=>h0 (List.cons.inj z).1)]
          refine iteF ?_
          refine key _ p8 _ (s9.trans (Same.new nT)) (((st5.same S6).same S7).ne n8).symm ((Same.new nT) _ _ (s9 _ _ A8)) ?_
          rw [due,decide_eq_false h0]
          exact al5c (.inl ⟨rfl,rfl⟩)
    rintro σ H5 ⟨u1,w5,w6,w7,rfl,g5,st5,tw5,tl5⟩
    refine ⟨by show 2≤sizeLine; decide,?_⟩
    intro p6 n6
    generalize hG:upd H5 p6 (.tup [.int 1,.int 1])=H6
    have S6:Same H5 H6:=by (rw [← hG]; exact Same.new n6)
    have A6:H6 p6=some (.tup [.int 1,.int 1]):=by (rw [← hG]; exact upd_same)
    clear hG
    refine ⟨by show 1≤sizeLine; decide,?_⟩
    intro p7 n7 m7
    generalize hG:upd H6 p7 (.lst [.int 1])=H7
    have S7:Same H6 H7:=by (rw [← hG]; exact Same.new n7)
    have A7:H7 p7=some (.lst [.int 1]):=by (rw [← hG]; exact upd_same)
    clear hG
    refine ⟨by show 0≤sizeLine; decide,?_⟩
    intro p8 n8
    generalize hG:upd H7 p8 (.tup [])=H8
    have S8:Same H7 H8:=by (rw [← hG]; exact Same.new n8)
    have A8:H8 p8=some (.tup []):=by (rw [← hG]; exact upd_same)
    clear hG
    refine ⟨by show 7≤sizeLine; decide,?_⟩
    intro p9 n9
    generalize hG:upd H8 p9 (.lst [.non,.bl true,.str "1",.ref p6,.ref p7,.ref p8,.bl false])=H9
    have S9:Same H8 H9:=by (rw [← hG]; exact Same.new n9)
    have A9:H9 p9=some (.lst [.non,.bl true,.str "1",.ref p6,.ref p7,.ref p8,.bl false]):=by (rw [← hG]; exact upd_same)
    clear hG
    have S59:=S6.trans (S7.trans (S8.trans S9))
    have tl9:=tl5.same S59
    have N7:¬ N p7:=fun z=>by (rw [← hN] at z; exact (st5.same S6).ne n7 z.symm)
    have TN:∀ z∈([.non,.bl true,.str "1",.ref p6,.ref p7,.ref p8,.bl false]:List V),∃ d,Dt N H9 100 z d∧isI d=false:=by
     intro z hz
     simp only [List.mem_cons,List.not_mem_nil,or_false] at hz
     rcases hz with rfl | rfl | rfl | rfl | rfl | rfl | rfl
     · exact ⟨_,.non,rfl⟩
     · exact ⟨_,.bl true,rfl⟩
     · exact ⟨_,.str "1",rfl⟩
     · exact ⟨_,.tup (S9 _ _ (S8 _ _ (S7 _ _ A6))) (.cons (dint 1 (by decide) (by decide)) (.cons (dint 1 (by decide) (by decide)) .nil)),rfl⟩
     · exact ⟨_,.lst (S9 _ _ (S8 _ _ A7)) N7 m7 (.cons (dint 1 (by decide) (by decide)) .nil),rfl⟩
     · exact ⟨_,.tup (S9 _ _ A8) .nil,rfl⟩
     · exact ⟨_,.bl false,rfl⟩
    generalize ([.non,.bl true,.str "1",.ref p6,.ref p7,.ref p8,.bl false]:List V)=XS7 at TN A9 ⊢
    refine ⟨p9,rfl,⟨_,SqL.of A9⟩,?_⟩
    have n9l:p9≠Pl:=by (obtain ⟨ps,ep,_⟩:=tl9; exact ne_of A9 ep (by intro z; cases z))
    refine for_list (xs:=XS7) (fun (n:Nat) σ H10=>∃ u1 w2 w3 w4 w5 w6 w7:Option V,σ=[some (.ref a),u1,w2,w3,w4,w5,w6,w7]∧KeepP Pl H9 H10∧TabF H10 Pl "law.<locals>.<lambda>") ⟨_,_,_,_,_,_,_,rfl,fun _ _ _ e=>e,tl9⟩ ?_ ?_ ?_
    · rintro n σ H10 _ ⟨u1,w2,w3,w4,w5,w6,w7,rfl,k10,tl10⟩
      exact SqL.of (k10 _ _ n9l A9)
    · rintro n z σ H10 hz ⟨u1,w2,w3,w4,w5,w6,w7,rfl,k10,tl10⟩
      obtain ⟨d,hd9,nd'⟩:=TN z (List.mem_of_getElem? hz)
      have hd10:=hd9.keepT tl9 k10
      have nz':=nzI nd'
      refine ⟨_,rfl,fun o11 u11 hd11 r11 nc11=>⟨tl10.same (Same.new nc11),fun a11 F11 kp11 tf11 na11 nP11 lf11=>?_⟩⟩
      have tq11:=tl10.same (Same.new (o:=fzO o11) nc11)
      obtain ⟨dd11,ct11,hA11,cf11⟩:=id lf11
      have cP11:s.heap.objs.size+1≠Pl:=by (obtain ⟨ps,ep,_⟩:=tl10; exact Ne.symm (ne_of_none ep nc11))
      have ec11:=kp11 _ _ cP11 upd_same
      have dz11:=(hd10.same (Same.new (o:=fzO o11) nc11)).keepT tq11 kp11
      refine ⟨a11,_,_,_,rfl,hA11,rfl,lamM1 Y_made,spB_mono (fun _=>madeX_mono),lf11,z,⟨o11,u11,ec11,hd11,r11⟩,N,100,z,.int 1,d,.int 1,rfl,dz11,dint 1 (by decide) (by decide),(by rw [nd']; rfl),_,22,rfl,Z.wh,.inr rfl,fun T11 E11 se11 hT11=>?_⟩
      have y11:=se11 _ _ ec11
      have kd11:KeepP Pl H10 (del E11 (s.heap.objs.size+1)):=fun b o n e=>by (rw [del_ne (ne_of_none e nc11)]; exact se11 _ _ (kp11 _ _ n ((Same.new nc11) _ _ e)))
      have td11:=(tf11.same se11).del y11 hd11
      have hTd11:del E11 (s.heap.objs.size+1) T11=some (.tup [.str (WRD.getD 22 "")]):=by (rw [del_ne (ne_of hT11 y11 (by intro z; cases z))]; exact hT11)
      refine ⟨by show 1≤sizeLine; decide,fun M11 nM11=>⟨[WRD.getD 22 ""],["whole"],⟨T11,_,rfl,(Same.new nM11) _ _ hTd11,al1s _⟩,⟨M11,_,rfl,upd_same,al1s _⟩,_,rfl,?_⟩⟩
      rw [if_pos rfl,decide_eq_true (show [WRD.getD 22 ""]=[("whole" : Str)] from rfl)]
      refine iteF ?_
      have tl11:=td11.same (Same.new (o:=.tup [.str "whole"]) nM11)
      have k11:KeepP Pl H10 (upd (del E11 (s.heap.objs.size+1)) M11 (.tup [.str "whole"])):=fun b o n e=>(Same.new nM11) _ _ (kd11 b o n e)
      generalize upd (del E11 (s.heap.objs.size+1)) M11 (.tup [.str "whole"])=H11 at tl11 k11 ⊢
      have hd11:=hd10.keepT tl10 k11
      refine ⟨_,rfl,fun o12 u12 hd12 r12 nc12=>⟨tl11.same (Same.new nc12),fun a12 F12 kp12 tf12 na12 nP12 lf12=>?_⟩⟩
      have tq12:=tl11.same (Same.new (o:=fzO o12) nc12)
      obtain ⟨dd12,ct12,hA12,cf12⟩:=id lf12
      have cP12:s.heap.objs.size+1≠Pl:=by (obtain ⟨ps,ep,_⟩:=tl11; exact Ne.symm (ne_of_none ep nc12))
      have ec12:=kp12 _ _ cP12 upd_same
      have dz12:=(hd11.same (Same.new (o:=fzO o12) nc12)).keepT tq12 kp12
      refine ⟨a12,_,_,_,rfl,hA12,rfl,lamM2 X_made,spB_mono (fun _=>madeX_mono),lf12,z,⟨o12,u12,ec12,hd12,r12⟩,N,100,.int 1,z,.int 1,d,rfl,dint 1 (by decide) (by decide),dz12,(by rw [nz']; rfl),_,22,rfl,Z.wh,.inr rfl,fun T12 E12 se12 hT12=>?_⟩
      have y12:=se12 _ _ ec12
      have kd12:KeepP Pl H11 (del E12 (s.heap.objs.size+1)):=fun b o n e=>by (rw [del_ne (ne_of_none e nc12)]; exact se12 _ _ (kp12 _ _ n ((Same.new nc12) _ _ e)))
      have td12:=(tf12.same se12).del y12 hd12
      have hTd12:del E12 (s.heap.objs.size+1) T12=some (.tup [.str (WRD.getD 22 "")]):=by (rw [del_ne (ne_of hT12 y12 (by intro z; cases z))]; exact hT12)
      refine ⟨by show 1≤sizeLine; decide,fun M12 nM12=>⟨[WRD.getD 22 ""],["whole"],⟨T12,_,rfl,(Same.new nM12) _ _ hTd12,al1s _⟩,⟨M12,_,rfl,upd_same,al1s _⟩,_,rfl,?_⟩⟩
      rw [if_pos rfl,decide_eq_true (show [WRD.getD 22 ""]=[("whole" : Str)] from rfl)]
      refine iteF ?_
      have tl12:=td12.same (Same.new (o:=.tup [.str "whole"]) nM12)
      have k12:KeepP Pl H11 (upd (del E12 (s.heap.objs.size+1)) M12 (.tup [.str "whole"])):=fun b o n e=>(Same.new nM12) _ _ (kd12 b o n e)
      generalize upd (del E12 (s.heap.objs.size+1)) M12 (.tup [.str "whole"])=H12 at tl12 k12 ⊢
      exact ⟨_,_,_,_,_,_,_,rfl,fun b o n e=>k12 b o n (k11 b o n (k10 b o n e)),tl12⟩
    rintro σ H10 ⟨u1,w2,w3,w4,w5,w6,w7,rfl,k10,tl10⟩
    refine ⟨tl10,fun a11 F11 kp11 tf11 na11 nP11 lf11=>?_⟩
    obtain ⟨dd11,ct11,hA11,cf11⟩:=id lf11
    refine ⟨a11,_,_,_,rfl,hA11,rfl,lamM3 X_made,spN_mono madeX_mono,lf11,N,100,.int 3,.int 0,.int 3,.int 0,rfl,dint 3 (by decide) (by decide),dint 0 (by decide) (by decide),rfl,_,22,rfl,Z.wh,.inr rfl,fun T11 E11 se11 hT11=>?_⟩
    have kd11:KeepP Pl H10 E11:=fun b o n e=>se11 _ _ (kp11 _ _ n e)
    have td11:=tf11.same se11
    have hTd11:=hT11
    refine ⟨by show 1≤sizeLine; decide,fun M11 nM11=>⟨[WRD.getD 22 ""],["whole"],⟨T11,_,rfl,(Same.new nM11) _ _ hTd11,al1s _⟩,⟨M11,_,rfl,upd_same,al1s _⟩,_,rfl,?_⟩⟩
    rw [if_pos rfl,decide_eq_true (show [WRD.getD 22 ""]=[("whole" : Str)] from rfl)]
    refine iteF ?_
    have tl11:=td11.same (Same.new (o:=.tup [.str "whole"]) nM11)
    have k11:KeepP Pl H10 (upd E11 M11 (.tup [.str "whole"])):=fun b o n e=>(Same.new nM11) _ _ (kd11 b o n e)
    generalize upd E11 M11 (.tup [.str "whole"])=H11 at tl11 k11 ⊢
    refine ⟨tl11,fun a12 F12 kp12 tf12 na12 nP12 lf12=>?_⟩
    obtain ⟨dd12,ct12,hA12,cf12⟩:=id lf12
    refine ⟨a12,_,_,_,rfl,hA12,rfl,lamM4 X_made,spN_mono madeX_mono,lf12,N,100,.non,.int 0,.none,.int 0,rfl,.non,dint 0 (by decide) (by decide),rfl,_,22,rfl,Z.wh,.inr rfl,fun T12 E12 se12 hT12=>?_⟩
    have kd12:KeepP Pl H11 E12:=fun b o n e=>se12 _ _ (kp12 _ _ n e)
    have td12:=tf12.same se12
    have hTd12:=hT12
    refine ⟨by show 1≤sizeLine; decide,fun M12 nM12=>⟨[WRD.getD 22 ""],["whole"],⟨T12,_,rfl,(Same.new nM12) _ _ hTd12,al1s _⟩,⟨M12,_,rfl,upd_same,al1s _⟩,_,rfl,?_⟩⟩
    rw [if_pos rfl,decide_eq_true (show [WRD.getD 22 ""]=[("whole" : Str)] from rfl)]
    refine iteF ?_
    have tl12:=td12.same (Same.new (o:=.tup [.str "whole"]) nM12)
    have k12:KeepP Pl H11 (upd E12 M12 (.tup [.str "whole"])):=fun b o n e=>(Same.new nM12) _ _ (kd12 b o n e)
    generalize upd E12 M12 (.tup [.str "whole"])=H12 at tl12 k12 ⊢
    have kE:KeepP Pl H9 H12:=fun b o n e=>k12 b o n (k11 b o n (k10 b o n e))
    refine ⟨_,_,_,_,_,_,_,rfl,fun b o n m e=>?_,(tw5.same S59).gvP tl9 nPP kE,tl12⟩
    have e2:=g2 b o n m e
    have bl:=ne_of_none e2 nl
    exact kE b o m (S59 _ _ (g5 b o n bl (k3B b o bl (s3 _ _ e2))))
end
structure EkK (K:PySem.W.Frag) (cl:Str→Addr):Prop where
 nm:∀ x,x∈CLS→PySem.W.nsIn K mainGlobals x=some (some (.ref (cl x)))
 vb:PySem.W.nsIn K mainGlobals "ValueError" = some none
 mpe:PySem.W.nsIn K mainGlobals "PlateError" = some (some (.ref (cl "PlateError")))
 e1:ExcK K (cl "NoFraction")
 e2:ExcK K (cl "NoWhole")
 fr:Kind K cl (cl "NoFraction") 4
 wh:Kind K cl (cl "NoWhole") 22
theorem EkK.ek {K:PySem.W.Frag} {cl:Str→Addr} {h:Heap} {mg:Str→Option Value} (z:EkK K cl) (X:K.In h) (G:h.Ns mainGlobals mg):Ek K mg cl:=⟨fun x hx=>PySem.W.mg_of X G (z.nm x hx),PySem.W.mg_none_of X G z.vb,PySem.W.mg_of X G z.mpe,z.e1,z.e2,z.fr,z.wh⟩
def BkK (K:PySem.W.Frag):Prop:=∃ (bm:Addr) (o:Obj),PySem.W.nsIn K mainGlobals "__builtins__" = some (some (.ref bm))∧bm≠builtinsNs∧bm≠mainGlobals∧K.lookup bm=some o∧o.cls=.type "module" ∧ o.dict=some builtinsNs∧o.data=.plain
theorem BkK.blt {K:PySem.W.Frag} {h:Heap} {mg:Str→Option Value} (z:BkK K) (X:K.In h) (G:h.Ns mainGlobals mg):BltK K mg:=let ⟨bm,o,e,r⟩:=z; ⟨bm,o,PySem.W.mg_of X G e,r⟩
structure Lk (K:PySem.W.Frag) (b:Str) (st:Stmt) (f:Addr):Prop where
 fn:∃ fd,Fun K b b st f fd
 a:PySem.W.nsIn K mainGlobals b=some (some (.ref f))
 k:PySem.W.keepIn K (.ref f)=true
theorem lk_mk {K:PySem.W.Frag} {b:Str} {st:Stmt} {f:Addr} {od an:Option Addr} {sl:Array (Option Value)} {oc kV dc pm cd ct:Value} (a:PySem.W.nsIn K mainGlobals b=some (some (.ref f))) (l:K.lookup f=some ⟨oc,od,.func (PySem.W.fnOf b b (defArgs st) (defBody st) (defScope st) .none kV dc pm an cd ct),sl⟩) (c:PySem.W.codeIn K cd b=true) (k:PySem.W.keepIn K (.ref f)=true):Lk K b st f:=⟨⟨_,fun_mk (st:=st) l c k⟩,a,k⟩
theorem Lk.cal {P:Program} {w:World} {K:PySem.W.Frag} {h:Heap} {mg:Str→Option Value} {base:Heap} {b:Str} {st:Stmt} {f:Addr} {k:Nat} {ps:List Str} {sp:Sp} (L:Lk K b st f) (X:K.In h) (G:h.Ns mainGlobals mg) (ok:∀ {fd},Fun K b b st f fd→FnOk P w K mg base CX0 k f fd ps sp) (hb:∀ (kV doc pm:Value) (an:Option Addr) (cdv ct:Value) (us:List Value),us.length=ps.length→bindArgs (PySem.W.fnOf b b (defArgs st) (defBody st) (defScope st) .none kV doc pm an cdv ct) ⟨us,[]⟩=pure (ps.zip us)):Cal P w K mg base b k ps sp :=
 let ⟨_,F⟩:=L.fn
 ⟨f,_,ok F,PySem.W.mg_of X G L.a,L.k,F.binds (ps:=ps) hb⟩
theorem Lk.calX {P:Program} {w:World} {K:PySem.W.Frag} {h:Heap} {mg:Str→Option Value} {base:Heap} {b:Str} {st:Stmt} {f:Addr} {k:Nat} {ps:List Str} {sp:Sp} (L:Lk K b st f) (X:K.In h) (G:h.Ns mainGlobals mg) (ok:∀ {fd},Fun K b b st f fd→FnOk P w K mg base (CX1 P w) k f fd ps sp) (hb:∀ (kV doc pm:Value) (an:Option Addr) (cdv ct:Value) (us:List Value),us.length=ps.length→bindArgs (PySem.W.fnOf b b (defArgs st) (defBody st) (defScope st) .none kV doc pm an cdv ct) ⟨us,[]⟩=pure (ps.zip us)):CalX P w K mg base b k ps sp :=
 let ⟨_,F⟩:=L.fn
 ⟨f,_,ok F,PySem.W.mg_of X G L.a,L.k,F.binds (ps:=ps) hb⟩
theorem Lk.calH {P:Program} {w:World} {K:PySem.W.Frag} {h:Heap} {mg:Str→Option Value} {base:Heap} {b:Str} {st:Stmt} {f:Addr} {k:Nat} {ps:List Str} {sp:Sp} (L:Lk K b st f) (X:K.In h) (G:h.Ns mainGlobals mg) (ok:∀ {fd},Fun K b b st f fd→FnOkH P w K mg base k f fd ps sp) (hb:∀ (kV doc pm:Value) (an:Option Addr) (cdv ct:Value) (us:List Value),us.length=ps.length→bindArgs (PySem.W.fnOf b b (defArgs st) (defBody st) (defScope st) .none kV doc pm an cdv ct) ⟨us,[]⟩=pure (ps.zip us)):CalH P w K mg base b k ps sp :=
 let ⟨_,F⟩:=L.fn
 ⟨f,_,ok F,PySem.W.mg_of X G L.a,L.k,F.binds (ps:=ps) hb⟩
theorem ln1 {P:List Value→Prop} (h:∀ x0,P [x0]):∀ us:List Value,us.length=1→P us:=fun us e=>match us,e with | [x0],_=>h x0
theorem ln2 {P:List Value→Prop} (h:∀ x0 x1,P [x0,x1]):∀ us:List Value,us.length=2→P us:=fun us e=>match us,e with | [x0,x1],_=>h x0 x1
theorem all_mk {l:PySem.W.OpenLaw} {w:World} {K:PySem.W.Frag} {h:Heap} {mg:Str→Option Value} {fa:Addr} (X:K.In h) (G:h.Ns mainGlobals mg) (hfa:mg "law" = some (.ref fa))
 {f_0:Addr} (h_0:Lk K "is_whole" s_is_whole f_0)
 {f_1:Addr} (h_1:Lk K "plain_divisor" s_plain_divisor f_1)
 {f_2:Addr} (h_2:Lk K "divisor" s_divisor f_2)
 {f_3:Addr} (h_3:Lk K "reduced" s_reduced f_3)
 {f_4:Addr} (h_4:Lk K "is_fraction" s_is_fraction f_4)
 {f_5:Addr} (h_5:Lk K "look_at_fraction" s_look_at_fraction f_5)
 {f_6:Addr} (h_6:Lk K "look_at_both" s_look_at_both f_6)
 {f_7:Addr} {od_7 an_7:Option Addr} {sl_7:Array (Option Value)} {oc_7 kV_7 dc_7 pm_7 cd_7 ct_7:Value}
 {dT_7:Addr} {dt_7:Tok} {dn_7:Nat} {oo_7:Option Addr} {os_7:Array (Option Value)} {occ_7:Value}
 (a_7:PySem.W.nsIn K mainGlobals "made" = some (some (.ref f_7)))
 (l_7:K.lookup f_7=some ⟨oc_7,od_7,.func (PySem.W.fnOf "made" "made" (defArgs s_made) (defBody s_made) (defScope s_made) (.ref dT_7) kV_7 dc_7 pm_7 an_7 cd_7 ct_7),sl_7⟩)
 (c_7:PySem.W.codeIn K cd_7 "made" = true) (k_7:PySem.W.keepIn K (.ref f_7)=true)
 (t_7:K.lookup dT_7=some ⟨occ_7,oo_7,.seq #[.int 1 dt_7] dn_7,os_7⟩)
 {f_8:Addr} (h_8:Lk K "plus" s_plus f_8)
 {f_9:Addr} (h_9:Lk K "minus" s_minus f_9)
 {f_10:Addr} (h_10:Lk K "times" s_times f_10)
 {f_11:Addr} (h_11:Lk K "over" s_over f_11)
 {f_12:Addr} (h_12:Lk K "less" s_less f_12)
 {f_13:Addr} (h_13:Lk K "_law_cell_at" s__law_cell_at f_13)
 {f_14:Addr} (h_14:Lk K "_law_state" s__law_state f_14)
 {f_15:Addr} (h_15:Lk K "_law_choice" s__law_choice f_15)
 {f_16:Addr} (h_16:Lk K "_law_low" s__law_low f_16)
 {f_17:Addr} (h_17:Lk K "_law_fraction" s__law_fraction f_17)
 {f_18:Addr} (h_18:Lk K "_law_whole" s__law_whole f_18)
 {f_19:Addr} (h_19:Lk K "_law_is_fraction" s__law_is_fraction f_19)
 {f_20:Addr} (h_20:Lk K "_law_odd" s__law_odd f_20)
 {f_21:Addr} (h_21:Lk K "_law_bent" s__law_bent0 f_21)
 {f_22:Addr} (h_22:Lk K "_law_marks" s__law_marks f_22)
 {f_23:Addr} (h_23:Lk K "_law_word" s__law_word f_23)
 {f_24:Addr} (h_24:Lk K "_law_said" s__law_said f_24)
 {f_25 cc_25 P_25:Addr} {od_25 an_25:Option Addr} {sl_25:Array (Option Value)} {oc_25 kV_25 dc_25 pm_25 ct_25:Value} (hd_25:PySem.W.codeHdIn K cc_25 P_25=true)
 (a_25:PySem.W.nsIn K mainGlobals "_law_words" = some (some (.ref f_25)))
 (l_25:K.lookup f_25=some ⟨oc_25,od_25,.func (PySem.W.fnOf "_law_words" "_law_words" (defArgs s__law_words) (defBody s__law_words) (defScope s__law_words) .none kV_25 dc_25 pm_25 an_25 (.ref cc_25) ct_25),sl_25⟩)
 (c_25:PySem.W.codeIn K (.ref cc_25) "_law_words" = true) (k_25:PySem.W.keepIn K (.ref f_25)=true)
 {f_law cc_law P_law:Addr} {od_law an_law:Option Addr} {sl_law:Array (Option Value)} {oc_law kV_law dc_law pm_law ct_law:Value} (hd_law:PySem.W.codeHdIn K cc_law P_law=true)
 (a_law:PySem.W.nsIn K mainGlobals "law" = some (some (.ref f_law)))
 (l_law:K.lookup f_law=some ⟨oc_law,od_law,.func (PySem.W.fnOf "law" "law" (defArgs s_law) (defBody s_law) (defScope s_law) .none kV_law dc_law pm_law an_law (.ref cc_law) ct_law),sl_law⟩)
 (c_law:PySem.W.codeIn K (.ref cc_law) "law" = true) (k_law:PySem.W.keepIn K (.ref f_law)=true)
 (z_abs:PySem.W.nsIn K mainGlobals "abs" = some none)
 (z_all:PySem.W.nsIn K mainGlobals "all" = some none)
 (z_bool:PySem.W.nsIn K mainGlobals "bool" = some none)
 (z_int:PySem.W.nsIn K mainGlobals "int" = some none)
 (z_isinstance:PySem.W.nsIn K mainGlobals "isinstance" = some none)
 (z_len:PySem.W.nsIn K mainGlobals "len" = some none)
 (z_list:PySem.W.nsIn K mainGlobals "list" = some none)
 (z_max:PySem.W.nsIn K mainGlobals "max" = some none)
 (z_min:PySem.W.nsIn K mainGlobals "min" = some none)
 (z_range:PySem.W.nsIn K mainGlobals "range" = some none)
 (z_repr:PySem.W.nsIn K mainGlobals "repr" = some none)
 (z_tuple:PySem.W.nsIn K mainGlobals "tuple" = some none)
 {tn_GREAT_BITS:Tok} (n_GREAT_BITS:PySem.W.nsIn K mainGlobals "GREAT_BITS" = some (some (.int 4000 tn_GREAT_BITS)))
 {cl:Str→Addr} (zk:EkK K cl) (bk:BkK K)
 : ∃ fd:FuncData,(∀ (s:Shared) (v:Value),BindsTo s fd ⟨[v],[]⟩ [("_law_script",v)])∧∀ base:Heap,K.In base→base.Ns mainGlobals mg→FnOk l.prog w K mg base CX0 11 fa fd ["_law_script"] (sp_law K P_25 P_law):=by
 have e:=hfa.symm.trans (PySem.W.mg_of X G a_law)
 cases e
 have T:Bt mg:=⟨PySem.W.mg_none_of X G z_abs,PySem.W.mg_none_of X G z_all,PySem.W.mg_none_of X G z_bool,PySem.W.mg_none_of X G z_int,PySem.W.mg_none_of X G z_isinstance,PySem.W.mg_none_of X G z_len,PySem.W.mg_none_of X G z_list,PySem.W.mg_none_of X G z_max,PySem.W.mg_none_of X G z_min,PySem.W.mg_none_of X G z_range,PySem.W.mg_none_of X G z_repr,PySem.W.mg_none_of X G z_tuple,⟨_,PySem.W.mg_of X G n_GREAT_BITS⟩⟩
 have Z:Ek K mg cl:=zk.ek X G
 have BK:BltK K mg:=bk.blt X G
 have F_7:=funD_mk (st:=s_made) l_7 c_7 k_7
 have F_25:=fun_mk (st:=s__law_words) l_25 c_25 k_25
 have F_law:=fun_mk (st:=s_law) l_law c_law k_law
 refine ⟨PySem.W.fnOf "law" "law" (defArgs s_law) (defBody s_law) (defScope s_law) .none kV_law dc_law pm_law an_law (.ref cc_law) ct_law,fun s v=>.of_eq rfl,fun base _ _=>?_⟩
 have C_0:Cal l.prog w K mg base "is_whole" 1 ["thing"] sp_wholeD:=h_0.cal X G (fun F=>ok_is_whole T F) fun _ _ _ _ _ _=>ln1 fun _=>rfl
 have C_1:Cal l.prog w K mg base "plain_divisor" 1 ["one","other"] sp_plain:=h_1.cal X G (fun F=>ok_plain_divisor T F) fun _ _ _ _ _ _=>ln2 fun _ _=>rfl
 have C_2:Cal l.prog w K mg base "divisor" 2 ["one","other"] sp_divisor:=h_2.cal X G (fun F=>ok_divisor T F C_1) fun _ _ _ _ _ _=>ln2 fun _ _=>rfl
 have C_3:Cal l.prog w K mg base "reduced" 3 ["top","bottom"] sp_reduced:=h_3.cal X G (fun F=>ok_reduced T F C_2) fun _ _ _ _ _ _=>ln2 fun _ _=>rfl
 have C_4:Cal l.prog w K mg base "is_fraction" 3 ["thing"] sp_frD:=h_4.cal X G (fun F=>ok_is_fraction T F C_2 C_0) fun _ _ _ _ _ _=>ln1 fun _=>rfl
 have X_5:CalX l.prog w K mg base "look_at_fraction" 4 ["thing"] (sp_lookX (cl "NoFraction")):=h_5.calX X G (fun F=>ok_look_at_fraction T F Z C_4) fun _ _ _ _ _ _=>ln1 fun _=>rfl
 have X_6:CalX l.prog w K mg base "look_at_both" 5 ["one","other"] (sp_bothX (cl "NoFraction")):=h_6.calX X G (fun F=>ok_look_at_both T F Z X_5) fun _ _ _ _ _ _=>ln2 fun _ _=>rfl
 have Y_7:CalXD l.prog w K mg base "made" 4 ["top","bottom"] [.int 1] (sp_madeX (cl "NoWhole")):=⟨f_7,_,[.int 1 dt_7],ok_made T F_7 Z C_0 C_3,PySem.W.mg_of X G a_7,k_7,fun s us KX hl=>(by
  have h1:us.length=1:=by simpa using hl
  match us,h1 with
  | [u0],_=>exact BindsTo.of_defaults (T:=dT_7) (items:=#[.int 1 dt_7]) rfl (KX _ _ t_7) rfl rfl rfl),.cons ⟨_,rfl⟩ .nil⟩
 have X_7:CalX l.prog w K mg base "made" 4 ["top","bottom"] (sp_madeX (cl "NoWhole")):=⟨f_7,_,ok_made T F_7 Z C_0 C_3,PySem.W.mg_of X G a_7,k_7,fun s us KX hl=>(by
  have h1:us.length=2:=by simpa using hl
  match us,h1 with
  | [u0,u1],_=>first | exact .of_eq rfl | exact BindsTo.of_defaults (T:=dT_7) (items:=#[.int 1 dt_7]) rfl (KX _ _ t_7) rfl rfl rfl)⟩
 have X_8:CalX l.prog w K mg base "plus" 6 ["one","other"] (sp_opX (cl "NoFraction") gB):=h_8.calX X G (fun F=>ok_plus T F Z C_3 X_6) fun _ _ _ _ _ _=>ln2 fun _ _=>rfl
 have X_9:CalX l.prog w K mg base "minus" 6 ["one","other"] (sp_opX (cl "NoFraction") gB):=h_9.calX X G (fun F=>ok_minus T F Z C_3 X_6) fun _ _ _ _ _ _=>ln2 fun _ _=>rfl
 have X_10:CalX l.prog w K mg base "times" 6 ["one","other"] (sp_opX (cl "NoFraction") gB):=h_10.calX X G (fun F=>ok_times T F Z C_3 X_6) fun _ _ _ _ _ _=>ln2 fun _ _=>rfl
 have X_11:CalX l.prog w K mg base "over" 6 ["one","other"] (sp_opX (cl "NoFraction") gO):=h_11.calX X G (fun F=>ok_over T F Z C_3 X_6) fun _ _ _ _ _ _=>ln2 fun _ _=>rfl
 have X_12:CalX l.prog w K mg base "less" 6 ["one","other"] (sp_opX (cl "NoFraction") gB):=h_12.calX X G (fun F=>ok_less T F Z X_6) fun _ _ _ _ _ _=>ln2 fun _ _=>rfl
 have C_13:Cal l.prog w K mg base "_law_cell_at" 1 ["_law_script","_law_k"] (sp_cell K):=h_13.cal X G (fun F=>ok__law_cell_at T F) fun _ _ _ _ _ _=>ln2 fun _ _=>rfl
 have C_14:Cal l.prog w K mg base "_law_state" 2 ["_law_script","_law_k"] (sp_state K):=h_14.cal X G (fun F=>ok__law_state T F C_13) fun _ _ _ _ _ _=>ln2 fun _ _=>rfl
 have C_15:Cal l.prog w K mg base "_law_choice" 1 ["_law_state_here","_law_many"] sp_choice:=h_15.cal X G (fun F=>ok__law_choice T F) fun _ _ _ _ _ _=>ln2 fun _ _=>rfl
 have C_16:Cal l.prog w K mg base "_law_low" 1 ["_law_top","_law_bottom"] sp_low:=h_16.cal X G (fun F=>ok__law_low T F) fun _ _ _ _ _ _=>ln2 fun _ _=>rfl
 have C_17:Cal l.prog w K mg base "_law_fraction" 2 ["_law_state_here"] (sp_drawn 60):=h_17.cal X G (fun F=>ok__law_fraction T F C_15 C_16) fun _ _ _ _ _ _=>ln1 fun _=>rfl
 have C_18:Cal l.prog w K mg base "_law_whole" 1 ["_law_thing"] sp_wholeD:=h_18.cal X G (fun F=>ok__law_whole T F) fun _ _ _ _ _ _=>ln1 fun _=>rfl
 have C_19:Cal l.prog w K mg base "_law_is_fraction" 2 ["_law_thing"] sp_lawfr:=h_19.cal X G (fun F=>ok__law_is_fraction T F C_16 C_18) fun _ _ _ _ _ _=>ln1 fun _=>rfl
 have C_20:Cal l.prog w K mg base "_law_odd" 2 ["_law_state_here"] sp_odd:=h_20.cal X G (fun F=>ok__law_odd T F C_15) fun _ _ _ _ _ _=>ln1 fun _=>rfl
 have C_x21:Cal l.prog w K mg base "_law_bent" 3 ["_law_state_here","_law_thing"] (sp_bent 0):=h_21.cal X G (fun F=>ok__law_bent0 T F C_15 C_20 C_18) fun _ _ _ _ _ _=>ln2 fun _ _=>rfl
 have C_x22:Cal l.prog w K mg base "_law_bent" 4 ["_law_state_here","_law_thing"] (sp_bent 1):=h_21.cal X G (fun F=>ok__law_bent1 T F C_x21 C_15 C_20 C_18) fun _ _ _ _ _ _=>ln2 fun _ _=>rfl
 have H_22:CalH l.prog w K mg base "_law_marks" 1 ["_law_e"] (sp_marks K cl):=h_22.calH X G (fun F=>ok__law_marks T F Z) fun _ _ _ _ _ _=>ln1 fun _=>rfl
 have H_23:CalH l.prog w K mg base "_law_word" 2 ["_law_e"] (sp_word K cl):=h_23.calH X G (fun F=>ok__law_word T F Z H_22) fun _ _ _ _ _ _=>ln1 fun _=>rfl
 have C_24:Cal l.prog w K mg base "_law_said" 9 ["_law_call"] (sp_said l.prog w K mg base cl):=h_24.cal X G (fun F=>ok__law_said T F Z H_23) fun _ _ _ _ _ _=>ln1 fun _=>rfl
 have C_25:Cal l.prog w K mg base "_law_words" 10 ["_law_one","_law_other"] (sp_words P_25):=⟨f_25,_,ok__law_words T F_25 Z rfl (fun _ Y=>PySem.W.codeHd_of_K Y hd_25) BK X_8 X_9 X_10 X_12 X_11 C_24,PySem.W.mg_of X G a_25,k_25,F_25.binds (ps:=["_law_one","_law_other"]) fun _ _ _ _ _ _=>ln2 fun _ _=>rfl⟩
 exact ok_law T F_law Z rfl (fun _ Y=>PySem.W.codeHd_of_K Y hd_law) BK X_7 Y_7 C_x22 C_17 C_19 C_20 C_24 C_14 C_25
theorem walk {l:PySem.W.OpenLaw} {q:Program} {loose:List Str} {XP:(Str→Option Value)→Heap→Prop} {YP:World→Heap→Prop} {d:DefRec} {K:Params→PySem.W.Frag} {c1 c2 P1 P2:Addr} (hn:l.most=some 63) (hdf:d.params.defaults=[]) (hne:P1≠P2)
 (hY:∀ (w:World) (h:Heap),YP w h→(K w.params).In h∧h.get? P1=some (PySem.W.tabObj #[])∧h.get? P2=some (PySem.W.tabObj #[]))
 (hc:∀ P,PySem.W.codeHdIn (K P) c1 P1=true∧PySem.W.codeHdIn (K P) c2 P2=true∧(K P).lookup P1=none∧(K P).lookup P2=none)
 (F:∀ (w:World) (mg:Str→Option Value) (fa:Addr) (h:Heap),(K w.params).In h→h.Ns mainGlobals mg→mg d.name=some (.ref fa) →
   ∃ fd:FuncData,(∀ (s:Shared) (u:Value),BindsTo s fd ⟨[u],[]⟩ [("_law_script",u)])∧∀ base:Heap,(K w.params).In base→base.Ns mainGlobals mg→FnOk l.prog w (K w.params) mg base CX0 11 fa fd ["_law_script"] (sp_law (K w.params) P1 P2)) :
 PySem.W.WalkO q loose XP YP l.row.toRowW d [] (fun f vs=>PySem.call f vs) :=
 L2.walk_ofT (n:=63) (k:=11) (x := "_law_script") (sp:=fun w=>sp_law (K w.params) P1 P2) hn (by decide) hdf ⟨rfl,by decide,by decide,rfl⟩ hY hc F fun _ _ a ns hl hS e1 e2=>⟨a,ns,rfl,hS,hl,hne,tabF_nil e1,tabF_nil e2,fun _=>rfl⟩
end My

namespace My
open PySem PySem.W PyProof.Rows L2
set_option maxRecDepth 1000000
set_option maxHeartbeats 0
def gE (P : Params) (n : Str) (t : Tok) (v : Value) : DictEntry := ⟨PySem.PyData.keyHash P n, .str n t, v⟩
def gR (P : Params) (n : Str) (t : Tok) (a : Addr) : DictEntry := gE P n t (.ref a)
def fO (n : Str) (i : Nat) (m : Str) (mt : Tok) (c : Addr) (dv : Value) : Obj := { cls := .type "function", data := .func (PySem.W.fnOf n n (defArgs (top i)) (defBody (top i)) (defScope (top i)) dv .none .none (.str m mt) none (.ref c) .none) }
def cO (n : Str) (a : Tok) (l k : Int) (r s : Addr) (u v : Value) (t : Nat) : Obj := { cls := .type "code", data := .fields (Array.mk [.str n a, .str n (a + 1), .str "/claim/cut.py" (a + 2), .int l 0, .int k 0, .int 0 0, .int 0 0, .int 3 0, .ref r, .bool true, .int 181 0, .ref (r + 1), .none, u, v, .ref s, .int t 0, .int l 0, .str "/claim/cut.py" (t + 1)]) }
def dR (n : Str) (i : Nat) (m : Str) (mt a : Tok) (l k : Int) (r : Addr) (t : Nat) : Frag := [(r + 6, fO n i m mt (r + 5) .none), (r + 5, cO n a l k r (r + 4) (.ref (r + 2)) (.ref (r + 3)) t)]
def dN (n : Str) (i : Nat) (m : Str) (mt a : Tok) (l k : Int) (r : Addr) (t : Nat) : Frag := [(r + 4, fO n i m mt (r + 3) .none), (r + 3, cO n a l k r (r + 2) .none .none t)]
def defPos (s : Stmt) : Pos := match s with | .FunctionDef _ _ _ _ _ _ _ _ _ p => p | _ => ⟨0, 0, 0, 0⟩
def vE : List Value := [.type "ValueError", .type "Exception", .type "BaseException", .type "object"]
def clO (n : Str) (a d : Addr) (t : Tok) (bs mr su : List Value) : Addr × Obj := (a, { cls := .type "type", data := .cls { name := n, bases := bs, mro := .ref a :: mr, ns := a - 1, qualname := n, subclasses := su }, slots := #[some (.ref d), none, some (.str n t), some (.str n (t + 8)), some (.builtin "ValueError.__new__"), some (.bool true)] })
def clS (n : Str) (a d : Addr) (t : Tok) : Addr × Obj := clO n a d t [.ref 59] (.ref 59 :: vE) []
def m0 : Str := "platerest.quotients"
def m1 : Str := "platerest.divisors"
def m2 : Str := "law_platerest_k03_fractions_refused"
noncomputable def kK (P : Params) : Frag := (3, { cls := .type "dict", data := (.dict #[gE P "__name__" 165 (.str "law_platerest_k03_fractions_refused" 807),
gE P "__doc__" 166 (.none),
gE P "__package__" 167 (.none),
gE P "__loader__" 168 (.builtin "__main__.__loader__#opaque"),
gE P "__spec__" 169 (.none),
gR P "__annotations__" 170 6,
gR P "__builtins__" 171 4,
gE P "__file__" 173 (.str "/claim/cut.py" 172),
gE P "__cached__" 174 (.none),
gE P "GREAT_BITS" 190 (.int 4000 189),
gE P "FEW_BITS" 192 (.int 200 191),
gR P "plain_divisor" 200 21,
gR P "few_steps" 215 28,
gR P "mixed_by" 230 35,
gR P "shrinking" 250 42,
gR P "divisor" 259 49,
gR P "PlateError" 279 59,
gR P "NoWhole" 295 72,
gR P "NoFraction" 311 84,
gR P "NoRows" 327 96,
gR P "NoPlate" 343 108,
gR P "NoMotions" 359 120,
gR P "NoLoads" 375 132,
gR P "NoHolding" 391 144,
gR P "NoWays" 407 156,
gR P "NoWay" 423 168,
gR P "NoPiece" 439 180,
gR P "NoStresses" 455 192,
gR P "NoBalance" 471 204,
gR P "NoRest" 487 216,
gR P "NoRounds" 503 228,
gR P "NoFrame" 519 240,
gR P "NoLot" 535 252,
gR P "NoInner" 551 264,
gR P "NoTurning" 567 276,
gR P "NoFirm" 583 288,
gR P "NoThick" 599 300,
gR P "NoDeed" 615 312,
gR P "NoDeeds" 631 324,
gR P "NotHeld" 647 336,
gR P "NoLine" 663 348,
gR P "TooMany" 690 367,
gR P "NoText" 715 386,
gR P "is_whole" 724 395,
gR P "reduced" 733 402,
gR P "is_fraction" 742 409,
gR P "look_at_fraction" 749 416,
gR P "look_at_both" 757 423,
gR P "made" 766 431,
gR P "plus" 774 438,
gR P "minus" 782 445,
gR P "times" 790 452,
gR P "over" 798 459,
gR P "less" 806 466,
gR P "_law_cell_at" 816 473,
gR P "_law_state" 825 480,
gR P "_law_choice" 835 487,
gR P "_law_low" 845 494,
gR P "_law_fraction" 854 501,
gR P "_law_odd" 862 508,
gR P "_law_marks" 870 515,
gR P "_law_word" 880 522,
gR P "_law_said" 888 529,
gR P "_law_whole" 895 536,
gR P "_law_is_fraction" 901 541,
gR P "_law_bent" 912 548,
gR P "_law_words" 918 553,
gR P "law" 932 560] 68) }) :: (dR "is_whole" 37 m0 716 718 104 1 389 722 ++
dR "plain_divisor" 3 m1 187 193 4 2 15 198 ++
dR "divisor" 7 m1 187 251 35 2 43 257 ++
dR "reduced" 38 m0 716 725 106 2 396 731 ++
dR "is_fraction" 39 m0 716 734 111 1 403 740 ++
dR "look_at_fraction" 40 m0 716 743 118 1 410 747 ++
dR "look_at_both" 41 m0 716 750 121 2 417 755 ++
[(431, fO "made" 42 m0 716 430 (.ref 424)), (430, cO "made" 759 124 2 425 429 (.ref 427) (.ref 428) 764), (424, { cls := .type "tuple", data := .seq #[.int 1 758] 0 })] ++
dR "plus" 43 m0 716 767 132 2 432 772 ++
dR "minus" 44 m0 716 775 135 2 439 780 ++
dR "times" 45 m0 716 783 138 2 446 788 ++
dR "over" 46 m0 716 791 141 2 453 796 ++
dR "less" 47 m0 716 799 146 2 460 804 ++
dR "_law_cell_at" 49 m2 807 809 150 2 467 814 ++
dR "_law_state" 50 m2 807 817 154 2 474 823 ++
dR "_law_choice" 51 m2 807 826 157 2 481 833 ++
dR "_law_low" 52 m2 807 836 167 2 488 843 ++
dR "_law_fraction" 53 m2 807 846 172 1 495 852 ++
dR "_law_whole" 58 m2 807 889 211 1 530 893 ++
dN "_law_is_fraction" 59 m2 807 896 213 1 537 899 ++
dR "_law_odd" 54 m2 807 855 178 1 502 860 ++
dR "_law_bent" 60 m2 807 902 217 2 542 910 ++
dR "_law_marks" 55 m2 807 863 181 1 509 868 ++
dR "_law_word" 56 m2 807 871 193 1 516 878 ++
dR "_law_said" 57 m2 807 881 206 1 523 886 ++
dN "_law_words" 61 m2 807 913 229 2 549 916 ++
dR "law" 62 m2 807 919 237 1 554 930 ++
[clO "PlateError" 59 50 262 [.type "ValueError"] vE [.ref 72, .ref 84, .ref 96, .ref 108, .ref 120, .ref 132, .ref 144, .ref 156, .ref 168, .ref 180, .ref 192, .ref 204, .ref 216, .ref 228, .ref 240, .ref 252, .ref 264, .ref 276, .ref 288, .ref 300, .ref 312, .ref 324, .ref 336, .ref 348, .ref 367, .ref 386],
clS "NoWhole" 72 63 280,
clS "NoFraction" 84 75 296,
clS "NoRows" 96 87 312,
clS "NoPlate" 108 99 328,
clS "NoMotions" 120 111 344,
clS "NoLoads" 132 123 360,
clS "NoHolding" 144 135 376,
clS "NoWays" 156 147 392,
clS "NoWay" 168 159 408,
clS "NoPiece" 180 171 424,
clS "NoStresses" 192 183 440,
clS "NoBalance" 204 195 456,
clS "NoRest" 216 207 472,
clS "NoRounds" 228 219 488,
clS "NoFrame" 240 231 504,
clS "NoLot" 252 243 520,
clS "NoInner" 264 255 536,
clS "NoTurning" 276 267 552,
clS "NoFirm" 288 279 568,
clS "NoThick" 300 291 584,
clS "NoDeed" 312 303 600,
clS "NoDeeds" 324 315 616,
clS "NotHeld" 336 327 632,
clS "NoLine" 348 339 648,
clS "TooMany" 367 351 664,
clS "NoText" 386 370 691,
(58, { cls := .type "dict", data := (.dict #[gE P "__module__" 269 (.str "platerest.errors" 260), gE P "__firstlineno__" 273 (.int 42 272), gR P "__static_attributes__" 274 57, gR P "__weakref__" 276 60, gE P "__doc__" 277 (.none)] 3) }),
(83, { cls := .type "dict", data := (.dict #[gE P "__module__" 303 (.str "platerest.errors" 260), gE P "__firstlineno__" 307 (.int 46 306), gR P "__static_attributes__" 308 82, gE P "__doc__" 309 (.none)] 2) }),
(71, { cls := .type "dict", data := (.dict #[gE P "__module__" 287 (.str "platerest.errors" 260), gE P "__firstlineno__" 291 (.int 44 290), gR P "__static_attributes__" 292 70, gE P "__doc__" 293 (.none)] 2) }),
(4, { cls := .type "module", dict := some builtinsNs })])
def kA : List Addr := [3, 395, 394, 21, 20, 49, 48, 402, 401, 409, 408, 416, 415, 423, 422, 431, 430, 424, 438, 437, 445, 444, 452, 451, 459, 458, 466, 465, 473, 472, 480, 479, 487, 486, 494, 493, 501, 500, 536, 535, 541, 540, 508, 507, 548, 547, 515, 514, 522, 521, 529, 528, 553, 552, 560, 559, 59, 72, 84, 96, 108, 120, 132, 144, 156, 168, 180, 192, 204, 216, 228, 240, 252, 264, 276, 288, 300, 312, 324, 336, 348, 367, 386, 58, 83, 71, 4]
theorem kAs : ∀ P, kA = (kK P).map (·.1) := fun _ => by kernel_rfl
def kT : List Addr := [550, 555]
def clA (x : Str) : Addr := (List.lookup x [("PlateError", 59), ("NoWhole", 72), ("NoFraction", 84), ("NoRows", 96), ("NoPlate", 108), ("NoMotions", 120), ("NoLoads", 132), ("NoHolding", 144), ("NoWays", 156), ("NoWay", 168), ("NoPiece", 180), ("NoStresses", 192), ("NoBalance", 204), ("NoRest", 216), ("NoRounds", 228), ("NoFrame", 240), ("NoLot", 252), ("NoInner", 264), ("NoTurning", 276), ("NoFirm", 288), ("NoThick", 300), ("NoDeed", 312), ("NoDeeds", 324), ("NotHeld", 336), ("NoLine", 348), ("TooMany", 367), ("NoText", 386)]).getD 0
theorem kind_is {K : PySem.W.Frag} {cl : Str → Addr} {C : Addr} {ix : Nat} (h : (CLS.map fun x => PySem.W.kitOne K (.ref C) (.ref (cl x))) = (List.range 26).map fun i => some (decide (i = ix))) : ∀ (i : Nat) x, CLS[i]? = some x → PySem.W.kitOne K (.ref C) (.ref (cl x)) = some (decide (i = ix)) := by
  intro i x e
  have q := congrArg (fun l => l[i]?) h
  simp only [List.getElem?_map, e, Option.map_some] at q
  have hi : i < 26 := (List.getElem?_eq_some_iff.mp e).1
  rw [List.getElem?_range hi] at q
  exact Option.some.inj q
theorem kz_nm (P : Params) : (CLS.map fun x => PySem.W.nsIn (kK P) mainGlobals x) = CLS.map fun x => some (some (.ref (clA x))) := by kernel_rfl
theorem kx_NoFraction (P : Params) : ExcK (kK P) (clA "NoFraction") := ⟨_, _, _, PySem.F.excBase_ValueError, by kernel_rfl⟩
theorem ky_NoFraction (P : Params) : Kind (kK P) clA (clA "NoFraction") 4 := ⟨kind_is (by kernel_rfl), by kernel_rfl, by kernel_rfl, by kernel_rfl, by kernel_rfl, by kernel_rfl, by kernel_rfl, by kernel_rfl, by kernel_rfl⟩
theorem kx_NoWhole (P : Params) : ExcK (kK P) (clA "NoWhole") := ⟨_, _, _, PySem.F.excBase_ValueError, by kernel_rfl⟩
theorem ky_NoWhole (P : Params) : Kind (kK P) clA (clA "NoWhole") 22 := ⟨kind_is (by kernel_rfl), by kernel_rfl, by kernel_rfl, by kernel_rfl, by kernel_rfl, by kernel_rfl, by kernel_rfl, by kernel_rfl, by kernel_rfl⟩
theorem kz (P : Params) : EkK (kK P) clA := ⟨List.map_inj_left.mp (kz_nm P), by kernel_rfl, by kernel_rfl, kx_NoFraction P, kx_NoWhole P, ky_NoFraction P, ky_NoWhole P⟩
theorem kb (P : Params) : BkK (kK P) := ⟨4, { cls := .type "module", dict := some builtinsNs }, by kernel_rfl, by decide, by decide, by kernel_rfl, rfl, rfl, rfl⟩
theorem h3 : ∀ w os, (topK pw 13688 w os).map (fun s => (kA.map s.abs.heap.get?, kT.map s.abs.heap.get?)) = some (((kK w.params).map fun p => some p.2, kT.map fun _ => some (tabObj #[]))) := fun w os => by
  unfold topK topStub
  rw [PySem.W.Fast.te4652649595001227023, PySem.W.Fast.te14364793385576792824, PySem.W.Fast.te17154629097778926822, PySem.W.Fast.te12822647523644345616]
  kernel_rfl
theorem left : LeftO pw qq ll (fun s => xlAt qq [] s && recOk (RowW.records (OpenRow.toRowW rr)) s) (Hook.obs (kmHook kK kA kAs kT)) (Hook.val (kmHook kK kA kAs kT)) 13688 :=
  left_of_run (T0 := bootT) (life := {}) (by kernel_rfl) (by kernel_rfl) (fun s => by kernel_rfl) boot_abs boot_size (run_of_parts (R := topK pw 13688) h1 h2 h3)
theorem lk4 {P : Params} {b : Str} {i : Nat} {f : Addr} (c : Addr) (m : Str) (mt : Tok) (h : ((kK P).lookup f, PySem.W.nsIn (kK P) mainGlobals b, PySem.W.codeIn (kK P) (.ref c) b, PySem.W.keepIn (kK P) (.ref f)) = (some (fO b i m mt c .none), some (some (.ref f)), true, true)) : Lk (kK P) b (top i) f := lk_mk (Prod.mk.inj (Prod.mk.inj h).2).1 (Prod.mk.inj h).1 (Prod.mk.inj (Prod.mk.inj (Prod.mk.inj h).2).2).1 (Prod.mk.inj (Prod.mk.inj (Prod.mk.inj h).2).2).2
theorem kl_made (P : Params) : (kK P).lookup 431 = some (fO "made" 42 m0 716 430 (.ref 424)) := by kernel_rfl
theorem ka_made (P : Params) : PySem.W.nsIn (kK P) mainGlobals "made" = some (some (.ref 431)) := by kernel_rfl
theorem kc_made (P : Params) : PySem.W.codeIn (kK P) (.ref 430) "made" = true := by kernel_rfl
theorem kk_made (P : Params) : PySem.W.keepIn (kK P) (.ref 431) = true := by kernel_rfl
theorem kt_made (P : Params) : (kK P).lookup 424 = some ⟨.type "tuple", none, .seq #[.int 1 758] 0, #[]⟩ := by kernel_rfl
theorem kh__law_words (P : Params) : PySem.W.codeHdIn (kK P) 552 550 = true := by kernel_rfl
theorem kl__law_words (P : Params) : (kK P).lookup 553 = some (fO "_law_words" 61 m2 807 552 .none) := by kernel_rfl
theorem ka__law_words (P : Params) : PySem.W.nsIn (kK P) mainGlobals "_law_words" = some (some (.ref 553)) := by kernel_rfl
theorem kc__law_words (P : Params) : PySem.W.codeIn (kK P) (.ref 552) "_law_words" = true := by kernel_rfl
theorem kk__law_words (P : Params) : PySem.W.keepIn (kK P) (.ref 553) = true := by kernel_rfl
theorem kh_law (P : Params) : PySem.W.codeHdIn (kK P) 559 555 = true := by kernel_rfl
theorem kl_law (P : Params) : (kK P).lookup 560 = some (fO "law" 62 m2 807 559 .none) := by kernel_rfl
theorem ka_law (P : Params) : PySem.W.nsIn (kK P) mainGlobals "law" = some (some (.ref 560)) := by kernel_rfl
theorem kc_law (P : Params) : PySem.W.codeIn (kK P) (.ref 559) "law" = true := by kernel_rfl
theorem kk_law (P : Params) : PySem.W.keepIn (kK P) (.ref 560) = true := by kernel_rfl
theorem hcL : ∀ P, PySem.W.codeHdIn (kK P) 552 550 = true ∧ PySem.W.codeHdIn (kK P) 559 555 = true ∧ (kK P).lookup 550 = none ∧ (kK P).lookup 555 = none := fun P => ⟨kh__law_words P, kh_law P, by kernel_rfl, by kernel_rfl⟩
def dL : DefRec := ⟨"law", defArgs (top 62), defBody (top 62), defScope (top 62), defPos (top 62)⟩
theorem hdL : defOf qq (OpenRow.toRowW rr).name = some (dL, []) := by kernel_rfl
theorem hpL : (OpenRow.toRowW rr).prog.theDef (OpenRow.toRowW rr).name = some (dL.params, dL.body, dL.scope) := by kernel_rfl
theorem hkL : kwWritten? dL.params.kwonlyargs dL.params.kw_defaults = some [] := by kernel_rfl
theorem okL : (chainsOk qq && opensWell (OpenRow.toRowW rr).prog && (frees (OpenRow.toRowW rr) && (OpenRow.toRowW rr).within.isEmpty)) = true := by kernel_rfl
theorem dfL : dL.params.defaults = [] := by kernel_rfl
theorem wkL : WalkO qq ll (XL qq []) (Hook.says (kmHook kK kA kAs kT)) (OpenRow.toRowW rr) dL [] (fun f vs => PySem.call f vs) := by
  refine My.walk (l := PySem.Challenge.rw_platerest_k03_fractions_refused) rfl dfL (by decide) (fun w h Y => ⟨PySem.W.km_in_of Y, PySem.W.km_tabs_of Y _ (by decide), PySem.W.km_tabs_of Y _ (by decide)⟩) hcL ?F
  intro w mg fa h KX G hmg
  exact all_mk KX G hmg (lk4 (f:=395) 394 m0 716 (by kernel_rfl)) (lk4 (f:=21) 20 m1 187 (by kernel_rfl)) (lk4 (f:=49) 48 m1 187 (by kernel_rfl)) (lk4 (f:=402) 401 m0 716 (by kernel_rfl)) (lk4 (f:=409) 408 m0 716 (by kernel_rfl)) (lk4 (f:=416) 415 m0 716 (by kernel_rfl)) (lk4 (f:=423) 422 m0 716 (by kernel_rfl)) (ka_made _) (kl_made _) (kc_made _) (kk_made _) (kt_made _) (lk4 (f:=438) 437 m0 716 (by kernel_rfl)) (lk4 (f:=445) 444 m0 716 (by kernel_rfl)) (lk4 (f:=452) 451 m0 716 (by kernel_rfl)) (lk4 (f:=459) 458 m0 716 (by kernel_rfl)) (lk4 (f:=466) 465 m0 716 (by kernel_rfl)) (lk4 (f:=473) 472 m2 807 (by kernel_rfl)) (lk4 (f:=480) 479 m2 807 (by kernel_rfl)) (lk4 (f:=487) 486 m2 807 (by kernel_rfl)) (lk4 (f:=494) 493 m2 807 (by kernel_rfl)) (lk4 (f:=501) 500 m2 807 (by kernel_rfl)) (lk4 (f:=536) 535 m2 807 (by kernel_rfl)) (lk4 (f:=541) 540 m2 807 (by kernel_rfl)) (lk4 (f:=508) 507 m2 807 (by kernel_rfl)) (lk4 (f:=548) 547 m2 807 (by kernel_rfl)) (lk4 (f:=515) 514 m2 807 (by kernel_rfl)) (lk4 (f:=522) 521 m2 807 (by kernel_rfl)) (lk4 (f:=529) 528 m2 807 (by kernel_rfl)) (kh__law_words _) (ka__law_words _) (kl__law_words _) (kc__law_words _) (kk__law_words _) (kh_law _) (ka_law _) (kl_law _) (kc_law _) (kk_law _) (by kernel_rfl) (by kernel_rfl) (by kernel_rfl) (by kernel_rfl) (by kernel_rfl) (by kernel_rfl) (by kernel_rfl) (by kernel_rfl) (by kernel_rfl) (by kernel_rfl) (by kernel_rfl) (by kernel_rfl) (tn_GREAT_BITS:=189) (by kernel_rfl) (kz _) (kb _)
end My
open PySem PySem.W PyProof.Rows
set_option maxRecDepth 1000000 in
set_option maxHeartbeats 0 in
theorem PySem.Challenge.cw_platerest_k03_fractions_refused_holds : PySem.Challenge.rw_platerest_k03_fractions_refused.Holds := by
  refine holds_law My.ws fun said => ?_
  refine holds_open (q := My.qq) (loose := My.ll) (Xt := fun s => xlAt My.qq [] s && recOk (RowW.records (OpenRow.toRowW My.rr)) s) (XP := XL My.qq []) (Yf := Hook.obs (kmHook My.kK My.kA My.kAs My.kT)) (Ya := Hook.val (kmHook My.kK My.kA My.kAs My.kT)) (YP := Hook.says (kmHook My.kK My.kA My.kAs My.kT)) My.left (Hook.of (kmHook My.kK My.kA My.kAs My.kT)) (Hook.keeps (kmHook My.kK My.kA My.kAs My.kT)) (fun s e => xl_of s (Bool.and_eq_true_iff.mp e).1) XL.keeps My.hdL My.hpL My.hkL (fun s e => recFacts_of (Bool.and_eq_true_iff.mp e).2) rfl said My.okL ⟨rfl, rfl, rfl, rfl, rfl, by decide +kernel⟩ ?hw My.wkL
  case hw => w_witness2
