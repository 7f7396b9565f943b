import PyProof.Rows.All
import Wide.All
import OpenK.AllK
import Wide.FinOn
import Lean
import PyProof.EqAt
import PyProof.EqKinds
import PyProof.TupleCall
import PyProof.NeKinds
import PyProof.ConsumeWalk
import PyProof.ReprRoads
import PyProof.ReprLen
import PyProof.ZipIter
import PyProof.Draws
import PyProof.EnumMake
import PySem.SetTable
import PyProof.TupleKey
import PyProof.Rows.SetFrom
import PyProof.InstEq
import PyProof.WalksMore
import PyProof.SumWalkG
import PyProof.Rows.SortWalk
import PyProof.ListRange
import KE.KSortTup
import PyProof.ListMulRoad
import PyProof.FactsAll.tuple_2
import PyProof.RaisesMany
import PyProof.ExcClass2
import OpenK.KOwn
import PyProof.ExcBaseAll.ValueError
import PyProof.RulesAs
import KE.KTryMore
import KE.KLam
import KE.KIsNot
import PyProof.ExcArgsOwn
import PyProof.ExcAttrAll.ValueError
import PySem.Challenge.RW_platerest_k23_stresses_judged
set_option Elab.async false
set_option linter.all false
set_option maxRecDepth 100000
abbrev PySem.Shared.z (s:PySem.Shared):Nat:=s.heap.objs.size
abbrev n0_:=@PySem.wpAny_bind
abbrev n1_:=@List.getElem?_eq_getElem
abbrev n2_:=@PySem.Heap.get?_push_of_some
abbrev n3_:=@List.getD_eq_getElem?_getD
abbrev n4_:=@PySem.wpAny_pure
abbrev n5_:=@List.size_toArray
abbrev n6_:=@Nat.le_refl
abbrev n7_:=@PySem.Heap.lt_size
abbrev n8_:=@decide_eq_false
abbrev n9_:=@Nat.lt_of_lt_of_le
abbrev n10_:=@PySem.Heap.get?_push_size
abbrev n11_:=@List.getElem?_map
abbrev n12_:=@List.mem_of_getElem?
abbrev n13_:=@PySem.Builtin.SmallTypes.nextOf
abbrev n14_:=@List.mem_cons
abbrev n15_:=@Bool.false_ne_true
abbrev n16_:=@List.length_cons
abbrev n17_:=@List.not_mem_nil
abbrev n18_:=@List.mem_cons_of_mem
abbrev n19_:=@decide_eq_true
abbrev n20_:=@Nat.le_of_ble_eq_true
abbrev n21_:=@List.getElem?_eq_some_iff
abbrev n22_:=@Bool.false_eq_true
abbrev n23_:=@List.length_map
abbrev n24_:=@Nat.ne_of_lt
abbrev n25_:=@List.length_append
abbrev n26_:=@PySem.Builtin.SmallTypes.ownedTupleIsFree
abbrev n27_:=@Bool.and_eq_true
abbrev n28_:=@PySem.mem_of_lookup
abbrev n29_:=@List.mem_append_right
abbrev n30_:=@PySem.W.mg_none_of
abbrev n31_:=@of_decide_eq_true
abbrev n32_:=@Nat.le_trans
abbrev n33_:=@List.all_eq_true
abbrev n34_:=@List.mem_cons_self
abbrev n35_:=@List.mem_range
abbrev n36_:=@PySem.wpAny_mono
abbrev n37_:=@PySem.wpAny_holding
abbrev n38_:=@Option.map_eq_some_iff
abbrev n39_:=@List.getElem_mem
abbrev n40_:=@List.getElem_of_mem
abbrev n41_:=@Nat.pow_le_pow_right
abbrev n42_:=@List.mem_map
abbrev n43_:=@Nat.zero_le
abbrev n44_:=@PyProof.Rows.callWith_type1
abbrev n45_:=@List.replicate_succ
abbrev n46_:=@PySem.W.kia_one
abbrev n47_:=@Bool.and_eq_true_iff
abbrev n48_:=@List.getElem?_append_left
abbrev n49_:=@Int.fmod_nonneg_of_pos
abbrev n50_:=@PySem.Heap.size_push
abbrev n51_:=@PySem.W.mg_of
abbrev n52_:=@Nat.lt_of_le_of_lt
abbrev n53_:=@Nat.mul_le_mul
abbrev n54_:=@List.getElem?_append_right
abbrev n55_:=@List.take_of_length_le
abbrev n56_:=@Nat.ne_of_gt
abbrev n57_:=@List.mem_append
abbrev n58_:=@List.map_cons
abbrev n59_:=@List.length_nil
abbrev n60_:=@List.mem_singleton
abbrev n61_:=@List.length_take
abbrev n62_:=@Int.toNat_natCast
abbrev n63_:=@Nat.lt_irrefl
abbrev n64_:=@Int.natAbs_mul
abbrev n65_:=@List.take_append_drop
abbrev n66_:=@Int.fmod_lt_of_pos
namespace L2
open PySem PySem.W PyProof.Rows
def topRunT (tb:String→Option Builtin) (p:Program) (w:World) (n0:Nat) (ann:Option Value):Nat→SharedT→Thread→Option SharedT
  | 0,_,_=>none
  | n+1,s,t=>match through t with
    | true=>some s
    | false=>match stepOk n0 ann t with
      | false=>none
      | true=>match stepT (denote tb) p w s t with
        | some (s',t')=>topRunT tb p w n0 ann n s' t'
        | none=>none
theorem Zhd {tb:String→Option Builtin} {p:Program} {w:World} {n0:Nat} {ann:Option Value}:∀ {n:Nat} {s s':SharedT} {t:Thread},topRunT tb p w n0 ann n s t=some s'→topRun tb p w n0 ann n s.abs t=some s'.abs
  | 0,_,_,_,h=>by cases h
  | n+1,s,s',t,h=>by
    unfold topRunT at h;unfold topRun;cases he:through t with
    | true=>rw [he] at h;cases h;rfl
    | false =>
      rw [he] at h;cases hk:stepOk n0 ann t with
      | false=>rw [hk] at h;cases h
      | true =>
        rw [hk] at h;cases hs:stepT (denote tb) p w s t with
        | none=>rw [hs] at h;cases h
        | some r=>obtain ⟨s2,t2⟩:=r;rw [hs] at h;rw [stepT_spec hs];exact Zhd h
def btOf:List Obj→Nat→BT→BT
  | [],_,t=>t
  | o :: os,n,t=>btOf os (n+1) (t.ins n o)
theorem Zis {p q:Program} {loose:List Str} {Xt:Shared→Bool} {α:Type} {Yf:Shared→α} {Ya:World→α} {N:Nat} {g0:Bool} {T0:Params→BT} {n0:Nat} {life:Life} {ann:Option Value}
    (e:opening p=plainProg p.main.scope.names) (hN:Nat.ble 600 N=true) (f:∀ s,fenceModules? p s=some s)
    (h0:∀ P,absHeap (T0 P) n0 life=boot_heap P)
    (size:∀ P,((boot_heap P).isNs mainGlobals,(boot_heap P).objs.size,(boot_heap P).nsMap mainGlobals "__annotations__")=(true,n0,ann))
    (run:∀ (w:World) (os:OsState),(topRunT treeTable p w n0 ann N ⟨T0 w.params,n0,life,Array.mk [],boot_drawn,boot_toks,os⟩ (topStub p)).map (fun s=>((staticsOk (importedModules p.main.body) (boot_heap w.params) s.abs.heap&&namesBound p s.abs.heap&&gensDone s.abs&&laidKept (boot_heap w.params) s.abs.heap),openSeen q loose (importedModules p.main.body) Xt g0 s.abs,Yf s.abs))=some (true,openGood q loose,Ya w)):LeftO p q loose Xt Yf Ya N g0:=fun w=>by
  obtain ⟨⟨h,gs,d,k,os⟩,e1,e2⟩:=n38_.mp (boot_open e hN f w);obtain ⟨rfl,rfl,rfl,rfl⟩:h=boot_heap w.params∧gs=Array.mk []∧d=boot_drawn∧k=boot_toks:=by simpa using e2
  obtain ⟨z1,z2,z3⟩:_∧_∧_:=by simpa only [Prod.mk.injEq] using size w.params
  obtain ⟨s,r1,r2⟩:=n38_.mp (run w os);obtain ⟨l1,l2,l3⟩:_∧_∧_:=by simpa only [Prod.mk.injEq] using r2
  have r:=Zhd r1
  have ha:SharedT.abs ⟨T0 w.params,n0,life,Array.mk [],boot_drawn,boot_toks,os⟩=⟨boot_heap w.params,Array.mk [],boot_drawn,boot_toks,os⟩:=by
    unfold SharedT.abs;rw [h0]
  rw [ha] at r
  have t:topFrom treeTable p w N ⟨boot_heap w.params,Array.mk [],boot_drawn,boot_toks,os⟩=some s.abs:=by
    unfold topFrom;dsimp only;rw [z1,z2,z3,r];show (match staticsOk (importedModules p.main.body) (boot_heap w.params) s.abs.heap&&namesBound p s.abs.heap&&gensDone s.abs&&laidKept (boot_heap w.params) s.abs.heap with|true=>_|false=>_)=_
    rw [l1]
  unfold openEnds;rw [e1];show (topFrom treeTable p w N _).map _=_
  rw [t];exact congrArg some (Prod.ext l2 l3)
lay_quick L2.topRunT
end L2
namespace L2
open PySem PySem.W PyProof.Rows
theorem Zhz {p q:Program} {loose:List Str} {Xt:Shared→Bool} {α:Type} {Yf:Shared→α} {Ya:World→α} {g0:Bool} {R:World→OsState→Option SharedT}
    (h1:∀ w os,(R w os).map (fun s=>(staticsOk (importedModules p.main.body) (boot_heap w.params) s.abs.heap&&namesBound p s.abs.heap&&gensDone s.abs&&laidKept (boot_heap w.params) s.abs.heap))=some true)
    (h2:∀ w os,(R w os).map (fun s=>openSeen q loose (importedModules p.main.body) Xt g0 s.abs)=some (openGood q loose))
    (h3:∀ w os,(R w os).map (fun s=>Yf s.abs)=some (Ya w)) (w:World) (os:OsState) :
    (R w os).map (fun s=>((staticsOk (importedModules p.main.body) (boot_heap w.params) s.abs.heap&&namesBound p s.abs.heap&&gensDone s.abs&&laidKept (boot_heap w.params) s.abs.heap),openSeen q loose (importedModules p.main.body) Xt g0 s.abs,Yf s.abs))=some (true,openGood q loose,Ya w):=by
  have a:=h1 w os;have b:=h2 w os;have c:=h3 w os;cases e:R w os with
  | none=>rw [e] at a;cases a
  | some s =>
    rw [e] at a b c;exact congrArg some (Prod.ext (Option.some.inj a) (Prod.ext (Option.some.inj b) (Option.some.inj c)))
noncomputable abbrev bootT (P:Params):BT:=btOf (boot_heap P).objs.toList 0 .nil
noncomputable def topK (p:Program) (N:Nat) (w:World) (os:OsState):Option SharedT:=topRunT treeTable p w 11 (some (.ref 6)) N ⟨bootT w.params,11,{},Array.mk [],boot_drawn,boot_toks,os⟩ (topStub p)
theorem Zos:∀ P,absHeap (bootT P) 11 {}=boot_heap P:=fun P=>by kernel_rfl
theorem Zmf:∀ P,((boot_heap P).isNs mainGlobals,(boot_heap P).objs.size,(boot_heap P).nsMap mainGlobals "__annotations__")=(true,11,some (.ref 6)):=fun P=>by kernel_rfl
def Zqb (p:Program) (names:List Str):List Str:=((p.main.body.flatMap bindsAtTop).filter fun x=>!startupNames.contains x&&!names.contains x).eraseDups
end L2

namespace My
open PySem PySem.W PyProof.Rows L2
noncomputable abbrev pw:Program:=PySem.Challenge.pw_platerest_k23_stresses_judged
noncomputable abbrev rr:OpenRow:=OpenLaw.row PySem.Challenge.rw_platerest_k23_stresses_judged
noncomputable abbrev qq:Program:=view pw [91]
noncomputable abbrev ll:List Str:=Zqb pw ["law"]
set_option maxRecDepth 1000000
set_option maxHeartbeats 0
theorem ws:OpenLaw.wellSaid PySem.Challenge.rw_platerest_k23_stresses_judged=true:=by kernel_rfl
theorem h1:∀ w os,(topK pw 14968 w os).map (fun s=>(staticsOk (importedModules pw.main.body) (boot_heap w.params) s.abs.heap&&namesBound pw s.abs.heap&&gensDone s.abs&&laidKept (boot_heap w.params) s.abs.heap))=some true:=fun w os=>by
  unfold topK topStub;rw [PySem.W.Fast.te4652649595001227023,PySem.W.Fast.te14364793385576792824,PySem.W.Fast.te17154629097778926822,PySem.W.Fast.te12822647523644345616]
  kernel_rfl
theorem h2:∀ w os,(topK pw 14968 w os).map (fun s=>openSeen qq ll (importedModules pw.main.body) (fun s=>xlAt qq [] s&&recOk (RowW.records (OpenRow.toRowW rr)) s) true s.abs)=some (openGood qq ll):=fun w os=>by
  unfold topK topStub;rw [PySem.W.Fast.te4652649595001227023,PySem.W.Fast.te14364793385576792824,PySem.W.Fast.te17154629097778926822,PySem.W.Fast.te12822647523644345616,PySem.W.Fast.te4187177175401517315]
  kernel_rfl
end My
noncomputable section
set_option Elab.async false
set_option linter.all false
set_option maxRecDepth 100000
namespace L2
open PySem PySem.Spec PyProof.Rows
theorem z0_:0≤sizeLine:=by decide
theorem z1_:1≤sizeLine:=by decide
theorem z2_:2≤sizeLine:=by decide
theorem z3_:3≤sizeLine:=by decide
theorem z4_:4≤sizeLine:=by decide
theorem z5_:5≤sizeLine:=by decide
abbrev Key:=Sum Int Str
def Zsi:Key→Value→Bool
 | .inl k,v=>Value.isInt k v
 | .inr x,v=>Value.isStrOf x v
def keyH (w:World):Key→Int
 | .inl k=>hashInt k
 | .inr x=>hashStr w x
theorem Ym:∀ {k:Key} {v:Value},Zsi k v=true→(∃ i t,k=Sum.inl i∧v=Value.int i t)∨(∃ x t,k=Sum.inr x∧v=Value.str x t)
 | .inl i,v,h=>by
   obtain ⟨t,e⟩:=Value.isInt_shape (k:=i) (v:=v) h;exact .inl ⟨i,t,rfl,e⟩
 | .inr x,v,h=>by
   obtain ⟨t,e⟩:=Value.isStrOf_shape (x:=x) (v:=v) h;exact .inr ⟨x,t,rfl,e⟩
theorem Zs7 (a b:Int):decide ((Sum.inl a:Key)=Sum.inl b)=(a == b):=by
 by_cases e:a=b
 · subst e;simp
 · have h:¬ (Sum.inl a:Key)=Sum.inl b:=fun q=>e (Sum.inl.inj q);rw [n8_ h];exact (beq_eq_false_iff_ne.mpr e).symm
theorem Zsz (a b:Str):decide ((Sum.inr a:Key)=Sum.inr b)=decide (a=b):=by
 by_cases e:a=b
 · subst e;simp
 · have h:¬ (Sum.inr a:Key)=Sum.inr b:=fun q=>e (Sum.inr.inj q);rw [n8_ h,n8_ e]
theorem Zr1 (a:Int) (b:Str):decide ((Sum.inl a:Key)=Sum.inr b)=false:=n8_ (fun q=>nomatch q)
theorem Zs0 (a:Str) (b:Int):decide ((Sum.inr a:Key)=Sum.inl b)=false:=n8_ (fun q=>nomatch q)
def Zjg (prog:Program) (w:World):PySem.KeyKind prog w Key where
 is:=Zsi
 hash:=keyH w
 inj:=fun v a b ha hb=>by
  rcases Ym ha with ⟨i,t,rfl,rfl⟩|⟨x,t,rfl,rfl⟩
  · rcases Ym hb with ⟨j,u,rfl,e⟩|⟨y,u,rfl,e⟩
    · injection e with e1 _;rw [e1]
    · exact nomatch e
  · rcases Ym hb with ⟨j,u,rfl,e⟩|⟨y,u,rfl,e⟩
    · exact nomatch e
    · injection e with e1 _;rw [e1]
 byValue:=fun k v h=>by
  rcases Ym h with ⟨i,t,rfl,rfl⟩|⟨x,t,rfl,rfl⟩<;>rfl
 pyHash:=fun hv h=>by
  rcases Ym hv with ⟨i,t,rfl,rfl⟩|⟨x,t,rfl,rfl⟩
  · exact wpAny_pyHash_int h
  · exact wpAny_pyHash_str h
 eqBool:=fun hu hv h=>by
  rcases Ym hu with ⟨i,t,rfl,rfl⟩|⟨x,t,rfl,rfl⟩
  · rcases Ym hv with ⟨j,u,rfl,rfl⟩|⟨y,u,rfl,rfl⟩
    · rw [Zs7] at h;exact wpAny_eqBool_int h
    · rw [Zr1] at h;exact SeqAt.EqAt.int_str i t y u _ _ _ _ h
  · rcases Ym hv with ⟨j,u,rfl,rfl⟩|⟨y,u,rfl,rfl⟩
    · rw [Zs0] at h;exact SeqAt.EqAt.str_int x t j u _ _ _ _ h
    · rw [Zsz] at h;exact wpAny_eqBool_str h
 «strs»:=fun k x t v h=>by
  rcases Ym h with ⟨i,u,rfl,e⟩|⟨y,u,rfl,e⟩
  · exact nomatch e
  · injection e with e1 _
    subst e1;cases v<;>rfl
inductive V where
 | non|bl (b:Bool)|int (i:Int)|str (x:Str)|byt (b:Array UInt8)|flt (b:UInt64)|ref (a:Addr)|ty (n:String)
 deriving DecidableEq
def RelV:V→Value→Prop
 | .non,u=>u=Value.none
 | .bl b,u=>u=Value.bool b
 | .int i,u=>∃ t,u=Value.int i t
 | .str x,u=>∃ t,u=Value.str x t
 | .byt b,u=>∃ t,u=Value.bytes b t
 | .flt b,u=>∃ t,u=Value.float b t
 | .ref a,u=>u=Value.ref a
 | .ty n,u=>u=Value.type n
abbrev Vals:List V→List Value→Prop:=Paired RelV
theorem Vals.length {xs:List V} {us:List Value} (r:Vals xs us):xs.length=us.length:=Paired.length r
theorem Vals.get:∀ {xs:List V} {us:List Value} {i:Nat} {x:V},Vals xs us→xs[i]? = some x→∃ u,us[i]? = some u∧RelV x u
 | _,_,_,_,.nil,e=>by simp at e
 | _,_,0,_,.cons r _,e=>by simp at e;subst e;exact ⟨_,rfl,r⟩
 | _,_,i+1,x,.cons _ t,e=>by
   obtain ⟨u,h1,h2⟩:=Vals.get (i:=i) (x:=x) t (by simpa using e);exact ⟨u,by simpa using h1,h2⟩
theorem Vals.set {x:V} {u:Value} (r:RelV x u):∀ {xs:List V} {us:List Value} (i:Nat),Vals xs us→Vals (xs.set i x) (us.set i u)
 | _,_,_,.nil=>.nil
 | _,_,0,.cons _ t=>.cons r t
 | _,_,i+1,.cons q t=>.cons q (Vals.set r i t)
theorem Vals.append:∀ {xs ys:List V} {us ws:List Value},Vals xs us→Vals ys ws→Vals (xs++ys) (us++ws)
 | _,_,_,_,.nil,s=>s
 | _,_,_,_,.cons r t,s=>.cons r (Vals.append t s)
theorem Vals.take:∀ {xs:List V} {us:List Value} (n:Nat),Vals xs us→Vals (xs.take n) (us.take n)
 | _,_,0,_=>.nil
 | _,_,_+1,.nil=>.nil
 | _,_,n+1,.cons r t=>.cons r (Vals.take n t)
theorem Vals.drop:∀ {xs:List V} {us:List Value} (n:Nat),Vals xs us→Vals (xs.drop n) (us.drop n)
 | _,_,0,r=>r
 | _,_,_+1,.nil=>.nil
 | _,_,n+1,.cons _ t=>Vals.drop n t
def RelO:Option V→Option Value→Prop
 | some v,some u=>RelV v u
 | none,none=>True
 | _,_=>False
def KV {κ:Type}:List (κ×V)→List (κ×Value)→Prop:=Paired fun (p:κ×V) (q:κ×Value)=>p.1=q.1∧RelV p.2 q.2
def kV:Key→V
 | .inl i=>.int i
 | .inr x=>.str x
inductive HO where
 | lst (xs:List V)
 | tup (xs:List V)
 | dK (kvs:List (Key×V))|dT (kvs:List (List Key×V))
 | set (S:Int→Bool) (n:Nat)
 | ins (C dx:Addr) (fs:List (Str×V))
 | own (x:Addr)
 | xd (fs:List (Str×V))
 | met (f x:Addr)
 | rng (lo hi:Int)
 | frz (o:Obj) (u:HO)
 | tbl (ps:Array Value)
 | ext (φ:Heap→Prop)
abbrev Hp:=Addr→Option HO
def upd (H:Hp) (a:Addr) (o:HO):Hp:=fun b=>if b=a then some o else H b
theorem Zc {H:Hp} {a:Addr} {o:HO}:upd H a o a=some o:=by unfold upd;rw [if_pos rfl]
theorem Zs {H:Hp} {a b:Addr} {o:HO} (h:b≠a):upd H a o b=H b:=by unfold upd;rw [if_neg h]
theorem Zrk {H:Hp} {a:Addr} {o u:HO}:upd (upd H a o) a u=upd H a u:=by
 funext b;unfold upd;split<;>rfl
theorem Zdd {H:Hp} {a b:Addr} {o u:HO} (h:H a=some o) (h':H b=some u) (d:o≠u):a≠b:=by
 intro e;subst e;rw [h] at h';exact d (Option.some.inj h')
theorem Zr {H:Hp} {a b:Addr} {o:HO} (h:H a=some o) (h':H b=none):a≠b:=by
 intro e;subst e;rw [h] at h';cases h'
section
variable (P:Program) (w:World)
def ObjOk (H:Hp) (h:Heap) (a:Addr):HO→Prop
 | .lst xs=>xs.length≤sizeLine∧∃ (its:List Value) (n:Nat),Vals xs its∧h.get? a=some { cls:=.type "list",data:=.seq its.toArray n }
 | .tup xs=>xs.length≤sizeLine∧∃ its:List Value,Vals xs its∧IsTup h a its.toArray
 | .dK kvs=>kvs.length≤sizeLine∧(a == sysModules)=false∧∃ vs,KV kvs vs∧h.DictOf (Zjg P w) a vs
 | .dT kvs=>kvs.length≤sizeLine∧(a == sysModules)=false∧∃ xs:List (List Key×Addr×Value),
    Paired (fun (p:List Key×V) (q:List Key×Addr×Value)=>p.1=q.1∧H q.2.1=some (.tup (p.1.map kV))∧RelV p.2 q.2.2) kvs xs ∧
    ∃ o es ep,h.get? a=some o∧o.ExactDict∧o.data=.dict es ep∧es.toList=xs.map (entryOfKey (tupleKind (Zjg P w)))∧(xs.map (·.1)).Nodup
 | .set S n=>h.SetOf (intKind P w) a S n
 | .ins C dx fs=>H dx=some (.own a)∧fs.length≤1000∧dx≠a∧h.get? a=some (PySem.W.instObj C dx) ∧
    ∃ mA,h.Ns1 dx mA∧(∀ f,RelO (fs.lookup f) (mA f))∧PySem.Within mA (fs.map (·.1))
 | .own _=>∃ o,h.get? a=some o
 | .xd fs=>∃ mA,h.Ns1 a mA∧∀ f,RelO (fs.lookup f) (mA f)
 | .rng lo hi=>∃ t u v,h.get? a=some { cls:=.type "range",data:=.fields #[.int lo t,.int hi u,.int 1 v] }
 | .frz o u=>h.get? a=some o∧ObjOk H h a u
 | .tbl ps=>h.get? a=some { cls:=.none,data:=.fields ps }
 | .met f x=>h.get? a=some (PySem.W.methodObj (.ref f) (.ref x))
 | .ext φ=>φ h∧(∃ o,h.get? a=some o)∧∀ h1 h2:Heap,φ h1→(∀ o,h1.get? a=some o→h2.get? a=some o)→φ h2
def HOk (H:Hp) (h:Heap):Prop:=∀ a o,H a=some o→ObjOk P w H h a o
end
section
variable {P:Program} {w:World} {H H':Hp} {h h':Heap} {a:Addr} {o:HO}
theorem ObjOk.lt (x:ObjOk P w H h a o):a<h.objs.size:=by
 cases o with
 | lst xs=>obtain ⟨_,_,_,_,e⟩:=x;exact n7_ e
 | tup xs=>obtain ⟨_,_,_,p⟩:=x;exact p.lt
 | dK kvs=>obtain ⟨_,_,_,_,o,_,_,e,_⟩:=x;exact n7_ e
 | dT kvs=>obtain ⟨_,_,_,_,o,_,_,e,_⟩:=x;exact n7_ e
 | set S n=>obtain ⟨o,_,_,_,e,_⟩:=x;exact n7_ e
 | ins C dx fs=>obtain ⟨_,_,_,e,_⟩:=x;exact n7_ e
 | own y=>obtain ⟨_,e⟩:=x;exact n7_ e
 | xd fs=>obtain ⟨_,⟨_,_,_,e,_⟩,_⟩:=x;exact n7_ e
 | rng lo hi=>obtain ⟨_,_,_,e⟩:=x;exact n7_ e
 | frz ob u=>obtain ⟨e,_⟩:=x;exact n7_ e
 | tbl ps=>exact n7_ (show h.get? a=some _ from x)
 | met f y=>exact n7_ (show h.get? a=some _ from x)
 | ext φ=>obtain ⟨_,⟨_,e⟩,_⟩:=x;exact n7_ e
theorem Paired.mapP {α β:Type} {F G:α→β→Prop}:∀ {l₁:List α} {l₂:List β},Paired F l₁ l₂→(∀ a b,F a b→G a b)→Paired G l₁ l₂
 | _,_,.nil,_=>.nil
 | _,_,.cons r t,f=>.cons (f _ _ r) (Paired.mapP t f)
theorem ObjOk.stay (x:ObjOk P w H h a o) (k:∀ b u,(b=a∨H b=some (.own a))→h.get? b=some u→h'.get? b=some u)
 (ho:∀ b,H b=some (.own a)→H' b=some (.own a)) (ht:∀ b xs,H b=some (.tup xs)→H' b=some (.tup xs)):ObjOk P w H' h' a o:=by
 induction o with
 | lst xs=>obtain ⟨z,its,n,r,e⟩:=x;exact ⟨z,its,n,r,k _ _ (.inl rfl) e⟩
 | tup xs=>obtain ⟨z,its,r,ob,e,c⟩:=x;exact ⟨z,its,r,ob,k _ _ (.inl rfl) e,c⟩
 | dK kvs=>obtain ⟨z,y,vs,r,ob,es,ep,e,c⟩:=x;exact ⟨z,y,vs,r,ob,es,ep,k _ _ (.inl rfl) e,c⟩
 | dT kvs =>
   obtain ⟨z,y,xs,r,ob,es,ep,e,c⟩:=x;exact ⟨z,y,xs,Paired.mapP r fun p q z=>⟨z.1,ht _ _ z.2.1,z.2.2⟩,ob,es,ep,k _ _ (.inl rfl) e,c⟩
 | set S n=>obtain ⟨ob,es,ep,t,e,c⟩:=x;exact ⟨ob,es,ep,t,k _ _ (.inl rfl) e,c⟩
 | ins C dx fs =>
   obtain ⟨d,z,ne,e,mA,⟨od,es,ep,e2,c⟩,r⟩:=x;exact ⟨ho _ d,z,ne,k _ _ (.inl rfl) e,mA,⟨od,es,ep,k _ _ (.inr d) e2,c⟩,r⟩
 | own y=>obtain ⟨ob,e⟩:=x;exact ⟨ob,k _ _ (.inl rfl) e⟩
 | xd fs=>obtain ⟨mA,⟨od,es,ep,e,c⟩,r⟩:=x;exact ⟨mA,⟨od,es,ep,k _ _ (.inl rfl) e,c⟩,r⟩
 | rng lo hi=>obtain ⟨t,u,v,e⟩:=x;exact ⟨t,u,v,k _ _ (.inl rfl) e⟩
 | frz ob u ih=>obtain ⟨e,q⟩:=x;exact ⟨k _ _ (.inl rfl) e,ih q⟩
 | tbl ps =>
   have e:h.get? a=some { cls:=.none,data:=.fields ps }:=x;show h'.get? a=some { cls:=.none,data:=.fields ps }
   exact k a _ (.inl rfl) e
 | met f y =>
   have e:h.get? a=some (PySem.W.methodObj (.ref f) (.ref y)):=x;show h'.get? a=some (PySem.W.methodObj (.ref f) (.ref y))
   exact k a _ (.inl rfl) e
 | ext φ=>obtain ⟨p,⟨o,e⟩,st⟩:=x;exact ⟨st _ _ p fun o q=>k _ _ (.inl rfl) q,⟨o,k _ _ (.inl rfl) e⟩,st⟩
theorem HOk.lt (x:HOk P w H h) (e:H a=some o):a<h.objs.size:=(x a o e).lt
theorem HOk.fresh (x:HOk P w H h) (e:h.objs.size≤a):H a=none:=by
 cases q:H a with
 | none=>rfl
 | some u=>exact absurd (n9_ (x.lt q) e) (n63_ _)
theorem HOk.kept (x:HOk P w H h) (k:∀ b u,h.get? b=some u→h'.get? b=some u):HOk P w H h':=fun a o e =>
 (x a o e).stay (fun b u _ q=>k b u q) (fun _ q=>q) fun _ _ q=>q
theorem HOk.laid (x:HOk P w H h) (k:∀ b u,h.get? b=some u→h'.get? b=some u) (hp:h.objs.size≤a) (new:ObjOk P w (upd H a o) h' a o):HOk P w (upd H a o) h':=fun b u e=>by
 have hn:=x.fresh hp
 by_cases hb:b=a
 · subst hb;rw [Zc] at e;cases e;exact new
 · rw [Zs hb] at e;exact (x b u e).stay (fun c v _ q=>k c v q) (fun c q=>by rw [Zs (Zr q hn)];exact q) fun c xs q=>by rw [Zs (Zr q hn)];exact q
end
def Rd (H:Hp) (a:Addr) (u:HO):Prop:=H a=some u∨∃ o,H a=some (.frz o u)
theorem Rd.ok {P:Program} {w:World} {H:Hp} {h:Heap} {a:Addr} {u:HO} (r:Rd H a u) (x:HOk P w H h):ObjOk P w H h a u:=by
 rcases r with r|⟨o,r⟩
 · exact x a u r
 · obtain ⟨_,q⟩:=x a _ r;exact q
def Mut:Option HO→Prop
 | some (.lst _)=>True
 | some (.dK _)=>True
 | some (.dT _)=>True
 | some (.set _ _)=>True
 | some (.ins _ _ _)=>True
 | some (.ext _)=>True
 | _=>False
section
variable {P:Program} {w:World} {H:Hp} {h h':Heap} {x e:Addr} {o':HO}
theorem HOk.write (ok:HOk P w H h) (mu:Mut (H x)) (he:e=x∨H e=some (.own x)) (k:∀ b u,b≠e→h.get? b=some u→h'.get? b=some u) (heo:∃ u,h'.get? e=some u)
 (new:ObjOk P w (upd H x o') h' x o'):HOk P w (upd H x o') h':=fun b u q=>by
 have nown:∀ c y,H c=some (.own y)→c≠x:=fun c y r z=>by subst z;rw [r] at mu;exact mu
 have ntup:∀ c xs,H c=some (.tup xs)→c≠x:=fun c xs r z=>by subst z;rw [r] at mu;exact mu
 by_cases hb:b=x
 · subst hb;rw [Zc] at q;cases q;exact new
 · rw [Zs hb] at q
   by_cases hbe:b=e
   · have q':H b=some (.own x):=by
      rcases he with z|z
      · exact absurd (hbe.trans z) hb
      · rw [hbe];exact z
     rw [q] at q';cases q';obtain ⟨v,hv⟩:=heo;exact ⟨v,by rw [hbe];exact hv⟩
   · refine (ok b u q).stay (fun c v hc r=>k c v ?_ r) (fun c r=>by rw [Zs (nown c b r)];exact r) fun c xs r=>by rw [Zs (ntup c xs r)];exact r
     rcases hc with rfl|hc
     · exact hbe
     · rintro rfl
       rcases he with z|z
       · exact nown c b hc z
       · rw [hc] at z;cases z;exact hb rfl
end
structure Un (fs ex:List Addr) (H H':Hp) (h h':Heap):Prop where
 keep:∀ b o,h.get? b=some o→H b=none→b∉fs→b∉ex→h'.get? b=some o
 slot:∀ b o,h.get? b=some o→H b=none→b∈fs→b∉ex→∃ sl,h'.get? b=some { o with slots:=sl }
 free:∀ b o,h.get? b=some o→H b=none→b∉ex→H' b=none
 there:∀ b o,h.get? b=some o→b∉ex→∃ o',h'.get? b=some o'
 tups:∀ b xs,H b=some (.tup xs)→H' b=some (.tup xs)
 frzs:∀ b o u,H b=some (.frz o u)→H' b=some (.frz o u)
 tbls:∀ b ps,H b=some (.tbl ps)→∃ more,H' b=some (.tbl (ps++more))
section
variable {fs fs' ex ex':List Addr} {H H1 H2:Hp} {h h1 h2 h':Heap} {a x e:Addr} {o:HO}
theorem Un.any (u:Un fs ex H H1 h h1) {b:Addr} {ob:Obj} (q:h.get? b=some ob) (n:H b=none) (hx:b∉ex):∃ sl,h1.get? b=some { ob with slots:=sl }:=by
 by_cases hb:b∈fs
 · exact u.slot b ob q n hb hx
 · exact ⟨ob.slots,u.keep b ob q n hb hx⟩
theorem Un.kept (k:∀ b u,h.get? b=some u→h'.get? b=some u):Un fs ex H H h h' :=
 ⟨fun b ob q _ _ _=>k b ob q,fun b ob q _ _ _=>⟨ob.slots,k b ob q⟩,fun _ _ _ n _=>n,fun b ob q _=>⟨ob,k b ob q⟩,fun _ _ q=>q,fun _ _ _ q=>q,fun _ ps q=>⟨#[],by rw [q];simp⟩⟩
theorem Un.refl:Un fs ex H H h h:=Un.kept fun _ _ q=>q
theorem Un.laid (k:∀ b u,h.get? b=some u→h'.get? b=some u) (hp:h.objs.size≤a) (hn:H a=none):Un fs ex H (upd H a o) h h' where
 keep:=fun b u q _ _ _=>k b u q
 slot:=fun b u q _ _ _=>⟨u.slots,k b u q⟩
 free:=fun b u q n _=>by rw [Zs (n24_ (n9_ (n7_ q) hp))];exact n
 there:=fun b u q _=>⟨u,k b u q⟩
 tups:=fun b xs q=>by rw [Zs (Zr q hn)];exact q
 frzs:=fun b u xs q=>by rw [Zs (Zr q hn)];exact q
 tbls:=fun b ps q=>⟨#[],by rw [Zs (Zr q hn),q];simp⟩
theorem Un.write (mu:Mut (H x)) (he:e=x∨H e=some (.own x)) (k:∀ b u,b≠e→h.get? b=some u→h'.get? b=some u) (heo:∃ u,h'.get? e=some u):Un fs ex H (upd H x o) h h':=by
 have hx:∀ b,H b=none→b≠x:=fun b n z=>by subst z;rw [n] at mu;exact mu
 have hb:∀ b,H b=none→b≠e:=fun b n z=>by
  subst z
  rcases he with r|r
  · exact hx b n r
  · rw [n] at r;cases r
 have hm:∀ b u,H b=some u→¬ Mut (some u)→b≠x:=fun b u q nm z=>by subst z;rw [q] at mu;exact nm mu
 refine ⟨fun b u q n _ _=>k b u (hb b n) q,fun b u q n _ _=>⟨u.slots,k b u (hb b n) q⟩,fun b u q n _=>by rw [Zs (hx b n)];exact n,fun b u q _=>?_,
  fun b xs q=>by rw [Zs (hm b _ q fun z=>z)];exact q,fun b u xs q=>by rw [Zs (hm b _ q fun z=>z)];exact q,fun b ps q=>⟨#[],by rw [Zs (hm b _ q fun z=>z),q];simp⟩⟩
 by_cases hbe:b=e
 · subst hbe;exact heo
 · exact ⟨u,k b u hbe q⟩
end
def trk (h:Heap) (H:Hp):List Addr:=(List.range h.objs.size).filter fun a=>(H a).isSome
def hidT (h:Heap) (H:Hp):Heap:=PySem.W.hideAll h (trk h H)
theorem Zn3 (h:Heap) (H:Hp):(hidT h H).objs.size=h.objs.size:=PySem.W.hideAll_size _ _
theorem Zoq {h:Heap} {H:Hp} {b:Addr} {o:Obj} (e:h.get? b=some o) (n:H b=none):(hidT h H).get? b=some o :=
 PySem.W.hideAll_get _ e fun hm=>by
  have q:(H b).isSome=true:=(List.mem_filter.mp hm).2;rw [n] at q;simp at q
theorem Zq3 {h:Heap} {H:Hp} {b:Addr} {o:Obj} (e:(hidT h H).get? b=some o):h.get? b=some o∧H b=none:=by
 have e':h.get? b=some o:=PySem.W.of_hideAll (trk h H) e;refine ⟨e',?_⟩;cases q:H b with
 | none=>rfl
 | some x =>
   have hm:b∈trk h H:=List.mem_filter.mpr ⟨n35_.mpr (n7_ e'),by simp [q]⟩;have z:(hidT h H).get? b=none:=PySem.W.hideAll_none (trk h H) hm;rw [z] at e;cases e
structure Mod (K:PySem.W.Frag) (mg:Str→Option Value) (base:Heap):Prop where
 kin:K.In base
 glob:base.Ns mainGlobals mg
 blt:∃ mb,base.Ns builtinsNs mb∧∀ x:Str,x ≠ "__name__" → mb x=bootBuiltins x
 nolimit:base.NoLimit
structure Cx where
 prog:Program
 w:World
 K:PySem.W.Frag
 mg:Str→Option Value
 base:Heap
 A:Around
 N:List Str
 s₀:Shared
 H₀:Hp
 env:Env
 outer:List Env
 stack:List Env
 ex:List Addr
 fn:Str→Bool
 calm:Bool
 pn:List (Addr×Obj)
 xe:Value→Shared→Prop
def frs (l:List Env):List Addr:=l.filterMap (·.frame)
abbrev Cx.fs (X:Cx):List Addr:=frs X.outer
def Vis (sc:Scope) (x:Str):Prop:=sc.names.lookup x=some .local∨sc.names.lookup x=some .cell∨sc.names.lookup x=some .free
def Loc (sc:Scope) (x:Str):Prop:=sc.names.lookup x=some .local∨sc.names.lookup x=some .cell
def Look (env:Env) (h:Heap) (m:Str→Option Value) (x:Str) (u:Value):Prop :=
 (env.kindOf x=some .local∧m x=some u)∨((env.kindOf x=some .cell∨env.kindOf x=some .free)∧∃ c,env.cells.lookup x=some c∧h.IsCell c (some u))
structure Cx.Ok (X:Cx):Prop where
 mod:Mod X.K X.mg X.base
 kind:X.env.scope.kind=.function
 glob:X.env.globals=mainGlobals
 blt:X.env.builtins=builtinsNs
 above:X.s₀.z≤X.env.locals
 inj:∀ x y c,X.env.cells.lookup x=some c→X.env.cells.lookup y=some c→x=y
 has:∀ x,(X.env.kindOf x=some .cell∨X.env.kindOf x=some .free)→∃ c,X.env.cells.lookup x=some c
 cab:∀ x c,X.fn x=true→X.env.cells.lookup x=some c→X.s₀.z≤c
 hd:X.calm=true→X.A.handled=none
 frames:X.A.frames=some X.stack
 stk:X.stack=X.outer∨(X.stack=X.env :: X.outer∧X.env.frame=some X.env.locals)
 exf:∀ b∈X.ex,b≠X.env.locals∧∀ x c,X.env.cells.lookup x=some c→c≠b
 bs:∀ b o,X.base.get? b=some o→X.s₀.heap.get? b=some o∧X.H₀ b=none
 bsz:X.base.objs.size≤X.s₀.z
 noex:∀ b o,X.base.get? b=some o→b∉X.ex
 exfs:∀ b∈X.ex,b∉X.fs
 funs:X.s₀.heap.FunFrames X.base X.outer
 frf:∀ b∈X.fs,X.H₀ b=none
structure Inv (X:Cx) (pins:List (Addr×Obj)) (σ:List (Option V)) (H:Hp) (s:Shared):Prop where
 ok:X.Ok
 os:s.os=X.s₀.os
 bare:AllBare s.gens
 base:Un X.fs X.ex X.H₀ H X.s₀.heap s.heap
 loc:∃ m,s.heap.Ns X.env.locals m∧∀ (i:Nat) (x:Str) (v:V),X.N[i]? = some x→σ[i]? = some (some v)→Vis X.env.scope x→∃ u,RelV v u∧Look X.env s.heap m x u
 cell:∀ x c,X.env.cells.lookup x=some c→∃ v,s.heap.IsCell c v
 free:H X.env.locals=none
 freeC:∀ x c,X.env.cells.lookup x=some c→H c=none∨(X.fn x=false∧∃ o u,H c=some (.frz o u))
 pin:∀ p∈X.pn++pins,s.heap.get? p.1=some p.2∧H p.1=none∧p.1≠X.env.locals∧p.1∉X.fs∧∀ v,p.2.data≠.cell v
 hok:HOk X.prog X.w H s.heap
 len:σ.length=X.N.length
section
variable {X:Cx} {pins:List (Addr×Obj)} {σ:List (Option V)} {H H':Hp} {s:Shared} {h':Heap}
theorem Cx.Ok.nofr (ok:X.Ok) {b:Addr} {o:Obj} (e:X.base.get? b=some o):b∉X.fs:=fun hb=>by
 have:=(ok.funs.mem hb).1
 rw [e] at this;cases this
theorem Inv.bs (I:Inv X pins σ H s):∀ b o,X.base.get? b=some o→s.heap.get? b=some o∧H b=none:=fun b o e =>
 ⟨I.base.keep b o (I.ok.bs b o e).1 (I.ok.bs b o e).2 (I.ok.nofr e) (I.ok.noex b o e),I.base.free b o (I.ok.bs b o e).1 (I.ok.bs b o e).2 (I.ok.noex b o e)⟩
theorem Inv.bk (I:Inv X pins σ H s):∀ b o,X.base.get? b=some o→s.heap.get? b=some o:=fun b o e=>(I.bs b o e).1
theorem Inv.mod (I:Inv X pins σ H s):Mod X.K X.mg X.base:=I.ok.mod
theorem Inv.kIn (I:Inv X pins σ H s):X.K.In s.heap:=I.ok.mod.kin.keeps I.bk
theorem Inv.lt (I:Inv X pins σ H s):X.env.locals<s.z:=let ⟨_,hn,_⟩:=I.loc;hn.lt
theorem Inv.sz (I:Inv X pins σ H s):X.s₀.z≤s.z:=n32_ I.ok.above (Nat.le_of_lt I.lt)
theorem Inv.nofs (I:Inv X pins σ H s) {a:Addr} (h:s.z≤a):a∉X.fs:=fun hb=>by
 obtain ⟨_,o,ho,_⟩:=I.ok.funs.mem hb;exact absurd (n9_ (n7_ ho) (n32_ I.sz h)) (n63_ _)
theorem Inv.cne (I:Inv X pins σ H s):∀ x c,X.env.cells.lookup x=some c→c≠X.env.locals:=fun x c e z=>by
 obtain ⟨v,o,ho,hd⟩:=I.cell x c e;obtain ⟨m,⟨o',es,ep,ho',hd',_⟩,_⟩:=I.loc;rw [z,ho'] at ho;cases ho;rw [hd'] at hd;cases hd
theorem Inv.funs (I:Inv X pins σ H s):s.heap.FunFrames X.base X.outer:=by
 have all:∀ (l:List Env),(∀ b∈frs l,b∈X.fs)→X.s₀.heap.FunFrames X.base l→s.heap.FunFrames X.base l:=by
  intro l
  induction l with
  | nil=>intro _ _;trivial
  | cons env r ih =>
    intro hs hl;obtain ⟨hk,⟨L,o,hf,hn,ho,hd⟩,hr⟩:=hl;have hL:L∈X.fs:=hs L (by unfold frs;rw [List.filterMap_cons,hf];exact n34_);obtain ⟨sl,e⟩:=I.base.slot L o ho (I.ok.frf L hL) hL fun z=>I.ok.exfs L z hL;exact ⟨hk,⟨L,_,hf,hn,e,hd⟩,ih (fun b hb=>hs b (by unfold frs;rw [List.filterMap_cons,hf];exact n18_ _ hb)) hr⟩
 exact all X.outer (fun _ hb=>hb) I.ok.funs
theorem Inv.stack (I:Inv X pins σ H s):s.heap.FunFrames X.base X.stack:=by
 rcases I.ok.stk with e|⟨e,hf⟩
 · rw [e];exact I.funs
 · rw [e];obtain ⟨m,hn,_⟩:=I.loc;refine .cons (by rw [I.ok.kind];decide) hf hn ?_ I.funs;exact Heap.get?_none_of_le (n32_ I.ok.bsz I.ok.above)
theorem Inv.stkSub (I:Inv X pins σ H s):∀ b∈frs X.stack,b∈X.env.locals :: X.fs:=fun b hb=>by
 rcases I.ok.stk with e|⟨e,hf⟩
 · rw [e] at hb;exact n18_ _ hb
 · rw [e] at hb;unfold frs at hb;rw [List.filterMap_cons,hf] at hb;exact hb
theorem Inv.stkFree (I:Inv X pins σ H s):∀ b∈frs X.stack,H b=none:=fun b hb=>by
 rcases n14_.mp (I.stkSub b hb) with e|hb
 · rw [e];exact I.free
 · obtain ⟨_,o,ho,_⟩:=I.ok.funs.mem hb;exact I.base.free b o ho (I.ok.frf b hb) fun z=>I.ok.exfs b z hb
theorem Inv.step {g':Array GenState} {t':Nat} {d':Drawn} {ch:List Addr} (I:Inv X pins σ H s)
 (hch:∀ b∈ch,(b∈X.ex∨X.s₀.z≤b)∧b≠X.env.locals∧(∀ x c,X.env.cells.lookup x=some c→c≠b)∧∀ p∈X.pn++pins,p.1≠b)
 (keep:∀ b o,b≠X.env.locals→b∉X.fs→b∉ch→s.heap.get? b=some o→H b=none→h'.get? b=some o)
 (slot:∀ b o,b≠X.env.locals→b∈X.fs→b∉ch→s.heap.get? b=some o→H b=none→∃ sl,h'.get? b=some { o with slots:=sl }) (free:∀ b o,b∉ch→s.heap.get? b=some o→H b=none→H' b=none)
 (there:∀ b o,b∉ch→s.heap.get? b=some o→∃ o',h'.get? b=some o')
 (tups:∀ b xs,H b=some (.tup xs)→H' b=some (.tup xs)) (frzs:∀ b o u,H b=some (.frz o u)→H' b=some (.frz o u)) (tbls:∀ b ps,H b=some (.tbl ps)→∃ more,H' b=some (.tbl (ps++more)))
 (ns:∀ m,s.heap.Ns X.env.locals m→h'.Ns X.env.locals m) (hok:HOk X.prog X.w H' h') (hg:AllBare g') :
 Inv X pins σ H' { s with heap:=h',gens:=g',drawn:=d',toks:=t' }:=by
 have neL:∀ b o,X.s₀.heap.get? b=some o→b≠X.env.locals:=fun b o e=>n24_ (n9_ (n7_ e) I.ok.above)
 have neC:∀ b o,X.s₀.heap.get? b=some o→b∉X.ex→b∉ch:=fun b o e hx hb=>by
  rcases (hch b hb).1 with z|z
  · exact hx z
  · exact absurd (n9_ (n7_ e) z) (n63_ _)
 have cellK:∀ x c,X.env.cells.lookup x=some c→∀ v,s.heap.IsCell c v→h'.IsCell c v:=fun x c e v ⟨o,ho,hd⟩=>by
  have nch:c∉ch:=fun z=>(hch c z).2.2.1 x c e rfl
  rcases I.freeC x c e with fz|⟨_,o',u',fz⟩
  · by_cases hc:c∈X.fs
    · obtain ⟨sl,q⟩:=slot c o (I.cne x c e) hc nch ho fz;exact ⟨_,q,hd⟩
    · exact ⟨o,keep c o (I.cne x c e) hc nch ho fz,hd⟩
  · have h1:=(I.hok c _ fz).1;rw [ho] at h1;cases h1;exact ⟨o,(hok c _ (frzs c o u' fz)).1,hd⟩
 refine ⟨I.ok,I.os,hg,⟨fun b o e n hb hx=>?_,fun b o e n hb hx=>?_,fun b o e n hx=>?_,fun b o e hx=>?_,fun b xs e=>tups b xs (I.base.tups b xs e),fun b o xs e=>frzs b o xs (I.base.frzs b o xs e),fun b ps e=>?_⟩,?_,fun x c e=>?_,?_,fun x c e=>?_,fun p hp=>?_,hok,I.len⟩
 · exact keep b o (neL b o e) hb (neC b o e hx) (I.base.keep b o e n hb hx) (I.base.free b o e n hx)
 · obtain ⟨sl,e1⟩:=I.base.slot b o e n hb hx;obtain ⟨sl',e2⟩:=slot b _ (neL b o e) hb (neC b o e hx) e1 (I.base.free b o e n hx);exact ⟨sl',e2⟩
 · obtain ⟨o',e1⟩:=I.base.there b o e hx;exact free b o' (neC b o e hx) e1 (I.base.free b o e n hx)
 · obtain ⟨o',e1⟩:=I.base.there b o e hx;exact there b o' (neC b o e hx) e1
 · obtain ⟨m1,e1⟩:=I.base.tbls b ps e;obtain ⟨m2,e2⟩:=tbls b _ e1;exact ⟨m1++m2,by rw [e2,Array.append_assoc]⟩
 · obtain ⟨m,hn,hl⟩:=I.loc;refine ⟨m,ns m hn,fun i x v e1 e2 e3=>?_⟩;obtain ⟨u,r,l⟩:=hl i x v e1 e2 e3;refine ⟨u,r,?_⟩
   rcases l with l|⟨k,c,e,z⟩
   · exact .inl l
   · exact .inr ⟨k,c,e,cellK x c e _ z⟩
 · obtain ⟨v,z⟩:=I.cell x c e;exact ⟨v,cellK x c e v z⟩
 · obtain ⟨m,⟨o,_,_,ho,_⟩,_⟩:=I.loc;exact free _ o (fun z=>(hch _ z).2.1 rfl) ho I.free
 · obtain ⟨v,o,ho,hd⟩:=I.cell x c e;exact (I.freeC x c e).imp (fun fz=>free c o (fun z=>(hch c z).2.2.1 x c e rfl) ho fz) fun ⟨q,o',u',fz⟩=>⟨q,o',u',frzs c o' u' fz⟩
 · obtain ⟨e,n,ne,nf,d⟩:=I.pin p hp;have nch:p.1∉ch:=fun z=>(hch p.1 z).2.2.2 p hp rfl;exact ⟨keep p.1 p.2 ne nf nch e n,free p.1 p.2 nch e n,ne,nf,d⟩
theorem Inv.un {t':Nat} (I:Inv X pins σ H s) (u:Un X.fs [] H H' s.heap h') (hok:HOk X.prog X.w H' h'):Inv X pins σ H' { s with heap:=h',toks:=t' }:=by
 obtain ⟨m,⟨o,es,ep,ho,r⟩,_⟩:=id I.loc;obtain ⟨sl,hL⟩:=u.any ho I.free (by simp)
 exact I.step (g':=s.gens) (d':=s.drawn) (ch:=[]) (fun _ z=>nomatch z) (fun b o _ hb _ e n=>u.keep b o e n hb (by simp)) (fun b o _ hb _ e n=>u.slot b o e n hb (by simp)) (fun b o _ e n=>u.free b o e n (by simp)) (fun b o _ e=>u.there b o e (by simp)) u.tups u.frzs u.tbls (fun m' hm=>by
  obtain ⟨o',es',ep',ho',r'⟩:=hm;rw [ho] at ho';cases ho';exact ⟨_,es',ep',hL,r'⟩) hok I.bare
theorem Inv.call {g':Array GenState} {t':Nat} {d':Drawn} {ch:List Addr} (I:Inv X pins σ H s) (u:Un (frs X.stack) ch H H' s.heap h') (hok:HOk X.prog X.w H' h') (hg:AllBare g')
 (hch:∀ b∈ch,(b∈X.ex∨X.s₀.z≤b)∧b≠X.env.locals∧(∀ x c,X.env.cells.lookup x=some c→c≠b)∧∀ p∈X.pn++pins,p.1≠b) :
 Inv X pins σ H' { s with heap:=h',gens:=g',drawn:=d',toks:=t' }:=by
 obtain ⟨m,⟨o,es,ep,ho,r⟩,_⟩:=id I.loc;obtain ⟨sl,hL⟩:=u.any ho I.free fun z=>(hch _ z).2.1 rfl
 exact I.step (ch:=ch) hch (fun b o hL hb hc e n=>u.keep b o e n (fun z=>(n14_.mp (I.stkSub b z)).elim hL hb) hc) (fun b o _ _ hc e n=>u.any e n hc) (fun b o hc e n=>u.free b o e n hc) (fun b o hc e=>u.there b o e hc) u.tups u.frzs u.tbls (fun m' hm=>by
  obtain ⟨o',es',ep',ho',r'⟩:=hm;rw [ho] at ho';cases ho';exact ⟨_,es',ep',hL,r'⟩) hok hg
theorem Inv.turned {t':Nat} {it:Addr} (I:Inv X pins σ H s) (k:∀ b o,b≠it→s.heap.get? b=some o→h'.get? b=some o) (hn:H it=none) (hL:it≠X.env.locals)
 (h1:it∈X.ex∨X.s₀.z≤it) (h2:∀ x c,X.env.cells.lookup x=some c→c≠it) (h3:∀ p∈X.pn++pins,p.1≠it):Inv X pins σ H { s with heap:=h',toks:=t' }:=by
 have nit:∀ b u,H b=some u→b≠it:=fun b u e z=>by rw [z,hn] at e;cases e
 refine I.step (g':=s.gens) (d':=s.drawn) (ch:=[it]) (fun b hb=>?_) (fun b o _ _ hc e _=>k b o (fun z=>hc (by simp [z])) e) (fun b o _ _ hc e _=>⟨o.slots,k b o (fun z=>hc (by simp [z])) e⟩) (fun _ _ _ _ n=>n)
  (fun b o hc e=>⟨o,k b o (fun z=>hc (by simp [z])) e⟩) (fun _ _ e=>e) (fun _ _ _ e=>e) (fun b ps e=>⟨#[],by rw [e];simp⟩) (fun m hm=>?_) (fun b u e=>?_) I.bare
 · have e:b=it:=by simpa using hb
   subst e;exact ⟨h1,hL,h2,h3⟩
 · obtain ⟨o,es,ep,ho,r⟩:=hm;exact ⟨o,es,ep,k _ o (Ne.symm hL) ho,r⟩
 · refine (I.hok b u e).stay (fun c v hc q=>k c v ?_ q) (fun _ q=>q) fun _ _ q=>q
   rcases hc with z|z
   · rw [z];exact nit b u e
   · exact nit c _ z
theorem Inv.tok (I:Inv X pins σ H s) (t:Nat):Inv X pins σ H { s with toks:=t }:=I.un (h':=s.heap) (t':=t) Un.refl I.hok
theorem Inv.kept {t':Nat} (I:Inv X pins σ H s) (k:∀ b u,s.heap.get? b=some u→h'.get? b=some u):Inv X pins σ H { s with heap:=h',toks:=t' }:=I.un (Un.kept k) (I.hok.kept k)
theorem Inv.laid {a:Addr} {o:HO} {t':Nat} (I:Inv X pins σ H s) (k:∀ b u,s.heap.get? b=some u→h'.get? b=some u) (hp:s.z≤a) (new:ObjOk X.prog X.w (upd H a o) h' a o) :
 Inv X pins σ (upd H a o) { s with heap:=h',toks:=t' }:=I.un (Un.laid k hp (I.hok.fresh hp)) (I.hok.laid k hp new)
theorem Inv.write {x e:Addr} {o:HO} {t':Nat} (I:Inv X pins σ H s) (mu:Mut (H x)) (he:e=x∨H e=some (.own x)) (k:∀ b u,b≠e→s.heap.get? b=some u→h'.get? b=some u) (heo:∃ u,h'.get? e=some u)
 (new:ObjOk X.prog X.w (upd H x o) h' x o):Inv X pins σ (upd H x o) { s with heap:=h',toks:=t' }:=I.un (Un.write mu he k heo) (I.hok.write mu he k heo new)
theorem Inv.pins_of {pins':List (Addr×Obj)} (I:Inv X pins σ H s) (h:∀ p∈pins',s.heap.get? p.1=some p.2∧H p.1=none∧p.1≠X.env.locals∧p.1∉X.fs∧∀ v,p.2.data≠.cell v):Inv X pins' σ H s :=
 ⟨I.ok,I.os,I.bare,I.base,I.loc,I.cell,I.free,I.freeC,fun p hp=>(n57_.mp hp).elim (fun z=>I.pin p (List.mem_append_left _ z)) (h p),I.hok,I.len⟩
theorem Zj7 {N:List Str} (hN:N.Nodup) {i j:Nat} {x:Str} (a:N[i]? = some x) (b:N[j]? = some x):i=j:=by
 obtain ⟨h1,e1⟩:=n21_.mp a;obtain ⟨h2,e2⟩:=n21_.mp b;exact (List.getElem_inj hN).mp (e1.trans e2.symm)
theorem Zn4 {M:Model} {A:Around} {E:Value→Shared→Prop} {i:Nat} {x:Str} {v:V} {u:Value} {Q:Unit→Shared→Prop} (I:Inv X pins σ H s) (hN:X.N.Nodup) (hi:X.N[i]? = some x) (hx:Loc X.env.scope x) (r:RelV v u)
 (h:∀ s',Inv X pins (σ.set i (some v)) H s'→(∃ a,Heap.SameBut a s.heap s'.heap∧(a=X.env.locals∨X.env.cells.lookup x=some a))→Q () s') (hf:X.fn x=true∨X.env.scope.names.lookup x=some .local:=by first|exact .inl rfl|exact .inr rfl|assumption):wpAny M A (storeName X.env x u) Q E s:=by
 obtain ⟨m,hn,hl⟩:=id I.loc;have hcls:(X.env.scope.kind == .class||(X.env.scope.kind == .module&&X.env.locals != X.env.globals))=false:=by rw [I.ok.kind];rfl
 have hiσ:i<σ.length:=by rw [I.len];exact (n21_.mp hi).1
 have cne:=I.cne
 have tracked:∀ {a:Addr} {h':Heap},(∃ o,s.heap.get? a=some o∧H a=none)→Heap.SameBut a s.heap h'→HOk X.prog X.w H h':=fun {a h'} ha hs b ob e=>by
  obtain ⟨_,_,hfree⟩:=ha;refine (I.hok b ob e).stay (fun c w' hc q=>(hs.2 c ?_).trans q) (fun _ q=>q) fun _ _ q=>q;rintro rfl
  rcases hc with rfl|hc
  · rw [hfree] at e;cases e
  · rw [hfree] at hc;cases hc
 rcases hx with hk|hk
 · refine wpAny_storeName_local hk hn (fun h' hn' hs=>?_) hcls;obtain ⟨oL,_,_,hoL,_⟩:=id hn;refine h _ ⟨I.ok,I.os,I.bare,⟨fun b o e n hb hx=>?_,fun b o e n hb hx=>?_,I.base.free,fun b o e hx=>?_,I.base.tups,I.base.frzs,I.base.tbls⟩,⟨_,hn',fun j y v' e1 e2 e3=>?_⟩,fun y c e=>?_,I.free,I.freeC,fun p hp=>?_,tracked ⟨oL,hoL,I.free⟩ hs,by simpa using I.len⟩ ⟨_,hs,.inl rfl⟩
   · exact (hs.2 b (n24_ (n9_ (n7_ e) I.ok.above))).trans (I.base.keep b o e n hb hx)
   · obtain ⟨sl,e1⟩:=I.base.slot b o e n hb hx;exact ⟨sl,(hs.2 b (n24_ (n9_ (n7_ e) I.ok.above))).trans e1⟩
   · obtain ⟨o',e1⟩:=I.base.there b o e hx;exact ⟨o',(hs.2 b (n24_ (n9_ (n7_ e) I.ok.above))).trans e1⟩
   · by_cases hj:j=i
     · subst hj;rw [hi] at e1;cases e1;rw [List.getElem?_set_self hiσ] at e2;cases e2
       exact ⟨u,r,.inl ⟨hk,by simp⟩⟩
     · rw [List.getElem?_set_ne (Ne.symm hj)] at e2;obtain ⟨u',r',q⟩:=hl j y v' e1 e2 e3;refine ⟨u',r',?_⟩
       rcases q with ⟨k,e⟩|⟨k,c,e,z⟩
       · refine .inl ⟨k,?_⟩
         have:y≠x:=fun e=>hj (Zj7 hN e1 (e ▸ hi))
         simp [this,e]
       · exact .inr ⟨k,c,e,z.sameBut hs (cne y c e)⟩
   · obtain ⟨w',z⟩:=I.cell y c e;exact ⟨w',z.sameBut hs (cne y c e)⟩
   · obtain ⟨e,n,ne,nf,d⟩:=I.pin p hp;exact ⟨(hs.2 p.1 ne).trans e,n,ne,nf,d⟩
 · have hfn:X.fn x=true:=by
    rcases hf with z|z
    · exact z
    · rw [z] at hk;cases hk
   obtain ⟨c,hc⟩:=I.ok.has x (.inl hk);obtain ⟨w',z⟩:=I.cell x c hc;refine wpAny_storeName_cell I.ok.kind hk hc z (fun h' hc' hs=>?_);obtain ⟨oc,hoc,hocd⟩:=id z;refine h { s with heap:=h' } ⟨I.ok,I.os,I.bare,⟨fun b o e n hb hx=>?_,fun b o e n hb hx=>?_,I.base.free,fun b o e hx=>?_,I.base.tups,I.base.frzs,I.base.tbls⟩,⟨m,hn.sameBut hs (Ne.symm (cne x c hc)),fun j y v' e1 e2 e3=>?_⟩,fun y c' e=>?_,I.free,I.freeC,fun p hp=>?_,tracked ⟨oc,hoc,(I.freeC x c hc).elim id fun z=>(by rw [hfn] at z;cases z.1)⟩ hs,by simpa using I.len⟩ ⟨c,hs,.inr hc⟩
   · exact (hs.2 b (n24_ (n9_ (n7_ e) (I.ok.cab x c hfn hc)))).trans (I.base.keep b o e n hb hx)
   · obtain ⟨sl,e1⟩:=I.base.slot b o e n hb hx;exact ⟨sl,(hs.2 b (n24_ (n9_ (n7_ e) (I.ok.cab x c hfn hc)))).trans e1⟩
   · obtain ⟨o',e1⟩:=I.base.there b o e hx;exact ⟨o',(hs.2 b (n24_ (n9_ (n7_ e) (I.ok.cab x c hfn hc)))).trans e1⟩
   · by_cases hj:j=i
     · subst hj;rw [hi] at e1;cases e1;rw [List.getElem?_set_self hiσ] at e2;cases e2
       exact ⟨u,r,.inr ⟨.inl hk,c,hc,hc'⟩⟩
     · rw [List.getElem?_set_ne (Ne.symm hj)] at e2;obtain ⟨u',r',q⟩:=hl j y v' e1 e2 e3;refine ⟨u',r',?_⟩
       rcases q with q|⟨k,c',e,z'⟩
       · exact .inl q
       · refine .inr ⟨k,c',e,z'.sameBut hs ?_⟩;rintro rfl
         exact hj (Zj7 hN e1 (I.ok.inj _ _ _ e hc ▸ hi))
   · by_cases hcc:c'=c
     · subst hcc;exact ⟨_,hc'⟩
     · obtain ⟨w2,z2⟩:=I.cell y c' e;exact ⟨w2,z2.sameBut hs hcc⟩
   · obtain ⟨e,n,ne,nf,d⟩:=I.pin p hp;refine ⟨(hs.2 p.1 ?_).trans e,n,ne,nf,d⟩;intro q;rw [q,hoc] at e;have q':oc=p.2:=Option.some.inj e;exact d w' (by rw [← q'];exact hocd)
theorem X9 {M:Model} {A:Around} {E:Value→Shared→Prop} {i:Nat} {x:Str} {v:V} {u:Value} {Q:Unit→Shared→Prop} (I:Inv X pins σ H s) (hN:X.N.Nodup) (hi:X.N[i]? = some x) (hx:Loc X.env.scope x) (r:RelV v u)
 (h:∀ s',Inv X pins (σ.set i (some v)) H s'→Q () s') (hf:X.fn x=true∨X.env.scope.names.lookup x=some .local:=by first|exact .inl rfl|exact .inr rfl|assumption):wpAny M A (storeName X.env x u) Q E s :=
 Zn4 I hN hi hx r (fun s' I' _=>h s' I') hf
theorem Inv.call' {s':Shared} {ch:List Addr} (I:Inv X pins σ H s) (ho:s'.os=s.os) (u:Un (frs X.stack) ch H H' s.heap s'.heap) (hok:HOk X.prog X.w H' s'.heap) (hg:AllBare s'.gens)
 (hch:∀ b∈ch,(b∈X.ex∨X.s₀.z≤b)∧b≠X.env.locals∧(∀ x c,X.env.cells.lookup x=some c→c≠b)∧∀ p∈X.pn++pins,p.1≠b):Inv X pins σ H' s':=by
 obtain ⟨h',g',d',t',o'⟩:=s';have e:o'=s.os:=ho;subst e;exact I.call (g':=g') (t':=t') (d':=d') u hok hg hch
end
abbrev XK:=Value→Option Addr→Hp→Prop
abbrev St:=List (Option V)
abbrev VK:=V→Hp→Prop
abbrev TE:=St→Hp→VK→Prop
abbrev TT:=St→Hp→(Bool→Hp→Prop)→Prop
abbrev TA:=St→Hp→(List V→Hp→Prop)→Prop
structure Ends where
 nx:St→Hp→Prop
 rt:VK
 bk:St→Hp→Prop:=fun _ _=>False
 ct:St→Hp→Prop:=fun _ _=>False
abbrev TS:=Ends→St→Hp→Prop
def EP (X:Cx) (pins:List (Addr×Obj)) (σ:St) (Q:VK) (u:Value) (s':Shared):Prop:=∃ v H',Inv X pins σ H' s'∧RelV v u∧Q v H'
def TP (X:Cx) (pins:List (Addr×Obj)) (σ:St) (Q:Bool→Hp→Prop) (b:Bool) (s':Shared):Prop:=∃ H',Inv X pins σ H' s'∧Q b H'
def AP (X:Cx) (pins:List (Addr×Obj)) (σ:St) (Q:List V→Hp→Prop) (us:List Value) (s':Shared):Prop:=∃ vs H',Inv X pins σ H' s'∧Vals vs us∧Q vs H'
def SP (X:Cx) (pins:List (Addr×Obj)) (D:Ends) (f:Flow) (s':Shared):Prop :=
 match f with
 | .next=>∃ σ' H',Inv X pins σ' H' s'∧D.nx σ' H'
 | .brk=>∃ σ' H',Inv X pins σ' H' s'∧D.bk σ' H'
 | .cont=>∃ σ' H',Inv X pins σ' H' s'∧D.ct σ' H'
 | .ret u=>∃ v σ' H',Inv X pins σ' H' s'∧RelV v u∧D.rt v H'
def PE (X:Cx) (e:Expr) (t:TE):Prop :=
 ∀ (pins:List (Addr×Obj)) (s:Shared) (σ:St) (H:Hp) (Q:VK),Inv X pins σ H s→t σ H Q→wpAny (model X.prog X.w) X.A (eval e X.env) (EP X pins σ Q) X.xe s
def PT (X:Cx) (e:Expr) (t:TT):Prop :=
 ∀ (pins:List (Addr×Obj)) (s:Shared) (σ:St) (H:Hp) (Q:Bool→Hp→Prop),Inv X pins σ H s→t σ H Q→wpAny (model X.prog X.w) X.A (isTrue e X.env (eval e X.env)) (TP X pins σ Q) X.xe s
def PW (X:Cx) (e:Expr) (t:TT):Prop :=
 ∀ (whole:Sem Value) (pins:List (Addr×Obj)) (s:Shared) (σ:St) (H:Hp) (Q:Bool→Hp→Prop),Inv X pins σ H s→t σ H Q→wpAny (model X.prog X.w) X.A (isTrue e X.env whole) (TP X pins σ Q) X.xe s
theorem PW.pt {X:Cx} {e:Expr} {t:TT} (h:PW X e t):PT X e t:=h _
def PA (X:Cx) (es:List Expr) (t:TA):Prop :=
 ∀ (pos:Pos) (pins:List (Addr×Obj)) (s:Shared) (σ:St) (H:Hp) (Q:List V→Hp→Prop),Inv X pins σ H s→t σ H Q→wpAny (model X.prog X.w) X.A (spliced (backTo pos (starEach es X.env))) (AP X pins σ Q) X.xe s
def PS (X:Cx) (st:Stmt) (t:TS):Prop :=
 ∀ (pins:List (Addr×Obj)) (s:Shared) (σ:St) (H:Hp) (D:Ends),Inv X pins σ H s→t D σ H→wpAny (model X.prog X.w) X.A (exec st X.env) (SP X pins D) X.xe s
def PSs (X:Cx) (st:List Stmt) (t:TS):Prop :=
 ∀ (pins:List (Addr×Obj)) (s:Shared) (σ:St) (H:Hp) (D:Ends),Inv X pins σ H s→t D σ H→wpAny (model X.prog X.w) X.A (execs st X.env) (SP X pins D) X.xe s
theorem thn {α:Type} {t:Sem α} {Q Q':α→Shared→Prop} {M:Model} {A:Around} {E:Value→Shared→Prop} {s:Shared} (h:wpAny M A t Q E s) (hQ:∀ a s,Q a s→Q' a s):wpAny M A t Q' E s:=n36_ h hQ fun _ _ x=>x
section
variable {X:Cx}
def tVar (i:Nat):TE:=fun σ H Q=>∃ v,σ[i]? = some (some v)∧Q v H
def tC (v:V):TE:=fun _ H Q=>Q v H
theorem Zpg {i:Nat} {x:Str} {pos:Pos} (hN:X.N[i]? = some x) (hv:Vis X.env.scope x) (hd:(x == ("__debug__" : Str))=false:=by decide) (hcd:(x == ("__classdict__" : Str))=false:=by decide):PE X (.Name x pos) (tVar i):=by
 intro pins s σ H Q I h;obtain ⟨v,e,h⟩:=h;obtain ⟨m,hn,hl⟩:=I.loc;obtain ⟨u,r,l⟩:=hl i x v hN e hv;have fin:EP X pins σ Q u s:=⟨v,H,I,r,h⟩
 rcases l with ⟨hk,hm⟩|⟨hk,c,hc,hcell⟩
 · exact wpAny_Name (wpAny_loadName_local I.ok.kind hk hn hm fin) hd
 · rcases hk with hk|hk
   · exact wpAny_Name (wpAny_loadName_cell I.ok.kind hk hc hcell fin) hd
   · exact wpAny_Name (wpAny_loadName_free I.ok.kind hk hc hcell fin hcd) hd
theorem Zd {i j pos}:PE X (.Constant (.int i) j pos) (tC (.int i)):=fun _ _ _ H _ I h=>wpAny_Constant_int ⟨.int i,H,I.tok _,⟨_,rfl⟩,h⟩
theorem Z2 {b j pos}:PE X (.Constant (.bool b) j pos) (tC (.bl b)):=fun _ _ _ H _ I h=>Constant_bool ⟨.bl b,H,I,rfl,h⟩
theorem Zp4 {j pos}:PE X (.Constant .none j pos) (tC .non):=fun _ _ _ H _ I h=>Constant_none ⟨.non,H,I,rfl,h⟩
theorem Yj {x j pos}:PE X (.Constant (.str x) j pos) (tC (.str x)):=fun _ _ _ H _ I h=>Calls.Constant_str ⟨.str x,H,I.tok _,⟨_,rfl⟩,h⟩
def Gl (X:Cx) (x:Str):Prop:=X.env.kindOf x=some .globalImplicit
theorem Zcl {E:Value→Shared→Prop} {pins:List (Addr×Obj)} {s:Shared} {σ:St} {H:Hp} {x:Str} {u:Value} {pos:Pos} {Q:Value→Shared→Prop} (I:Inv X pins σ H s) (hg:Gl X x) (hm:X.mg x=some u) (h:Q u s)
 (hd:(x == ("__debug__" : Str))=false:=by decide):wpAny (model X.prog X.w) X.A (eval (.Name x pos) X.env) Q E s :=
 Calls.Name_function_global I.ok.kind hg (Calls.loadGlobal_global (by rw [I.ok.glob];exact I.mod.glob.keeps I.bk) hm h) hd
theorem Zb6 {E:Value→Shared→Prop} {pins:List (Addr×Obj)} {s:Shared} {σ:St} {H:Hp} {x:Str} {u:Value} {pos:Pos} {Q:Value→Shared→Prop} (I:Inv X pins σ H s) (hg:Gl X x) (hm:X.mg x=none) (hv:bootBuiltins x=some u) (h:Q u s)
 (hn:x ≠ "__name__" := by decide) (hd:(x == ("__debug__" : Str))=false:=by decide):wpAny (model X.prog X.w) X.A (eval (.Name x pos) X.env) Q E s:=by
 obtain ⟨mb,h1,h2⟩:=I.mod.blt;exact Calls.Name_function_global I.ok.kind hg (Calls.loadGlobal_builtin (by rw [I.ok.glob];exact I.mod.glob.keeps I.bk) hm (by rw [I.ok.blt];exact h1.keeps I.bk) ((h2 x hn).trans hv) h) hd
theorem Z5 {x:Str} {v:V} {u:Value} {pos:Pos} (hg:Gl X x) (hm:X.mg x=some u) (r:RelV v u) (hd:(x == ("__debug__" : Str))=false:=by decide):PE X (.Name x pos) (tC v) :=
 fun _ _ _ H _ I h=>Zcl I hg hm ⟨v,H,I,r,h⟩ hd
theorem Y1 {x:Str} {v:V} {u:Value} {pos:Pos} (hg:Gl X x) (hm:X.mg x=none) (hv:bootBuiltins x=some u) (r:RelV v u) (hn:x ≠ "__name__" := by decide) (hd:(x == ("__debug__" : Str))=false:=by decide):PE X (.Name x pos) (tC v) :=
 fun _ _ _ H _ I h=>Zb6 I hg hm hv ⟨v,H,I,r,h⟩ hn hd
variable {a b:Expr} {ta tb:TE} {pos:Pos}
variable {tA tB':TT} {rest:List Expr}
def tAnd (t u:TT):TT:=fun σ H Q=>t σ H fun c H1=>if c=true then u σ H1 Q else Q false H1
def tOr (t u:TT):TT:=fun σ H Q=>t σ H fun c H1=>if c=true then Q true H1 else u σ H1 Q
def tNot (t:TT):TT:=fun σ H Q=>t σ H fun c H1=>Q (!c) H1
theorem Zqx (ha:PT X a tA):PW X (.BoolOp .And [a] pos) tA:=by
 intro wh pins s σ H Q I h;refine isTrue_and (thn (ha pins s σ H Q I h) fun c s1 e=>?_);cases c with
 | true=>exact isTrue_and_nil e
 | false=>exact e
theorem Z6 (ha:PT X a tA):PW X (.BoolOp .Or [a] pos) tA:=by
 intro wh pins s σ H Q I h;refine isTrue_or (thn (ha pins s σ H Q I h) fun c s1 e=>?_);cases c with
 | false=>exact isTrue_or_nil e
 | true=>exact e
theorem Zsn (ha:PT X a tA) (hb:PW X (.BoolOp .And (b :: rest) pos) tB'):PW X (.BoolOp .And (a :: b :: rest) pos) (tAnd tA tB'):=by
 intro wh pins s σ H Q I h;refine isTrue_and (thn (ha pins s σ H _ I h) fun c s1 ⟨H1,I1,q1⟩=>?_);cases c with
 | true=>exact hb wh pins s1 σ H1 Q I1 q1
 | false=>exact ⟨H1,I1,q1⟩
theorem Ys (ha:PT X a tA) (hb:PW X (.BoolOp .Or (b :: rest) pos) tB'):PW X (.BoolOp .Or (a :: b :: rest) pos) (tOr tA tB'):=by
 intro wh pins s σ H Q I h;refine isTrue_or (thn (ha pins s σ H _ I h) fun c s1 ⟨H1,I1,q1⟩=>?_);cases c with
 | true=>exact ⟨H1,I1,q1⟩
 | false=>exact hb wh pins s1 σ H1 Q I1 q1
theorem Zq (ha:PT X a tA):PT X (.UnaryOp .Not a pos) (tNot tA):=by
 intro pins s σ H Q I h;exact isTrue_not (ha pins s σ H (fun c H1=>Q (!c) H1) I h)
def Zub (ta tb:TE):TE:=fun σ H Q=>ta σ H fun x H1=>∃ c,x=.bl c∧if c=true then tb σ H1 Q else Q (.bl false) H1
def tOrV (ta tb:TE):TE:=fun σ H Q=>ta σ H fun x H1=>∃ c,x=.bl c∧if c=true then Q (.bl true) H1 else tb σ H1 Q
def Zt2 (ta:TE):TE:=fun σ H Q=>ta σ H fun x H1=>∃ c,x=.bl c∧Q (.bl (!c)) H1
theorem Yy {op} {t:TE} (h:PE X a t):PE X (.BoolOp op [a] pos) t:=fun pins s σ H Q I hw=>BoolOp_one (h pins s σ H Q I hw)
theorem Y3 (ha:PE X a ta) (hb:PE X (.BoolOp .And (b :: rest) pos) tb):PE X (.BoolOp .And (a :: b :: rest) pos) (Zub ta tb):=by
 intro pins s σ H Q I h;refine BoolOp_and (thn (ha pins s σ H _ I h) fun v s1 ⟨x,H1,I1,r1,q1⟩=>?_);obtain ⟨c,rfl,q1⟩:=q1;cases r1
 refine wpAny_truthy_bool ?_;cases c with
 | true=>exact hb pins s1 σ H1 Q I1 q1
 | false=>exact ⟨.bl false,H1,I1,rfl,q1⟩
theorem Ztm (ha:PE X a ta) (hb:PE X (.BoolOp .Or (b :: rest) pos) tb):PE X (.BoolOp .Or (a :: b :: rest) pos) (tOrV ta tb):=by
 intro pins s σ H Q I h;refine BoolOp_or (thn (ha pins s σ H _ I h) fun v s1 ⟨x,H1,I1,r1,q1⟩=>?_);obtain ⟨c,rfl,q1⟩:=q1;cases r1
 refine wpAny_truthy_bool ?_;cases c with
 | false=>exact hb pins s1 σ H1 Q I1 q1
 | true=>exact ⟨.bl true,H1,I1,rfl,q1⟩
theorem Zjk (ha:PE X a ta):PE X (.UnaryOp .Not a pos) (Zt2 ta):=by
 intro pins s σ H Q I h;refine UnaryOp_ (thn (ha pins s σ H _ I h) fun v s1 ⟨x,H1,I1,r1,q1⟩=>?_);obtain ⟨c,rfl,q1⟩:=q1;cases r1
 exact not_of (wpAny_truthy_bool ⟨.bl (!c),H1,I1,rfl,q1⟩)
def tIf (t:TT) (ta tb:TE):TE:=fun σ H Q=>t σ H fun c H1=>if c=true then ta σ H1 Q else tb σ H1 Q
theorem Zjx {c:Expr} (hc:PT X c tA) (ha:PE X a ta) (hb:PE X b tb):PE X (.IfExp c a b pos) (tIf tA ta tb):=by
 intro pins s σ H Q I h;refine wpAny_IfExp (thn (hc pins s σ H _ I h) fun d s1 ⟨H1,I1,q1⟩=>?_);cases d with
 | true=>exact ha pins s1 σ H1 Q I1 q1
 | false=>exact hb pins s1 σ H1 Q I1 q1
end
def SqL (K:PySem.W.Frag) (H:Hp) (a:Addr) (xs:List V):Prop :=
 Rd H a (.lst xs) ∨
  ∃ (o:Obj) (its:Array Value) (n:Nat),K.lookup a=some o∧o.cls=.type "list" ∧ o.dict=none∧o.data=.seq its n∧its.size≤sizeLine∧Vals xs its.toList
def SqT (K:PySem.W.Frag) (H:Hp) (a:Addr) (xs:List V):Prop :=
 Rd H a (.tup xs) ∨
  ∃ (o:Obj) (its:Array Value) (n:Nat),K.lookup a=some o∧o.cls=.type "tuple" ∧ o.data=.seq its n∧its.size≤sizeLine∧Vals xs its.toList
def absV:Value→Option V
 | .none=>some .non
 | .bool b=>some (.bl b)
 | .int i _=>some (.int i)
 | .str x _=>some (.str x)
 | .bytes b _=>some (.byt b)
 | .float b _=>some (.flt b)
 | .ref a=>some (.ref a)
 | .type n=>some (.ty n)
 | _=>none
theorem RelV.abs {x:V} {u:Value} (r:RelV x u):absV u=some x:=by
 cases x with
 | non=>cases r;rfl
 | bl _=>cases r;rfl
 | int _=>obtain ⟨t,rfl⟩:=r;rfl
 | str _=>obtain ⟨t,rfl⟩:=r;rfl
 | byt _=>obtain ⟨t,rfl⟩:=r;rfl
 | flt _=>obtain ⟨t,rfl⟩:=r;rfl
 | ref _=>cases r;rfl
 | ty _=>cases r;rfl
theorem RelV.inj {x y:V} {u:Value} (r:RelV x u) (q:RelV y u):x=y:=Option.some.inj (r.abs.symm.trans q.abs)
theorem Vals.inj:∀ {xs ys:List V} {us:List Value},Vals xs us→Vals ys us→xs=ys
 | _,_,_,.nil,.nil=>rfl
 | _,_,_,.cons r t,.cons r' t'=>by rw [r.inj r',Vals.inj t t']
section
variable {X:Cx} {pins:List (Addr×Obj)} {σ:St} {H:Hp} {s:Shared} {a:Addr} {xs ys:List V}
theorem SqL.of {K:PySem.W.Frag} (h:H a=some (.lst xs)):SqL K H a xs:=.inl (.inl h)
theorem SqT.of {K:PySem.W.Frag} (h:H a=some (.tup xs)):SqT K H a xs:=.inl (.inl h)
theorem Inv.list (I:Inv X pins σ H s) (h:SqL X.K H a xs):∃ its:List Value,Vals xs its∧PlainL s.heap a its.toArray∧xs.length≤sizeLine:=by
 rcases h with h|⟨o,its,n,hk,hc,hd,hs,hz,r⟩
 · obtain ⟨z,its,n,r,e⟩:=h.ok I.hok;exact ⟨its,r,⟨_,n,e,rfl,rfl,rfl⟩,z⟩
 · refine ⟨its.toList,r,⟨o,n,I.kIn a o hk,hc,hd,by simpa using hs⟩,?_⟩;have e:=r.length;simp only [Array.length_toList] at e;omega
theorem Inv.tuple (I:Inv X pins σ H s) (h:SqT X.K H a xs):∃ its:List Value,Vals xs its∧IsTup s.heap a its.toArray∧xs.length≤sizeLine:=by
 rcases h with h|⟨o,its,n,hk,hc,hs,hz,r⟩
 · obtain ⟨z,its,r,p⟩:=h.ok I.hok;exact ⟨its,r,p,z⟩
 · refine ⟨its.toList,r,⟨o,I.kIn a o hk,hc,n,by simpa using hs⟩,?_⟩;have e:=r.length;simp only [Array.length_toList] at e;omega
theorem Inv.list_inj (I:Inv X pins σ H s) (h:SqL X.K H a xs) (h':SqL X.K H a ys):xs=ys:=by
 obtain ⟨its,r,⟨o,n,e,_,_,d⟩,_⟩:=I.list h;obtain ⟨its',r',⟨o',n',e',_,_,d'⟩,_⟩:=I.list h';rw [e] at e';cases e';rw [d] at d';injection d' with d1 _
 have:its=its':=by simpa using congrArg Array.toList d1
 subst this;exact r.inj r'
theorem Inv.tuple_inj (I:Inv X pins σ H s) (h:SqT X.K H a xs) (h':SqT X.K H a ys):xs=ys:=by
 obtain ⟨its,r,⟨o,e,_,n,d⟩,_⟩:=I.tuple h;obtain ⟨its',r',⟨o',e',_,n',d'⟩,_⟩:=I.tuple h';rw [e] at e';cases e';rw [d] at d';injection d' with d1 _
 have:its=its':=by simpa using congrArg Array.toList d1
 subst this;exact r.inj r'
end
abbrev Cx.wish (X:Cx) (E:Value→Shared→Prop):Cx:={ X with xe:=E }
abbrev Cx.nox (X:Cx):Cx:=X.wish fun _ _=>False
theorem Cx.Ok.wish {X:Cx} (ok:X.Ok) (E:Value→Shared→Prop):(X.wish E).Ok :=
 ⟨ok.mod,ok.kind,ok.glob,ok.blt,ok.above,ok.inj,ok.has,ok.cab,ok.hd,ok.frames,ok.stk,ok.exf,ok.bs,ok.bsz,ok.noex,ok.exfs,ok.funs,ok.frf⟩
theorem Cx.Ok.unwish {X:Cx} {E:Value→Shared→Prop} (ok:(X.wish E).Ok):X.Ok :=
 ⟨ok.mod,ok.kind,ok.glob,ok.blt,ok.above,ok.inj,ok.has,ok.cab,ok.hd,ok.frames,ok.stk,ok.exf,ok.bs,ok.bsz,ok.noex,ok.exfs,ok.funs,ok.frf⟩
section
variable {X:Cx} {pins:List (Addr×Obj)} {σ:St} {H:Hp} {s:Shared} {E:Value→Shared→Prop}
theorem Inv.wish (I:Inv X pins σ H s) (E:Value→Shared→Prop):Inv (X.wish E) pins σ H s:=⟨I.ok.wish E,I.os,I.bare,I.base,I.loc,I.cell,I.free,I.freeC,I.pin,I.hok,I.len⟩
theorem Inv.unwish (I:Inv (X.wish E) pins σ H s):Inv X pins σ H s:=⟨I.ok.unwish,I.os,I.bare,I.base,I.loc,I.cell,I.free,I.freeC,I.pin,I.hok,I.len⟩
theorem SP.unwish {D:Ends} {f:Flow} {s':Shared} (h:SP (X.wish E) pins D f s'):SP X pins D f s':=by
 cases f with
 | next=>obtain ⟨σ',H',I,q⟩:=h;exact ⟨σ',H',I.unwish,q⟩
 | brk=>obtain ⟨σ',H',I,q⟩:=h;exact ⟨σ',H',I.unwish,q⟩
 | cont=>obtain ⟨σ',H',I,q⟩:=h;exact ⟨σ',H',I.unwish,q⟩
 | ret u=>obtain ⟨v,σ',H',I,r,q⟩:=h;exact ⟨v,σ',H',I.unwish,r,q⟩
theorem PSs.nox {st:List Stmt} {t:TS} (h:PSs X.nox st t):PSs X st t:=fun pins s σ H D I hw =>
 n36_ (h pins s σ H D (I.wish _) hw) (fun _ _ q=>q.unwish) fun _ _ z=>False.elim z
end
section
variable {X:Cx} {st:Stmt} {rest:List Stmt} {t u:TS} {e:Expr} {te:TE} {pos:Pos}
def Zts:TS:=fun D σ H=>D.nx σ H
def tSeq (t u:TS):TS:=fun D σ H=>t { D with nx:=u D } σ H
theorem Zp:PSs X [] Zts:=fun _ _ σ H _ I h=>wpAny_execs_nil ⟨σ,H,I,h⟩
theorem Ze (h1:PS X st t) (h2:PSs X rest u):PSs X (st :: rest) (tSeq t u):=by
 intro pins s σ H D I h;refine wpAny_execs_cons (thn (h1 pins s σ H { D with nx:=u D } I h) fun f s1 q=>?_);cases f with
 | next =>
   obtain ⟨σ',H',I',q⟩:=q;exact h2 pins s1 σ' H' D I' q
 | ret v=>exact q
 | brk=>exact q
 | cont=>exact q
theorem Zf (h1:PS X st t):PSs X [st] t:=by
 intro pins s σ H D I h;refine wpAny_execs_cons (thn (h1 pins s σ H D I h) fun f s1 q=>?_);cases f with
 | next=>exact wpAny_execs_nil q
 | ret v=>exact q
 | brk=>exact q
 | cont=>exact q
theorem Inv.quiet {pins:List (Addr×Obj)} {σ:St} {H:Hp} {s:Shared} (I:Inv X pins σ H s):interactive X.env=false:=by simp [interactive,I.ok.kind]
def Zuf (te:TE):TS:=fun D σ H=>te σ H fun _ H1=>D.nx σ H1
theorem Zbn (he:PE X e te) (hs:swapsWith e none pos.line X.env=pure false:=by rfl):PS X (.Expr e pos) (Zuf te):=by
 intro pins s σ H D I h;exact wpAny_Expr_any (thn (he pins s σ H _ I h) fun v s1 ⟨x,H1,I1,r1,q1⟩=>⟨σ,H1,I1,q1⟩) I.quiet hs
def tRet (te:TE):TS:=fun D σ H=>te σ H D.rt
theorem Zl (he:PE X e te):PS X (.Return (some e) pos) (tRet te):=by
 intro pins s σ H D I h;exact wpAny_Return_some (thn (he pins s σ H _ I h) fun v s1 ⟨x,H1,I1,r1,q1⟩=>⟨x,σ,H1,I1,r1,q1⟩)
def tIfS (c:TT) (t u:TS):TS:=fun D σ H=>c σ H fun b H1=>if b=true then t D σ H1 else u D σ H1
theorem Zy {c:Expr} {a b:List Stmt} {tc:TT} (hc:PT X c tc) (ha:PSs X a t) (hb:PSs X b u):PS X (.If c a b pos) (tIfS tc t u):=by
 intro pins s σ H D I h;refine wpAny_If (thn (hc pins s σ H _ I h) fun d s1 ⟨H1,I1,q1⟩=>?_);cases d with
 | true=>exact ha pins s1 σ H1 D I1 q1
 | false=>exact hb pins s1 σ H1 D I1 q1
def Zsp:TS:=fun _ _ _=>False
theorem Zhh {sts:List Stmt}:PSs X sts Zsp:=fun _ _ _ _ _ _ h=>h.elim
end
abbrev TG:=V→St→Hp→(St→Hp→Prop)→Prop
abbrev TGs:=List V→St→Hp→(St→Hp→Prop)→Prop
def PG (X:Cx) (target:Expr) (t:TG):Prop :=
 ∀ (pins:List (Addr×Obj)) (s:Shared) (σ:St) (H:Hp) (v:V) (u:Value) (Q:St→Hp→Prop),Inv X pins σ H s→RelV v u→t v σ H Q →
   wpAny (model X.prog X.w) X.A (assign target X.env u) (fun _ s'=>∃ σ' H',Inv X pins σ' H' s'∧Q σ' H') X.xe s
def PGs (X:Cx) (ts:List Expr) (t:TGs):Prop :=
 ∀ (pins:List (Addr×Obj)) (s:Shared) (σ:St) (H:Hp) (vs:List V) (us:List Value) (Q:St→Hp→Prop),Inv X pins σ H s→Vals vs us→t vs σ H Q →
   wpAny (model X.prog X.w) X.A (assignInOrder ((assignEach ts X.env).map (·.2)) us) (fun _ s'=>∃ σ' H',Inv X pins σ' H' s'∧Q σ' H') X.xe s
abbrev TSet:=V→V→V→Hp→(Hp→Prop)→Prop
def PSet (X:Cx) (t:TSet):Prop :=
 ∀ (pins:List (Addr×Obj)) (s:Shared) (σ:St) (H:Hp) (o i v:V) (ov iv u:Value) (Q:Hp→Prop),Inv X pins σ H s→RelV o ov→RelV i iv→RelV v u→t o i v H Q →
   wpAny (model X.prog X.w) X.A (setItem ov iv u) (fun _ s'=>∃ H',Inv X pins σ H' s'∧Q H') X.xe s
section
variable {X:Cx} {pos:Pos}
def Xn (i:Nat):TG:=fun v σ H Q=>Q (σ.set i (some v)) H
theorem Zo {i:Nat} {x:Str} (hN:X.N.Nodup) (hi:X.N[i]? = some x) (hx:Loc X.env.scope x) (hf:X.fn x=true∨X.env.scope.names.lookup x=some .local:=by first|exact .inl rfl|exact .inr rfl|assumption):PG X (.Name x pos) (Xn i):=by
 intro pins s σ H v u Q I r h;exact wpAny_assign_Name (X9 I hN hi hx r (fun s' I'=>⟨_,H,I',h⟩) hf)
def gNil:TGs:=fun vs σ H Q=>vs=[]∧Q σ H
def Za5 (t:TG) (u:TGs):TGs:=fun vs σ H Q=>∃ v r,vs=v :: r∧t v σ H fun σ' H'=>u r σ' H' Q
theorem Yb:PGs X [] gNil:=by
 intro pins s σ H vs us Q I r h;obtain ⟨e,h⟩:=h;subst e;cases r
 exact assignInOrder_nil ⟨σ,H,I,h⟩
theorem Zm {e:Expr} {es:List Expr} {t:TG} {u:TGs} (h1:PG X e t) (h2:PGs X es u)
 (hs:(assignEach (e :: es) X.env).map (·.2)=assign e X.env :: (assignEach es X.env).map (·.2):=by rfl):PGs X (e :: es) (Za5 t u):=by
 intro pins s σ H vs us Q I r h;obtain ⟨v,vr,e1,h⟩:=h;subst e1;cases r with
 | cons r rr =>
   rw [hs];refine assignInOrder_cons (thn (h1 pins s σ H _ _ _ I r h) fun _ s1 ⟨σ1,H1,I1,q1⟩=>?_);exact h2 pins s1 σ1 H1 _ _ Q I1 rr q1
def gTup (K:PySem.W.Frag) (n:Nat) (t:TGs):TG:=fun v σ H Q=>∃ a xs,v=.ref a∧SqT K H a xs∧xs.length=n∧t xs σ H Q
theorem Yu {es:List Expr} {k:Nat} {t:TGs} {n:Nat} (hc:X.calm=true) (h:PGs X es t)
 (hn:(assignEach es X.env).length=n:=by rfl) (hst:(assignEach es X.env).findIdx? (·.1)=none:=by rfl):PG X (.Tuple es k pos) (gTup X.K n t):=by
 intro pins s σ H v u Q I r hw;obtain ⟨a,xs,e1,hq,hl,hw⟩:=hw;subst e1;cases r
 obtain ⟨its,rv,ht,hz⟩:=I.tuple hq;refine assign_Tuple_tuple (I.ok.hd hc) ht (by simp [hn,← hl,rv.length]) hst fun h' hx=>?_;have I1:Inv X pins σ H { s with heap:=h' }:=I.kept (t':=s.toks) fun b o e=>hx b o (n24_ (n7_ e)) e;exact h pins _ σ H xs _ Q I1 (by simpa using rv) hw
def gSub (to ti:TE) (t:TSet):TG:=fun v σ H Q=>to σ H fun o H1=>ti σ H1 fun i H2=>t o i v H2 fun H3=>Q σ H3
theorem Zhg {o i:Expr} {to ti:TE} {t:TSet} (ho:PE X o to) (hi:PE X i ti) (hs:PSet X t)
 (ha:∀ v,assign (.Subscript o i pos) X.env v=(do
   let ov ← holding [v] (eval o X.env)
   let iv ← holding [v,ov] (eval i X.env)
   standAt pos
   holding [v,ov,iv] (setItem ov iv v)
   release [v,ov,iv] []):=by intro _;rfl):PG X (.Subscript o i pos) (gSub to ti t):=by
 intro pins s σ H v u Q I r h;rw [ha];refine n0_ (n37_ (thn (ho pins s σ H _ I h) fun ov s1 ⟨x,H1,I1,r1,q1⟩=>?_));refine n0_ (n37_ (thn (hi pins s1 σ H1 _ I1 q1) fun iv s2 ⟨y,H2,I2,r2,q2⟩=>?_));refine n0_ (wpAny_standAt (n0_ (n37_ (thn (hs pins s2 σ H2 x y v ov iv u _ I2 r1 r2 r q2) fun _ s3 ⟨H3,I3,q3⟩=>?_))));exact wpAny_release ⟨σ,H3,I3,q3⟩
def tAsg (te:TE) (g:TG):TS:=fun D σ H=>te σ H fun x H1=>g x σ H1 D.nx
theorem Y8 {tg e:Expr} {te:TE} {g:TG} (he:PE X e te) (hg:PG X tg g) (hs:swapsWithSole [tg] e pos.line X.env=pure false:=by rfl) (hw:swappedStores [tg] e X.env=pure none:=by rfl)
 (h1:(assignEach [tg] X.env).map (·.2)=[assign tg X.env]:=by rfl):PS X (.Assign [tg] e pos) (tAsg te g):=by
 intro pins s σ H D I h;refine wpAny_Assign_stores (thn (he pins s σ H _ I h) fun v s1 ⟨x,H1,I1,r1,q1⟩=>?_) hs hw;rw [h1];exact thn (hg pins s1 σ H1 x v _ I1 r1 q1) fun _ s2 q=>q
theorem Zz {i:Nat} {x:Str} {e:Expr} {te:TE} {pos':Pos} (hN:X.N.Nodup) (hi:X.N[i]? = some x) (hx:Loc X.env.scope x) (he:PE X e te) (hs:swapsWith e (some (.Name x pos')) pos.line X.env=pure false:=by rfl) (hf:X.fn x=true∨X.env.scope.names.lookup x=some .local:=by first|exact .inl rfl|exact .inr rfl|assumption) :
 PS X (.Assign [.Name x pos'] e pos) (tAsg te (Xn i)):=by
 intro pins s σ H D I h;refine wpAny_Assign_Name (thn (he pins s σ H _ I h) fun v s1 ⟨y,H1,I1,r1,q1⟩=>?_) hs;exact X9 I1 hN hi hx r1 (fun s2 I2=>⟨_,H1,I2,q1⟩) hf
def tPar (i j:Nat) (ta:TA):TS:=fun D σ H=>ta σ H fun vs H1=>∃ v w,vs=[v,w]∧D.nx ((σ.set i (some v)).set j (some w)) H1
theorem Zha {i j:Nat} {x y:Str} {a b:Expr} {ta:TA} {px py pt:Pos} {kt k2 pt2} (hc:X.calm=true) (hN:X.N.Nodup) (hi:X.N[i]? = some x) (hj:X.N[j]? = some y) (hij:i≠j)
 (hx:X.env.scope.names.lookup x=some .local) (hy:X.env.scope.names.lookup y=some .local) (ha:PA X [a,b] ta)
 (hw:swappedStores [.Tuple [.Name x px,.Name y py] kt pt] (.Tuple [a,b] k2 pt2) X.env=pure (some [x,y]))
 (hs:swapsWithSole [.Tuple [.Name x px,.Name y py] kt pt] (.Tuple [a,b] k2 pt2) pos.line X.env=pure false:=by rfl) :
 PS X (.Assign [.Tuple [.Name x px,.Name y py] kt pt] (.Tuple [a,b] k2 pt2) pos) (tPar i j ta):=by
 intro pins s σ H D I h;rw [exec_Assign_arm];refine n0_ (wpAny_standAt ?_);rw [hs];refine n0_ (n4_ ?_);rw [if_neg (by decide)];refine n0_ (Tuple_ (thn (ha _ pins s σ H _ I h) fun us s1 ⟨vs,H1,I1,r1,q1⟩=>?_));obtain ⟨v,w,e1,q1⟩:=q1;subst e1
 obtain ⟨u1,u2,rfl,rv,rw'⟩:∃ u1 u2,us=[u1,u2]∧RelV v u1∧RelV w u2:=by
  cases r1 with
  | cons p q =>
    cases q with
    | cons p' q' =>
      cases q'
      exact ⟨_,_,rfl,p,p'⟩
 refine wpAny_newObj_type ?_ (z2_);have I2:Inv X pins σ H1 { s1 with heap:=s1.heap.push { cls:=.type "tuple",data:=.seq [u1,u2].toArray } }:=I1.kept (t':=s1.toks) fun b o e=>n2_ _ e;rw [hw];refine n0_ (n4_ ?_);show wpAny (model X.prog X.w) X.A (do rule "assign.swapped-stores";let items ← unpackItems (.ref s1.z) 2 none;assignInOrder [fun v=>bindName X.env y v,fun v=>bindName X.env x v] items.reverse;pure Flow.next) _ _ _
 refine n0_ (wpAny_rule (n0_ (unpackItems_tuple (items:=#[u1,u2]) (I.ok.hd hc) (IsTup.new s1.heap _) fun h' hx'=>?_)));have I3:=I2.kept (h':=h') (t':=s1.toks) fun b o e=>hx' b o (n24_ (n7_ e)) e;show wpAny _ _ (assignInOrder [fun v=>bindName X.env y v,fun v=>bindName X.env x v] [u2,u1] >>= fun _=>pure Flow.next) _ _ _
 refine n0_ (assignInOrder_cons (wpAny_bindName (X9 I3 hN hj (.inl hy) rw' (fun s2 I4=>?_) (.inr hy))));refine assignInOrder_cons (wpAny_bindName (X9 I4 hN hi (.inl hx) rv (fun s3 I5=>assignInOrder_nil (n4_ ?_)) (.inr hx)));rw [List.set_comm _ _ (Ne.symm hij)] at I5;exact ⟨_,H1,I5,q1⟩
end
section
variable {X:Cx} {pos:Pos}
def Zp3 (c:TT) (tb:TS):TS:=fun D σ H=>∃ W:Nat→St→Hp→Prop,(∃ m,W m σ H)∧∀ m σ H,W m σ H →
 c σ H fun b H1=>if b=true then ∃ N:St→Hp→Prop,(∀ σ' H',N σ' H'→∃ m',m'<m∧W m' σ' H')∧tb { D with nx:=N,ct:=N,bk:=D.nx } σ H1 else D.nx σ H1
theorem Zdg {c:Expr} {body:List Stmt} {tc:TT} {tb:TS} (hp:PassesOwn (model X.prog X.w) X.A X.env X.xe) (hc:PT X c tc) (hb:PSs X body tb):PS X (.While c body [] pos) (Zp3 tc tb):=by
 intro pins s σ H D I h;obtain ⟨W,⟨m0,w0⟩,turn⟩:=h;refine wpAny_While (codeAny_whileLoop (fun n s'=>∃ σ' H',Inv X pins σ' H' s'∧W n σ' H') ?_ m0 ⟨σ,H,I,w0⟩);rintro n s1 ⟨σ1,H1,I1,w1⟩
 refine wpAny_passesOwn hp (thn (hc pins s1 σ1 H1 _ I1 (turn n σ1 H1 w1)) fun b s2 ⟨H2,I2,q2⟩=>?_);cases b with
 | true =>
   obtain ⟨N,hN,q2⟩:=q2;rw [if_pos rfl];refine wpAny_passesOwn hp (thn (hb pins s2 σ1 H2 _ I2 q2) fun f s3 q3=>?_);cases f with
   | next =>
     obtain ⟨σ3,H3,I3,n3⟩:=q3;obtain ⟨m',hm,w3⟩:=hN σ3 H3 n3;exact ⟨m',hm,σ3,H3,I3,w3⟩
   | cont =>
     obtain ⟨σ3,H3,I3,n3⟩:=q3;obtain ⟨m',hm,w3⟩:=hN σ3 H3 n3;exact ⟨m',hm,σ3,H3,I3,w3⟩
   | brk=>exact q3
   | ret v=>exact q3
 | false =>
   rw [if_neg n15_];exact wpAny_execs_nil ⟨σ1,H2,I2,q2⟩
end
structure It where
 go:Nat→Hp→Prop
 yld:Nat→Hp→V→Hp→Prop
 stop:Nat→Hp→Prop
def FpOk (X:Cx) (pins:List (Addr×Obj)) (H:Hp) (b:Addr):Prop :=
 H b=none∧b≠X.env.locals∧b∉X.fs∧(b∈X.ex∨X.s₀.z≤b)∧(∀ x c,X.env.cells.lookup x=some c→c≠b)∧∀ p∈X.pn++pins,p.1≠b
theorem Inv.fpOk {X:Cx} {pins:List (Addr×Obj)} {σ:St} {H H':Hp} {s:Shared} {b:Addr} (I:Inv X pins σ H s) (hb:s.z≤b) (hn:H' b=none):FpOk X pins H' b:=by
 refine ⟨hn,n56_ (n9_ I.lt hb),I.nofs hb,.inr (n32_ I.sz hb),fun x c e z=>?_,fun p hp z=>?_⟩
 · obtain ⟨v,q⟩:=I.cell x c e;exact absurd (n9_ q.lt (by rw [z];exact hb)) (n63_ _)
 · exact absurd (n9_ (n7_ (I.pin p hp).1) (by rw [z];exact hb)) (n63_ _)
structure Turn (P:Program) (w:World) (K:PySem.W.Frag) (tg:Expr) (J:It) (fp:List Addr) (it:Addr) (tn:Nat→Heap→Prop):Prop where
 mem:it∈fp
 obj:∀ i h,tn i h→∀ b∈fp,∃ o,h.get? b=some o∧∀ v,o.data≠.cell v
 keep:∀ i h h',tn i h→(∀ b∈fp,∀ o,h.get? b=some o→h'.get? b=some o)→tn i h'
 item:∀ (X:Cx),X.prog=P→X.w=w→X.K=K→X.calm=true→∀ (i:Nat) (pins:List (Addr×Obj)) (s:Shared) (σ:St) (H:Hp) (E:Value→Shared→Prop),Inv X pins σ H s→(∀ b∈fp,FpOk X pins H b)→tn i s.heap→J.go i H →
  wpAny (model P w) X.A (pyNext (.ref it)) (fun r s1=>∃ u,r=some u ∧
   wpAny (model P w) X.A (letOwnedTupleGo tg (.ref it) u) (fun _ s2=>∃ x H',Inv X pins σ H' s2∧RelV x u∧J.yld i H x H'∧tn (i+1) s2.heap∧∀ b∈fp,H' b=none) E s1) E s
 done:∀ (X:Cx),X.prog=P→X.w=w→X.K=K→X.calm=true→∀ (i:Nat) (pins:List (Addr×Obj)) (s:Shared) (σ:St) (H:Hp) (E:Value→Shared→Prop),Inv X pins σ H s→(∀ b∈fp,FpOk X pins H b)→tn i s.heap→J.stop i H →
  wpAny (model P w) X.A (pyNext (.ref it)) (fun r s1=>r=none∧Inv X pins σ H s1) E s
 self:∀ (A:Around) (i:Nat) (s:Shared) (Q:Value→Shared→Prop) (E:Value→Shared→Prop),tn i s.heap→Q (.ref it) s→wpAny (model P w) A (pyIter (.ref it)) Q E s
abbrev TI:=St→Hp→(It→Hp→Prop)→Prop
def PIE (X:Cx) (pins:List (Addr×Obj)) (σ:St) (tg:Expr) (R:It→Hp→Prop) (itv:Value) (s2:Shared):Prop :=
 ∃ (it:Addr) (fp:List Addr) (tn:Nat→Heap→Prop) (J:It) (H':Hp),itv=.ref it∧Inv X pins σ H' s2∧Turn X.prog X.w X.K tg J fp it tn∧tn 0 s2.heap∧(∀ b∈fp,FpOk X pins H' b)∧R J H'
def PI (X:Cx) (tg iter:Expr) (wi:TI):Prop :=
 ∀ (pins:List (Addr×Obj)) (s:Shared) (σ:St) (H:Hp) (R:It→Hp→Prop),Inv X pins σ H s→wi σ H R →
   wpAny (model X.prog X.w) X.A (eval iter X.env) (fun v s1=>wpAny (model X.prog X.w) X.A (pyIter v) (PIE X pins σ tg R) X.xe s1) X.xe s
theorem Zqh {M:Model} {A:Around} {E:Value→Shared→Prop} {s:Shared} {tg:Expr} {it:Addr} {u:Value} {o:Obj} {n:String} {vs:Array Value} {Q:Unit→Shared→Prop} (ho:s.heap.get? it=some o) (hc:o.cls=.type n) (hd:o.data=.fields vs)
 (hn:["enumerate","zip","dict_itemiterator","dict_reverseitemiterator","odict_iterator","itertools.zip_longest","itertools.pairwise"].contains n=false) (hQ:Q () s):wpAny M A (letOwnedTupleGo tg (.ref it) u) Q E s:=by
 unfold letOwnedTupleGo
 cases tg<;>first
  | exact n4_ hQ
  | (cases u<;>first
      | exact n4_ hQ
      | (refine n0_ (wpAny_load ho ?_)
         rw [hc,hd];show wpAny M A (if (["enumerate","zip","dict_itemiterator","dict_reverseitemiterator","odict_iterator","itertools.zip_longest","itertools.pairwise"].contains n&&vs[0]? == some (rawInt _))=true then _ else _) Q E s
         rw [if_neg (by intro h;rw [hn,Bool.false_and] at h;cases h)];exact n4_ hQ))
def Itl (K:PySem.W.Frag) (a:Addr):It :=
 ⟨fun i H=>∃ xs x,SqL K H a xs∧xs[i]? = some x,fun i H x H'=>H'=H∧∀ xs,SqL K H a xs→xs[i]? = some x,fun i H=>∃ xs,SqL K H a xs∧xs.length≤i⟩
def Itt (K:PySem.W.Frag) (a:Addr):It :=
 ⟨fun i H=>∃ xs x,SqT K H a xs∧xs[i]? = some x,fun i H x H'=>H'=H∧∀ xs,SqT K H a xs→xs[i]? = some x,fun i H=>∃ xs,SqT K H a xs∧xs.length≤i⟩
def Itr (lo:Int) (n:Nat):It:=⟨fun i _=>i<n,fun i H x H'=>H'=H∧x=.int (lo+i),fun i _=>n≤i⟩
theorem Zl5 {P:Program} {w:World} {K:PySem.W.Frag} {tg:Expr} (a it:Addr):Turn P w K tg (Itl K a) [it] it (fun i h=>h.IsListIter it a i) where
 mem:=by simp
 obj:=fun i h st b hb=>by
  have e:b=it:=by simpa using hb
  subst e;obtain ⟨o,e,c,d⟩:=st;exact ⟨o,e,fun v z=>by rw [d] at z;cases z⟩
 keep:=fun i h h' st k=>st.at fun o e=>k it (by simp) o e
 item:=by
  intro X hP hw hK hc i pins s σ H E I hf st hg;subst hP hw hK;obtain ⟨xs,x,hq,hx⟩:=hg;obtain ⟨its,rv,p,hz⟩:=I.list hq;obtain ⟨u,hu,ru⟩:=rv.get hx;obtain ⟨f0,f1,f2,f3,f4,f5⟩:=hf it (by simp);refine wpAny_pyNext_list_item st p.isList (x:=u) (by simpa using hu) fun h' st' sb=>?_;have I1:Inv X pins σ H { s with heap:=h' }:=I.turned (t':=s.toks) (fun b o hb e=>(sb.2 b hb).trans e) f0 f1 f3 f4 f5;obtain ⟨o,e,c,d⟩:=id st';exact ⟨u,rfl,Zqh (s:={ s with heap:=h' }) e c d (by decide) ⟨x,H,I1,ru,⟨rfl,fun ys hy=>by rw [I.list_inj hy hq];exact hx⟩,st',fun b hb=>(hf b hb).1⟩⟩
 done:=by
  intro X hP hw hK hc i pins s σ H E I hf st hg;subst hP hw hK;obtain ⟨xs,hq,hx⟩:=hg;obtain ⟨its,rv,p,hz⟩:=I.list hq;obtain ⟨f0,f1,f2,f3,f4,f5⟩:=hf it (by simp);have hl:=rv.length;exact wpAny_pyNext_list_end (I.ok.hd hc) st p.isList (by simp;omega) fun h' eb=>⟨rfl,I.turned (t':=s.toks) (fun b o hb e=>eb b o hb e) f0 f1 f3 f4 f5⟩
 self:=fun _ _ _ _ _ st h=>wpAny_pyIter_listiter st h
theorem Zlc {P:Program} {w:World} {K:PySem.W.Frag} {tg:Expr} (a it:Addr):Turn P w K tg (Itt K a) [it] it (fun i h=>h.IsTupleIter it a i) where
 mem:=by simp
 obj:=fun i h st b hb=>by
  have e:b=it:=by simpa using hb
  subst e;obtain ⟨o,e,c,d⟩:=st;exact ⟨o,e,fun v z=>by rw [d] at z;cases z⟩
 keep:=fun i h h' st k=>st.at fun o e=>k it (by simp) o e
 item:=by
  intro X hP hw hK hc i pins s σ H E I hf st hg;subst hP hw hK;obtain ⟨xs,x,hq,hx⟩:=hg;obtain ⟨its,rv,p,hz⟩:=I.tuple hq;obtain ⟨u,hu,ru⟩:=rv.get hx;obtain ⟨f0,f1,f2,f3,f4,f5⟩:=hf it (by simp);refine wpAny_pyNext_tuple_item st (show s.heap.IsTuple a its.toArray from p) (x:=u) (by simpa using hu) fun h' st' sb=>?_;have I1:Inv X pins σ H { s with heap:=h' }:=I.turned (t':=s.toks) (fun b o hb e=>(sb.2 b hb).trans e) f0 f1 f3 f4 f5;obtain ⟨o,e,c,d⟩:=id st';exact ⟨u,rfl,Zqh (s:={ s with heap:=h' }) e c d (by decide) ⟨x,H,I1,ru,⟨rfl,fun ys hy=>by rw [I.tuple_inj hy hq];exact hx⟩,st',fun b hb=>(hf b hb).1⟩⟩
 done:=by
  intro X hP hw hK hc i pins s σ H E I hf st hg;subst hP hw hK;obtain ⟨xs,hq,hx⟩:=hg;obtain ⟨its,rv,p,hz⟩:=I.tuple hq;obtain ⟨f0,f1,f2,f3,f4,f5⟩:=hf it (by simp);have hl:=rv.length;exact wpAny_pyNext_tuple_end (I.ok.hd hc) st (show s.heap.IsTuple a its.toArray from p) (by simp;omega) fun h' eb=>⟨rfl,I.turned (t':=s.toks) (fun b o hb e=>eb b o hb e) f0 f1 f3 f4 f5⟩
 self:=fun _ _ _ _ _ st h=>wpAny_pyIter_tupleiter st h
theorem Zk1 {P:Program} {w:World} {K:PySem.W.Frag} {tg:Expr} (it:Addr) (lo:Int) (n:Nat):Turn P w K tg (Itr lo n) [it] it (fun i h=>IsRangeIter h it (lo+(i:Nat)*1) ((n:Int)-(i:Nat)) 1) where
 mem:=by simp
 obj:=fun i h st b hb=>by
  have e:b=it:=by simpa using hb
  subst e
  exact ⟨_,st,fun v z=>by
   have z':Data.fields _=Data.cell v:=z;cases z'⟩
 keep:=fun i h h' st k=>k it (by simp) _ st
 item:=by
  intro X hP hw hK hc i pins s σ H E I hf st hg;subst hP hw hK;obtain ⟨f0,f1,f2,f3,f4,f5⟩:=hf it (by simp);have W:=Walks.range (prog:=X.prog) (w:=X.w) (I.ok.hd hc) it lo 1 n;refine W.item i s _ _ hg st fun v h' tk hv st' kk=>?_;obtain ⟨t,rfl⟩:=hv;have I1:Inv X pins σ H { s with heap:=h',toks:=tk }:=I.turned (fun b o hb e=>kk b o (by simpa using hb) e) f0 f1 f3 f4 f5;refine ⟨_,rfl,Zqh (s:={ s with heap:=h',toks:=tk }) (n := "range_iterator") st' rfl rfl (by decide) ⟨.int (lo+i),H,I1,⟨t,?_⟩,⟨rfl,rfl⟩,st',fun b hb=>(hf b hb).1⟩⟩;rw [Int.mul_one]
 done:=by
  intro X hP hw hK hc i pins s σ H E I hf st hg;subst hP hw hK;obtain ⟨f0,f1,f2,f3,f4,f5⟩:=hf it (by simp);exact wpAny_pyNext_range_end (I.ok.hd hc) st (by have:n≤i:=hg;omega) fun h' eb=>⟨rfl,I.turned (t':=s.toks) (fun b o hb e=>eb b o hb e) f0 f1 f3 f4 f5⟩
 self:=fun _ _ _ _ _ st h=>wpAny_pyIter_rangeiter st h
section
variable {X:Cx} {tg:Expr}
def Zuc (K:PySem.W.Frag) (tl:TE):TI:=fun σ H R=>tl σ H fun x H1=>∃ a,x=.ref a∧(∃ xs,SqL K H1 a xs)∧R (Itl K a) H1
def iTup (K:PySem.W.Frag) (tl:TE):TI:=fun σ H R=>tl σ H fun x H1=>∃ a,x=.ref a∧(∃ xs,SqT K H1 a xs)∧R (Itt K a) H1
theorem Zd1 {l:Expr} {tl:TE} (hl:PE X l tl):PI X tg l (Zuc X.K tl):=by
 intro pins s σ H R I h;refine thn (hl pins s σ H _ I h) fun v s1 ⟨x,H1,I1,r1,q1⟩=>?_;obtain ⟨a,e,⟨xs,hq⟩,q⟩:=q1;subst e;cases r1
 obtain ⟨its,rv,p,hz⟩:=I1.list hq;refine wpAny_pyIter_list p.isList ?_;refine ⟨s1.z,[s1.z],_,_,H1,rfl,I1.kept (t':=s1.toks) fun b o e=>n2_ _ e,Zl5 a _,⟨_,n10_ _ rfl,rfl,rfl⟩,fun b hb=>?_,q⟩;have e:b=s1.z:=by simpa using hb
 subst e;exact I1.fpOk (n6_ _) (I1.hok.fresh (n6_ _))
theorem Yq {l:Expr} {tl:TE} (hl:PE X l tl):PI X tg l (iTup X.K tl):=by
 intro pins s σ H R I h;refine thn (hl pins s σ H _ I h) fun v s1 ⟨x,H1,I1,r1,q1⟩=>?_;obtain ⟨a,e,⟨xs,hq⟩,q⟩:=q1;subst e;cases r1
 obtain ⟨its,rv,p,hz⟩:=I1.tuple hq;refine wpAny_pyIter_tuple (show s1.heap.IsTuple a its.toArray from p) ?_;refine ⟨s1.z,[s1.z],_,_,H1,rfl,I1.kept (t':=s1.toks) fun b o e=>n2_ _ e,Zlc a _,⟨_,n10_ _ rfl,rfl,rfl⟩,fun b hb=>?_,q⟩;have e:b=s1.z:=by simpa using hb
 subst e;exact I1.fpOk (n6_ _) (I1.hok.fresh (n6_ _))
theorem Zo2 {pins:List (Addr×Obj)} {σ:St} {H:Hp} {s:Shared} {R:It→Hp→Prop} {E:Value→Shared→Prop} {lo hi:Int} {t u v:Tok} {tk:Nat} (I:Inv X pins σ H s) (h1:-(2^62)≤lo) (h2:lo<2^62) (h3:-(2^62)≤hi) (h4:hi<2^62)
 (q:R (Itr lo (hi-lo).toNat) H):wpAny (model X.prog X.w) X.A (pyIter (.ref s.z)) (PIE X pins σ tg R) E { s with heap:=s.heap.push { cls:=.type "range",data:=.fields #[.int lo t,.int hi u,.int 1 v] },toks:=tk }:=by
 refine wpAny_pyIter_range (IsRange.new ..) (small_one h1 h2 h3 h4) ?_;have I1:Inv X pins σ H { s with heap:=s.heap.push { cls:=.type "range",data:=.fields #[.int lo t,.int hi u,.int 1 v] },toks:=tk }:=I.kept fun b o e=>n2_ _ e
 refine ⟨(s.heap.push { cls:=.type "range",data:=.fields #[.int lo t,.int hi u,.int 1 v] }).objs.size,[(s.heap.push { cls:=.type "range",data:=.fields #[.int lo t,.int hi u,.int 1 v] }).objs.size],_,_,H,rfl,
  I1.kept (t':=tk) fun b o e=>n2_ _ e,Zk1 _ lo (hi-lo).toNat,?_,fun b hb=>?_,q⟩
 · have e1:lo+((0:Nat):Int)*1=lo:=by simp
   have e2:(((hi-lo).toNat:Nat):Int)-((0:Nat):Int)=Builtin.Range.rangeSize lo hi 1:=by rw [rangeSize_one];split<;>omega
   show IsRangeIter _ _ (lo+((0:Nat):Int)*1) ((((hi-lo).toNat:Nat):Int)-((0:Nat):Int)) 1
   rw [e1,e2];exact n10_ _ rfl
 · have e:b=(s.heap.push { cls:=.type "range",data:=.fields #[.int lo t,.int hi u,.int 1 v] }).objs.size:=by simpa using hb
   subst e;exact I1.fpOk (n6_ _) (I1.hok.fresh (n6_ _))
def Zun (ta:TA):TI:=fun σ H R=>ta σ H fun vs H1=>∃ j:Int,vs=[.int j]∧-(2^62)≤j∧j<2^62∧R (Itr 0 j.toNat) H1
theorem Zdr {a:Expr} {ta:TA} {p pos:Pos} (hg:Gl X "range") (hm:X.mg "range" = none) (ha:PA X [a] ta) (hs:starEach [a] X.env=[(false,eval a X.env)]:=by rfl):PI X tg (.Call (.Name "range" p) [a] [] pos) (Zun ta):=by
 intro pins s σ H R I h;refine Call_ (Zb6 I hg hm boot_range (n44_ (thn (ha pos pins s σ H _ I h) fun us s1 ⟨vs,H1,I1,r1,q1⟩=>?_) hs rfl));obtain ⟨j,e,q1,q2,q⟩:=q1;subst e;cases r1 with
 | cons r rr =>
   cases rr
   obtain ⟨t,rfl⟩:=r;exact call_range_1 (Zo2 I1 (by omega) (by omega) q1 q2 (by simpa using q))
def tFor (wi:TI) (g:TG) (tb:TS):TS:=fun D σ H=>wi σ H fun J H1=>∃ W:Nat→Nat→St→Hp→Prop,(∃ m,W 0 m σ H1)∧∀ i m σ H,W i m σ H →
 (J.stop i H∧D.nx σ H)∨(J.go i H∧∃ N:St→Hp→Prop,(∀ σ' H',N σ' H'→∃ m',m'<m∧W (i+1) m' σ' H')∧∀ x H',J.yld i H x H'→g x σ H' fun σ2 H2=>tb { D with nx:=N,ct:=N,bk:=D.nx } σ2 H2)
def Zj8 (fp:List Addr) (h:Heap):List (Addr×Obj):=fp.filterMap fun b=>(h.get? b).map fun o=>(b,o)
theorem Xi {fp:List Addr} {h:Heap} {b:Addr} {o:Obj} (hb:b∈fp) (e:h.get? b=some o):(b,o)∈Zj8 fp h:=List.mem_filterMap.mpr ⟨b,hb,by rw [e];rfl⟩
theorem Zmt {fp:List Addr} {h:Heap} {p:Addr×Obj} (hp:p∈Zj8 fp h):p.1∈fp∧h.get? p.1=some p.2:=by
 obtain ⟨b,hb,e⟩:=List.mem_filterMap.mp hp;cases q:h.get? b with
 | none=>rw [q] at e;cases e
 | some o =>
   rw [q] at e;have e':(b,o)=p:=Option.some.inj e;subst e';exact ⟨hb,q⟩
theorem Inv.pinned {pins:List (Addr×Obj)} {σ:St} {H:Hp} {s:Shared} {fp:List Addr} (I:Inv X pins σ H s) (hf:∀ b∈fp,FpOk X pins H b) (ho:∀ b∈fp,∃ o,s.heap.get? b=some o∧∀ v,o.data≠.cell v):Inv X (pins++Zj8 fp s.heap) σ H s :=
 I.pins_of fun p hp=>(n57_.mp hp).elim (fun z=>I.pin p (n29_ _ z)) fun z=>by
  obtain ⟨hb,e⟩:=Zmt z;obtain ⟨f0,f1,f2,_⟩:=hf p.1 hb;obtain ⟨o,e',d⟩:=ho p.1 hb;rw [e] at e';cases e';exact ⟨e,f0,f1,f2,d⟩
theorem Inv.unpinned {pins pl:List (Addr×Obj)} {σ:St} {H:Hp} {s:Shared} (I:Inv X (pins++pl) σ H s):Inv X pins σ H s:=I.pins_of fun p hp=>I.pin p (n29_ _ (List.mem_append_left _ hp))
theorem Zdl {iter:Expr} {body:List Stmt} {wi:TI} {g:TG} {tb:TS} {pos:Pos} (hp:PassesOwn (model X.prog X.w) X.A X.env X.xe) (hc:X.calm=true) (hi:PI X tg iter wi) (hg:PG X tg g) (hb:PSs X body tb)
 (hs:∀ x,foldedSetIterable iter X.env x=pure x:=by intro _;rfl):PS X (.For tg iter body [] pos) (tFor wi g tb):=by
 intro pins s σ H D I h;refine wpAny_For (thn (hi pins s σ H _ I h) fun v s1 h1=>thn h1 fun itv s2 h2=>?_) hs;obtain ⟨it,fp,tn,J,H2,e,I2,T,st2,f2,W,⟨m0,w0⟩,turn⟩:=h2;subst e;have stat:∀ {H':Hp},(∀ b∈fp,H' b=none)→∀ b∈fp,FpOk X pins H' b:=fun hn b hb=>⟨hn b hb,(f2 b hb).2⟩;refine codeAny_forLoop_any (fun n s'=>∃ i σ' H',Inv X pins σ' H' s'∧tn i s'.heap∧(∀ b∈fp,H' b=none)∧W i n σ' H') ?_ m0 ⟨0,σ,H2,I2,st2,fun b hb=>(f2 b hb).1,w0⟩;rintro n s3 ⟨i,σ3,H3,I3,st3,fr3,w3⟩
 rcases turn i n σ3 H3 w3 with ⟨stop,qn⟩|⟨go,N,hN,step⟩
 · refine wpAny_passesOwn hp (thn (T.done X rfl rfl rfl hc i pins s3 σ3 H3 X.xe I3 (stat fr3) st3 stop) fun r s4 ⟨hr,I4⟩=>?_);subst hr;exact wpAny_execs_nil ⟨σ3,H3,I4,qn⟩
 · refine wpAny_passesOwn hp (thn (T.item X rfl rfl rfl hc i pins s3 σ3 H3 X.xe I3 (stat fr3) st3 go) fun r s4 ⟨u,hr,h4⟩=>?_);subst hr;refine wpAny_passesOwn hp (thn h4 fun _ s5 ⟨x,H5,I5,r5,y5,st5,fr5⟩=>?_);have I5':=I5.pinned (stat fr5) (T.obj _ _ st5);refine wpAny_passesOwn hp (thn (hg _ s5 σ3 H5 x u _ I5' r5 (step x H5 y5)) fun _ s6 ⟨σ6,H6,I6,q6⟩=>?_);refine wpAny_passesOwn hp (thn (hb _ s6 σ6 H6 _ I6 q6) fun f s7 q7=>?_)
   have again:∀ {σ7:St} {H7:Hp},Inv X (pins++Zj8 fp s5.heap) σ7 H7 s7→N σ7 H7→∃ m,m<n∧∃ i σ' H',Inv X pins σ' H' s7∧tn i s7.heap∧(∀ b∈fp,H' b=none)∧W i m σ' H':=fun {σ7 H7} I7 n7=>by
    obtain ⟨m',hm,w7⟩:=hN σ7 H7 n7;refine ⟨m',hm,i+1,σ7,H7,I7.unpinned,T.keep _ _ _ st5 fun b hb o e=>(I7.pin (b,o) (n29_ _ (n29_ _ (Xi hb e)))).1,fun b hb=>?_,w7⟩;obtain ⟨o,e,d⟩:=T.obj _ _ st5 b hb;exact (I7.pin (b,o) (n29_ _ (n29_ _ (Xi hb e)))).2.1
   cases f with
   | next=>obtain ⟨σ7,H7,I7,n7⟩:=q7;exact again I7 n7
   | cont=>obtain ⟨σ7,H7,I7,n7⟩:=q7;exact again I7 n7
   | brk=>obtain ⟨σ7,H7,I7,q7⟩:=q7;exact ⟨σ7,H7,I7.unpinned,q7⟩
   | ret v=>obtain ⟨x7,σ7,H7,I7,r7,q7⟩:=q7;exact ⟨x7,σ7,H7,I7.unpinned,r7,q7⟩
end
theorem Zjy {K:PySem.W.Frag} {a:Addr} {xs:List V} {g:TG} {tb:TS} {D:Ends} {σ:St} {H:Hp} (Pv:Nat→St→Hp→Prop) (h0:Pv 0 σ H) (hl:∀ i σ H,i≤xs.length→Pv i σ H→SqL K H a xs)
 (hs:∀ i x σ H,xs[i]? = some x→Pv i σ H→g x σ H fun σ2 H2=>tb { D with nx:=Pv (i+1),ct:=Pv (i+1),bk:=D.nx } σ2 H2) (hd:∀ σ H,Pv xs.length σ H→D.nx σ H) :
 ∃ W:Nat→Nat→St→Hp→Prop,(∃ m,W 0 m σ H)∧∀ i m σ H,W i m σ H →
   ((Itl K a).stop i H∧D.nx σ H)∨((Itl K a).go i H∧∃ N:St→Hp→Prop,(∀ σ' H',N σ' H'→∃ m',m'<m∧W (i+1) m' σ' H')∧∀ x H',(Itl K a).yld i H x H'→g x σ H' fun σ2 H2=>tb { D with nx:=N,ct:=N,bk:=D.nx } σ2 H2):=by
 refine ⟨fun i m σ H=>m=xs.length-i∧i≤xs.length∧Pv i σ H,⟨xs.length,by simp,n43_ _,h0⟩,?_⟩;rintro i m σ H ⟨rfl,hi,p⟩
 have q:=hl i σ H hi p
 by_cases hlt:i<xs.length
 · refine .inr ⟨⟨xs,xs[i],q,by simp [hlt]⟩,Pv (i+1),fun σ' H' p'=>⟨xs.length-(i+1),by omega,rfl,hlt,p'⟩,fun x H' y=>?_⟩;obtain ⟨e,y⟩:=y;subst e;exact hs i x σ _ (y xs q) p
 · have e:i=xs.length:=by omega
   subst e;exact .inl ⟨⟨xs,q,n6_ _⟩,hd σ H p⟩
theorem Zg7 {lo:Int} {n:Nat} {g:TG} {tb:TS} {D:Ends} {σ:St} {H:Hp} (Pv:Nat→St→Hp→Prop) (h0:Pv 0 σ H)
 (hs:∀ i σ H,i<n→Pv i σ H→g (.int (lo+i)) σ H fun σ2 H2=>tb { D with nx:=Pv (i+1),ct:=Pv (i+1),bk:=D.nx } σ2 H2) (hd:∀ σ H,Pv n σ H→D.nx σ H) :
 ∃ W:Nat→Nat→St→Hp→Prop,(∃ m,W 0 m σ H)∧∀ i m σ H,W i m σ H →
   ((Itr lo n).stop i H∧D.nx σ H)∨((Itr lo n).go i H∧∃ N:St→Hp→Prop,(∀ σ' H',N σ' H'→∃ m',m'<m∧W (i+1) m' σ' H')∧∀ x H',(Itr lo n).yld i H x H'→g x σ H' fun σ2 H2=>tb { D with nx:=N,ct:=N,bk:=D.nx } σ2 H2):=by
 refine ⟨fun i m σ H=>m=n-i∧i≤n∧Pv i σ H,⟨n,by simp,n43_ _,h0⟩,?_⟩;rintro i m σ H ⟨rfl,hi,p⟩
 by_cases hlt:i<n
 · refine .inr ⟨hlt,Pv (i+1),fun σ' H' p'=>⟨n-(i+1),by omega,rfl,hlt,p'⟩,fun x H' y=>?_⟩;obtain ⟨e,y⟩:=y;subst e y;exact hs i σ _ hlt p
 · have e:i=n:=by omega
   subst e;exact .inl ⟨n6_ _,hd σ H p⟩
theorem Zdf {c:TT} {tb:TS} {D:Ends} {σ:St} {H:Hp} (Pv:St→Hp→Prop) (μ:St→Hp→Nat) (h0:Pv σ H)
 (hs:∀ σ H,Pv σ H→c σ H fun b H1=>if b=true then tb { D with nx:=fun σ' H'=>Pv σ' H'∧μ σ' H'<μ σ H,ct:=fun σ' H'=>Pv σ' H'∧μ σ' H'<μ σ H,bk:=D.nx } σ H1 else D.nx σ H1)
 (mono:∀ σ H Q Q',(∀ b H1,Q b H1→Q' b H1)→c σ H Q→c σ H Q'):Zp3 c tb D σ H:=by
 refine ⟨fun m σ H=>m=μ σ H∧Pv σ H,⟨_,rfl,h0⟩,?_⟩;rintro m σ H ⟨rfl,p⟩
 refine mono σ H _ _ (fun b H1 q=>?_) (hs σ H p);cases b with
 | true=>exact ⟨_,fun σ' H' ⟨p',l⟩=>⟨_,l,rfl,p'⟩,q⟩
 | false=>exact q
abbrev R2:=V→V→Hp→VK→Prop
def OpR (X:Cx) (f:Value→Value→Sem Value) (r:R2):Prop :=
 ∀ (pins:List (Addr×Obj)) (s:Shared) (σ:St) (H:Hp) (x y:V) (v u:Value) (Q:VK),Inv X pins σ H s→RelV x v→RelV y u→r x y H Q →
   wpAny (model X.prog X.w) X.A (f v u) (EP X pins σ Q) X.xe s
def UnR (X:Cx) (f:Value→Sem Value) (r:V→Hp→VK→Prop):Prop :=
 ∀ (pins:List (Addr×Obj)) (s:Shared) (σ:St) (H:Hp) (x:V) (v:Value) (Q:VK),Inv X pins σ H s→RelV x v→r x H Q →
   wpAny (model X.prog X.w) X.A (f v) (EP X pins σ Q) X.xe s
def Xz (X:Cx) (f:Value) (r:List V→Hp→VK→Prop):Prop :=
 ∀ (pins:List (Addr×Obj)) (s:Shared) (σ:St) (H:Hp) (xs:List V) (us:List Value) (Q:VK),Inv X pins σ H s→Vals xs us→r xs H Q →
   wpAny (model X.prog X.w) X.A (call f us) (EP X pins σ Q) X.xe s
def TruR (X:Cx) (r:V→Hp→(Bool→Hp→Prop)→Prop):Prop :=
 ∀ (pins:List (Addr×Obj)) (s:Shared) (σ:St) (H:Hp) (x:V) (v:Value) (Q:Bool→Hp→Prop),Inv X pins σ H s→RelV x v→r x H Q →
   wpAny (model X.prog X.w) X.A (truthy v) (TP X pins σ Q) X.xe s
def tOp (r:R2) (ta tb:TE):TE:=fun σ H Q=>ta σ H fun x H1=>tb σ H1 fun y H2=>r x y H2 Q
def tUn (r:V→Hp→VK→Prop) (ta:TE):TE:=fun σ H Q=>ta σ H fun x H1=>r x H1 Q
def rI (C:Int→Int→Prop) (g:Int→Int→V):R2:=fun x y H Q=>∃ i j,x=.int i∧y=.int j∧C i j∧Q (g i j) H
def rI0 (g:Int→Int→V):R2:=fun x y H Q=>∃ i j,x=.int i∧y=.int j∧Q (g i j) H
def rU (g:Int→V):V→Hp→VK→Prop:=fun x H Q=>∃ i,x=.int i∧Q (g i) H
section
variable {X:Cx} {a b c:Expr} {ta tb tc:TE} {pos:Pos}
theorem binT (ha:PE X a ta) (hb:PE X b tb) {pins:List (Addr×Obj)} {s:Shared} {σ:St} {H:Hp} {R:V→V→Hp→Prop} (I:Inv X pins σ H s)
 (h:ta σ H fun x H1=>tb σ H1 fun y H2=>R x y H2) {Q:Value→Shared→Prop} {f:Value→Value→Sem Value}
 (hf:∀ v u s2 x y H2,Inv X pins σ H2 s2→RelV x v→RelV y u→R x y H2→wpAny (model X.prog X.w) X.A (f v u) Q X.xe s2) :
 wpAny (model X.prog X.w) X.A (eval a X.env) (fun v s₁=>wpAny (model X.prog X.w) X.A (eval b X.env) (fun u s₂=>wpAny (model X.prog X.w) X.A (f v u) Q X.xe s₂) X.xe s₁) X.xe s:=by
 refine thn (ha pins s σ H _ I h) fun v s1 ⟨x,H1,I1,r1,q1⟩=>?_;refine thn (hb pins s1 σ H1 _ I1 q1) fun u s2 ⟨y,H2,I2,r2,q2⟩=>?_;exact hf v u s2 x y H2 I2 r1 r2 q2
theorem Zt {op:Operator} {r:R2} (ho:OpR X (binaryOp op) r) (ha:PE X a ta) (hb:PE X b tb):PE X (.BinOp a op b pos) (tOp r ta tb):=by
 intro pins s σ H Q I h;exact wpAny_BinOp (binT ha hb I h fun v u s2 x y H2 I2 rx ry q=>ho pins s2 σ H2 x y v u Q I2 rx ry q)
theorem Zk8 {op:UnaryOp} {r:V→Hp→VK→Prop} (ho:UnR X (unaryOp op) r) (ha:PE X a ta):PE X (.UnaryOp op a pos) (tUn r ta):=by
 intro pins s σ H Q I h;exact UnaryOp_ (thn (ha pins s σ H _ I h) fun v s1 ⟨x,H1,I1,r1,q1⟩=>ho pins s1 σ H1 x v Q I1 r1 q1)
theorem opI {f:Value→Value→Sem Value} {C:Int→Int→Prop} {g:Int→Int→Int}
 (rule:∀ (i j:Int) (t u:Tok) (s:Shared) (Q:Value→Shared→Prop) (E:Value→Shared→Prop),C i j→Q (.int (g i j) s.toks) { s with toks:=s.toks+1 }→wpAny (model X.prog X.w) X.A (f (.int i t) (.int j u)) Q E s) :
 OpR X f (rI C fun i j=>.int (g i j)):=by
 intro pins s σ H x y v u Q I rx ry h;obtain ⟨i,j,rfl,rfl,hc,q⟩:=h;obtain ⟨t,rfl⟩:=rx;obtain ⟨t',rfl⟩:=ry;exact rule i j t t' s _ _ hc ⟨.int (g i j),H,I.tok _,⟨_,rfl⟩,q⟩
theorem opI0 {f:Value→Value→Sem Value} {g:Int→Int→Int}
 (rule:∀ (i j:Int) (t u:Tok) (s:Shared) (Q:Value→Shared→Prop) (E:Value→Shared→Prop),Q (.int (g i j) s.toks) { s with toks:=s.toks+1 }→wpAny (model X.prog X.w) X.A (f (.int i t) (.int j u)) Q E s) :
 OpR X f (rI0 fun i j=>.int (g i j)):=by
 intro pins s σ H x y v u Q I rx ry h;obtain ⟨i,j,rfl,rfl,q⟩:=h;obtain ⟨t,rfl⟩:=rx;obtain ⟨t',rfl⟩:=ry;exact rule i j t t' s _ _ ⟨.int (g i j),H,I.tok _,⟨_,rfl⟩,q⟩
theorem opB0 {f:Value→Value→Sem Value} {g:Int→Int→Bool}
 (rule:∀ (i j:Int) (t u:Tok) (s:Shared) (Q:Value→Shared→Prop) (E:Value→Shared→Prop),Q (.bool (g i j)) s→wpAny (model X.prog X.w) X.A (f (.int i t) (.int j u)) Q E s) :
 OpR X f (rI0 fun i j=>.bl (g i j)):=by
 intro pins s σ H x y v u Q I rx ry h;obtain ⟨i,j,rfl,rfl,q⟩:=h;obtain ⟨t,rfl⟩:=rx;obtain ⟨t',rfl⟩:=ry;exact rule i j t t' s _ _ ⟨.bl (g i j),H,I,rfl,q⟩
def CPow (i j:Int):Prop:=0≤j∧j≤1000000∧i.natAbs<2^64
theorem Xl:OpR X (binaryOp .Add) (rI0 fun i j=>.int (i+j)):=opI0 fun _ _ _ _ _ _ _ q=>add_int q
theorem Xw:OpR X (binaryOp .Sub) (rI0 fun i j=>.int (i-j)):=opI0 fun _ _ _ _ _ _ _ q=>sub_int q
theorem Za2:OpR X (binaryOp .Mod) (rI (fun _ j=>j≠0) fun i j=>.int (i.fmod j)):=opI fun _ _ _ _ _ _ _ hc q=>mod_int' hc q
theorem Zmc:OpR X (binaryOp .Pow) (rI CPow fun i j=>.int (i^j.toNat)):=opI fun _ _ _ _ _ _ _ hc q=>pow_int_small hc.1 hc.2.1 hc.2.2 q
theorem unI {f:Value→Sem Value} {g:Int→Int}
 (rule:∀ (i:Int) (t:Tok) (s:Shared) (Q:Value→Shared→Prop) (E:Value→Shared→Prop),Q (.int (g i) s.toks) { s with toks:=s.toks+1 }→wpAny (model X.prog X.w) X.A (f (.int i t)) Q E s) :
 UnR X f (rU fun i=>.int (g i)):=by
 intro pins s σ H x v Q I rx h;obtain ⟨i,rfl,q⟩:=h;obtain ⟨t,rfl⟩:=rx;exact rule i t s _ _ ⟨.int (g i),H,I.tok _,⟨_,rfl⟩,q⟩
theorem Ze4:UnR X (unaryOp .USub) (rU fun i=>.int (-i)):=unI fun _ _ _ _ _ q=>neg_int q
end
def scal:V→V→Bool
 | .non,.non=>true|.non,.int _=>true|.int _,.non=>true|.non,.bl _=>true|.bl _,.non=>true|.non,.str _=>true|.str _,.non=>true
 | .int _,.int _=>true|.bl _,.bl _=>true|.str _,.str _=>true|.byt _,.byt _=>true
 | .int _,.str _=>true|.str _,.int _=>true|.bl _,.str _=>true|.str _,.bl _=>true
 | _,_=>false
def rEq:R2:=fun x y H Q=>scal x y=true∧Q (.bl (decide (x=y))) H
def rNe:R2:=fun x y H Q=>scal x y=true∧Q (.bl (!decide (x=y))) H
theorem Zm4 {i j:Int}:decide (V.int i=V.int j)=(i == j):=by
 rw [Bool.eq_iff_iff]
 simp
theorem Zpu {i j:Bool}:decide (V.bl i=V.bl j)=(i == j):=by
 rw [Bool.eq_iff_iff]
 simp
theorem Zno {i j:Str}:decide (V.str i=V.str j)=(i == j):=by
 rw [Bool.eq_iff_iff]
 simp
theorem Zmm {i j:Array UInt8}:decide (V.byt i=V.byt j)=(i.toList == j.toList):=by
 rw [Bool.eq_iff_iff];cases i
 cases j
 simp
section
variable {X:Cx} {a b c:Expr} {ta tb tc:TE} {pos:Pos}
theorem Yg {pins:List (Addr×Obj)} {σ:St} {H:Hp} {s:Shared} {Q:VK} {k k':Bool} (I:Inv X pins σ H s) (q:Q (.bl k) H) (e:k=k'):EP X pins σ Q (.bool k') s:=by
 subst e;exact ⟨.bl k,H,I,rfl,q⟩
theorem Zco:OpR X (compareOp .Eq) rEq:=by
 intro pins s σ H x y v u Q I rx ry h;obtain ⟨hs,q⟩:=h;cases x with
 | non =>
   cases rx
   cases y with
   | non=>cases ry;exact PySem.EqNone.eq_none_none (Yg I q (by simp))
   | bl j=>cases ry;exact PySem.EqNone.eq_none_bool (Yg I q (by simp))
   | int j=>obtain ⟨t',rfl⟩:=ry;exact PySem.EqNone.eq_none_int (Yg I q (by simp))
   | str j=>obtain ⟨t',rfl⟩:=ry;exact PySem.EqNone.eq_none_str (Yg I q (by simp))
   | _=>exact absurd (show false=true from hs) n15_
 | bl i =>
   cases rx
   cases y with
   | non=>cases ry;exact PySem.EqNone.eq_bool_none (Yg I q (by simp))
   | bl j=>cases ry;exact eq_bool (Yg I q Zpu)
   | str j=>obtain ⟨t',rfl⟩:=ry;exact PySem.EqMixed.eq_bool_str (Yg I q (by simp))
   | _=>exact absurd (show false=true from hs) n15_
 | int i =>
   obtain ⟨t,rfl⟩:=rx;cases y with
   | non=>cases ry;exact PySem.EqNone.eq_int_none (Yg I q (by simp))
   | int j=>obtain ⟨t',rfl⟩:=ry;exact eq_int (Yg I q Zm4)
   | str j=>obtain ⟨t',rfl⟩:=ry;exact PySem.EqMixed.eq_int_str (Yg I q (by simp))
   | _=>exact absurd (show false=true from hs) n15_
 | str i =>
   obtain ⟨t,rfl⟩:=rx;cases y with
   | non=>cases ry;exact PySem.EqNone.eq_str_none (Yg I q (by simp))
   | bl j=>cases ry;exact PySem.EqMixed.eq_str_bool (Yg I q (by simp))
   | int j=>obtain ⟨t',rfl⟩:=ry;exact PySem.EqMixed.eq_str_int (Yg I q (by simp))
   | str j=>obtain ⟨t',rfl⟩:=ry;exact eq_str (Yg I q Zno)
   | _=>exact absurd (show false=true from hs) n15_
 | byt i =>
   obtain ⟨t,rfl⟩:=rx;cases y with
   | byt j=>obtain ⟨t',rfl⟩:=ry;exact PySem.W.eq_bytes (Yg I q Zmm)
   | _=>exact absurd (show false=true from hs) n15_
 | _=>cases y<;>exact absurd (show false=true from hs) n15_
theorem Zgj:OpR X (compareOp .NotEq) rNe:=by
 intro pins s σ H x y v u Q I rx ry h;obtain ⟨hs,q⟩:=h;cases x with
 | non =>
   cases rx
   cases y with
   | non=>cases ry;exact PySem.EqNone.ne_none_none (Yg I q (by simp))
   | bl j=>cases ry;exact PySem.EqNone.ne_none_bool (Yg I q (by simp))
   | int j=>obtain ⟨t',rfl⟩:=ry;exact PySem.EqNone.ne_none_int (Yg I q (by simp))
   | str j=>obtain ⟨t',rfl⟩:=ry;exact PySem.EqNone.ne_none_str (Yg I q (by simp))
   | _=>exact absurd (show false=true from hs) n15_
 | bl i =>
   cases rx
   cases y with
   | non=>cases ry;exact PySem.EqNone.ne_bool_none (Yg I q (by simp))
   | bl j=>cases ry;exact ne_bool (Yg I q (congrArg not Zpu))
   | str j=>obtain ⟨t',rfl⟩:=ry;exact PySem.EqMixed.ne_bool_str (Yg I q (by simp))
   | _=>exact absurd (show false=true from hs) n15_
 | int i =>
   obtain ⟨t,rfl⟩:=rx;cases y with
   | non=>cases ry;exact PySem.EqNone.ne_int_none (Yg I q (by simp))
   | int j=>obtain ⟨t',rfl⟩:=ry;exact ne_int (Yg I q (congrArg not Zm4))
   | str j=>obtain ⟨t',rfl⟩:=ry;exact PySem.EqMixed.ne_int_str (Yg I q (by simp))
   | _=>exact absurd (show false=true from hs) n15_
 | str i =>
   obtain ⟨t,rfl⟩:=rx;cases y with
   | non=>cases ry;exact PySem.EqNone.ne_str_none (Yg I q (by simp))
   | bl j=>cases ry;exact PySem.EqMixed.ne_str_bool (Yg I q (by simp))
   | int j=>obtain ⟨t',rfl⟩:=ry;exact PySem.EqMixed.ne_str_int (Yg I q (by simp))
   | str j=>obtain ⟨t',rfl⟩:=ry;exact ne_str (Yg I q (congrArg not Zno))
   | _=>exact absurd (show false=true from hs) n15_
 | byt i =>
   obtain ⟨t,rfl⟩:=rx;cases y with
   | byt j=>obtain ⟨t',rfl⟩:=ry;exact PySem.W.ne_bytes (Yg I q (congrArg not Zmm))
   | _=>exact absurd (show false=true from hs) n15_
 | _=>cases y<;>exact absurd (show false=true from hs) n15_
theorem Zlv:OpR X (compareOp .Lt) (rI0 fun i j=>.bl (decide (i<j))):=opB0 fun _ _ _ _ _ _ _ q=>lt_int q
theorem Zf5:OpR X (compareOp .LtE) (rI0 fun i j=>.bl (decide (i≤j))):=opB0 fun _ _ _ _ _ _ _ q=>le_int q
theorem Zln:OpR X (compareOp .Gt) (rI0 fun i j=>.bl (decide (j<i))):=opB0 fun _ _ _ _ _ _ _ q=>gt_int q
theorem Zug:OpR X (compareOp .GtE) (rI0 fun i j=>.bl (decide (j≤i))):=opB0 fun _ _ _ _ _ _ _ q=>ge_int q
theorem Zx (b:Expr) {op:CmpOp} (h:op≠.In:=by decide) (h2:op≠.NotIn:=by decide):behindInMarks op b=false:=by
 have e1:(op == CmpOp.In)=false:=by cases op<;>first|rfl|exact absurd rfl h
 have e2:(op == CmpOp.NotIn)=false:=by cases op<;>first|rfl|exact absurd rfl h2
 cases b<;>simp [behindInMarks,e1,e2]
theorem Yx {op:CmpOp} {r:R2} (ho:OpR X (compareOp op) r) (ha:PE X a ta) (hb:PE X b tb) (hm:behindInMarks op b=false):PE X (.Compare a [op] [b] pos) (tOp r ta tb):=by
 intro pins s σ H Q I h;exact wpAny_Compare1 (binT ha hb I h fun v u s2 x y H2 I2 rx ry q=>ho pins s2 σ H2 x y v u Q I2 rx ry q) hm
def Zt4 (t:TE):TT:=fun σ H Q=>t σ H fun x H'=>∃ k,x=.bl k∧Q k H'
theorem Z4 {op:CmpOp} {r:R2} (ho:OpR X (compareOp op) r) (ha:PE X a ta) (hb:PE X b tb) (hm:behindInMarks op b=false):PT X (.Compare a [op] [b] pos) (Zt4 (tOp r ta tb)):=by
 intro pins s σ H Q I h
 refine wpAny_isTrue_Compare1 (thn (ha pins s σ H _ I h) fun v s1 ⟨x,H1,I1,r1,q1⟩=>thn (hb pins s1 σ H1 _ I1 q1) fun u s2 ⟨y,H2,I2,r2,q2⟩ =>
  thn (ho pins s2 σ H2 x y v u _ I2 r1 r2 q2) fun c s3 ⟨z,H3,I3,r3,k,e,q3⟩=>?_) hm
 subst e;cases r3
 exact wpAny_truthy_bool ⟨H3,I3,q3⟩
def Ztg (r r':R2) (ta tb tc:TE):TE:=fun σ H Q=>ta σ H fun x H1=>tb σ H1 fun y H2=>r x y H2 fun z H3=>∃ k,z=.bl k ∧
 (if k=true then tc σ H3 fun w' H4=>r' y w' H4 Q else Q (.bl false) H3)
theorem Zdj {op op':CmpOp} {r r':R2} (ho:OpR X (compareOp op) r) (ho':OpR X (compareOp op') r') (ha:PE X a ta) (hb:PE X b tb) (hc:PE X c tc)
 (hm:lastMarks [op,op'] [b,c]=false:=by with_unfolding_all rfl):PE X (.Compare a [op,op'] [b,c] pos) (Ztg r r' ta tb tc):=by
 intro pins s σ H Q I h
 refine Compare_chain (thn (ha pins s σ H _ I h) fun v s1 ⟨x,H1,I1,r1,q1⟩=>chain_link (thn (hb pins s1 σ H1 _ I1 q1) fun u s2 ⟨y,H2,I2,r2,q2⟩ =>
  thn (ho pins s2 σ H2 x y v u _ I2 r1 r2 q2) fun d s3 ⟨z,H3,I3,r3,k,e,q3⟩=>?_)) hm
 subst e;cases r3
 refine wpAny_truthy_bool ?_;cases k with
 | false=>exact ite_ff ⟨.bl false,H3,I3,rfl,q3⟩
 | true=>exact ite_tt (chain_last (thn (hc pins s3 σ H3 _ I3 q3) fun w' s4 ⟨z',H4,I4,r4,q4⟩=>ho' pins s4 σ H4 y z' u w' Q I4 r2 r4 q4))
def TruV (K:PySem.W.Frag) (x:V) (H:Hp) (k:Bool):Prop :=
 match x with
 | .non=>k=false
 | .bl b=>k=b
 | .int i=>k=(i != 0)
 | .str y=>y.length≤sizeLine∧k=((y.length:Int) != 0)
 | .byt y=>y.size≤sizeLine∧k=((y.size:Int) != 0)
 | .ref p=>(∃ xs,SqL K H p xs∧k = !xs.isEmpty)∨(∃ xs,SqT K H p xs∧k = !xs.isEmpty)∨∃ kvs,H p=some (.dK kvs)∧k = !kvs.isEmpty
 | _=>False
theorem Zli {κ:Type} {kvs:List (κ×V)} {vs:List (κ×Value)} (r:KV kvs vs):(!vs.isEmpty) = !kvs.isEmpty:=by
 cases r<;>rfl
theorem Zew {xs:List V} {its:List Value} (r:Vals xs its):(!its.toArray.isEmpty) = !xs.isEmpty:=by
 cases r<;>simp
theorem Zdy:(sizeLine:Nat)<2^63:=by rw [sizeLine_eq];decide
theorem Ztj:TruR X (fun x H Q=>∃ k,TruV X.K x H k∧Q k H):=by
 intro pins s σ H x v Q I rx h;obtain ⟨k,e,q⟩:=h;have hl:=Zdy;have hs:sizeLine=16777216:=sizeLine_eq;cases x with
 | non =>
   cases rx
   have e':k=false:=e;subst e';exact truthy_none ⟨H,I,q⟩
 | bl b =>
   cases rx
   have e':k=b:=e;subst e';exact wpAny_truthy_bool ⟨H,I,q⟩
 | int i =>
   obtain ⟨t,rfl⟩:=rx;have e':k=(i != 0):=e;subst e';exact PySem.P.truthy_int ⟨H,I,q⟩
 | str y =>
   obtain ⟨t,rfl⟩:=rx;obtain ⟨hy,e'⟩:y.length≤sizeLine∧k=((y.length:Int) != 0):=e;subst e';exact PySem.P.truthy_str (by omega) ⟨H,I.tok _,q⟩
 | byt y =>
   obtain ⟨t,rfl⟩:=rx;obtain ⟨hy,e'⟩:y.size≤sizeLine∧k=((y.size:Int) != 0):=e;subst e';exact PySem.W.truthy_bytes (by omega) ⟨H,I.tok _,q⟩
 | ref p =>
   cases rx
   have e':(∃ xs,SqL X.K H p xs∧k = !xs.isEmpty)∨(∃ xs,SqT X.K H p xs∧k = !xs.isEmpty)∨∃ kvs,H p=some (.dK kvs)∧k = !kvs.isEmpty:=e
   rcases e' with ⟨xs,hx,e'⟩|⟨xs,hx,e'⟩|⟨kvs,hx,e'⟩
   · subst e';obtain ⟨its,r,pl,hz⟩:=I.list hx;have hlen:=r.length;exact wpAny_truthy_list pl.isList (by simp only [n5_];omega) ⟨H,I.tok _,by rw [Zew r];exact q⟩
   · subst e';obtain ⟨its,r,pl,hz⟩:=I.tuple hx;have hlen:=r.length;exact truthy_tuple pl (by simp only [n5_];omega) ⟨H,I.tok _,by rw [Zew r];exact q⟩
   · subst e';obtain ⟨hz,hS,vs,r,m⟩:kvs.length≤sizeLine∧(p == sysModules)=false∧∃ vs,KV kvs vs∧s.heap.DictOf (Zjg X.prog X.w) p vs:=I.hok p _ hx;have hlen:kvs.length=vs.length:=Paired.length r;exact wpAny_truthy_dict hS m (by omega) ⟨H,I.tok _,by rw [Zli r];exact q⟩
 | _=>exact (show False from e).elim
theorem Zk (ha:PE X a ta) (he:∀ whole,isTrue a X.env whole=(do let v ← whole;standAt a.pos;holding [v] (truthy v))) :
 PT X a (fun σ H Q=>ta σ H fun x H'=>∃ k,TruV X.K x H' k∧Q k H'):=by
 intro pins s σ H Q I h;exact isTrue_plain (thn (ha pins s σ H _ I h) fun v s1 ⟨x,H1,I1,r1,q1⟩=>Ztj pins s1 σ H1 x v Q I1 r1 q1) (he _)
theorem Zll {x:V} {us:List Value} (r:Vals [x] us):∃ u,us=[u]∧RelV x u:=by
 cases r with
 | cons r1 r2=>cases r2;exact ⟨_,rfl,r1⟩
theorem Zss {x y:V} {us:List Value} (r:Vals [x,y] us):∃ u w',us=[u,w']∧RelV x u∧RelV y w':=by
 cases r with
 | cons r1 r2 =>
   cases r2 with
   | cons r3 r4=>cases r4;exact ⟨_,_,rfl,r1,r3⟩
theorem Zdi:Xz X (.builtin "abs") (fun xs H Q=>∃ i,xs=[.int i]∧Q (.int (if i<0 then -i else i)) H):=by
 intro pins s σ H xs us Q I r h;obtain ⟨i,rfl,q⟩:=h;obtain ⟨u,rfl,t,rfl⟩:=Zll r;exact call_abs_int fun u tk=>⟨.int (if i<0 then -i else i),H,I.tok _,⟨_,rfl⟩,q⟩
theorem Zhn (hc:X.calm=true):Xz X (.builtin "max") (fun xs H Q=>∃ i j,xs=[.int i,.int j]∧Q (.int (if j>i then j else i)) H):=by
 intro pins s σ H xs us Q I r h;obtain ⟨i,j,rfl,q⟩:=h;obtain ⟨u,w',rfl,⟨t,rfl⟩,⟨t',rfl⟩⟩:=Zss r;refine max_two_ints (I.ok.hd hc) fun h' tk k=>⟨_,H,I.kept k,?_,q⟩
 by_cases hj:j>i
 · rw [if_pos hj,if_pos hj];exact ⟨_,rfl⟩
 · rw [if_neg hj,if_neg hj];exact ⟨_,rfl⟩
theorem Zgz (hc:X.calm=true):Xz X (.builtin "min") (fun xs H Q=>∃ i j,xs=[.int i,.int j]∧Q (.int (if j<i then j else i)) H):=by
 intro pins s σ H xs us Q I r h;obtain ⟨i,j,rfl,q⟩:=h;obtain ⟨u,w',rfl,⟨t,rfl⟩,⟨t',rfl⟩⟩:=Zss r;refine min_two_ints (I.ok.hd hc) fun h' tk k=>⟨_,H,I.kept k,?_,q⟩
 by_cases hj:j<i
 · rw [if_pos hj,if_pos hj];exact ⟨_,rfl⟩
 · rw [if_neg hj,if_neg hj];exact ⟨_,rfl⟩
theorem Zlt:Xz X (.type "int") (fun xs H Q=>(∃ i,xs=[.int i]∧Q (.int i) H)∨∃ k,xs=[.bl k]∧Q (.int (if k then 1 else 0)) H):=by
 intro pins s σ H xs us Q I r h
 rcases h with ⟨i,rfl,q⟩|⟨k,rfl,q⟩
 · obtain ⟨u,rfl,t,rfl⟩:=Zll r;exact call_int_int ⟨.int i,H,I,⟨_,rfl⟩,q⟩
 · obtain ⟨u,rfl,r1⟩:=Zll r;cases r1
   exact call_int_bool ⟨.int (if k then 1 else 0),H,I.tok _,⟨_,rfl⟩,q⟩
end
structure ObjM (h:Heap) (x dx C:Addr) (mA:Str→Option Value):Prop where
 obj:h.get? x=some (PySem.W.instObj C dx)
 ns:h.Ns1 dx mA
 ne:dx≠x
theorem Zmh {h:Heap} {dx:Addr} {mA:Str→Option Value} (n:h.Ns1 dx mA):∃ od,h.get? dx=some od∧∀ name,PySem.W.lookIn name od=some (mA name):=by
 obtain ⟨o,es,ep,ho,hd,hk,_,hm⟩:=n;refine ⟨o,ho,fun name=>?_⟩;have e:=hm name;unfold nsFind findBy at e;rw [← Array.find?_toList] at e;unfold PySem.W.lookIn;rw [hd];dsimp only;split
 · rename_i y q
   rw [q] at e;exact congrArg some e
 · rename_i q
   rw [q] at e
   have a:es.toList.any (·.refKey)=false:=by
    rw [List.any_eq_false];intro y hy;obtain ⟨z,t,hkey⟩:=hk y (Array.mem_toList_iff.mp hy);simp [DictEntry.refKey,hkey]
   have a':¬ es.toList.any (·.refKey)=true:=by rw [a];exact n15_
   rw [if_neg a'];exact congrArg some e
theorem ObjM.look {h:Heap} {x dx C:Addr} {mA:Str→Option Value} (I:ObjM h x dx C mA):∃ od,PySem.W.InstAt h x (PySem.W.instObj C dx) C (some od)∧∀ name,PySem.W.lookIn name od=some (mA name) :=
 let ⟨od,ho,hl⟩:=Zmh I.ns
 ⟨od,⟨I.obj,rfl,rfl,ho⟩,hl⟩
section
variable {prog:Program} {w:World} {A:Around} {E:Value→Shared→Prop} {s:Shared} {K:PySem.W.Frag} {x dx C f:Addr} {mA:Str→Option Value} {name:Str} {v:Value}
end
section
variable {P:Program} {w:World} {H H':Hp} {h h':Heap} {a C dx:Addr} {fs fs':List (Str×V)}
theorem Zrc (hok:HOk P w H h) (e:H a=some (.ins C dx fs)):∃ mA,ObjM h a dx C mA∧(∀ f,RelO (fs.lookup f) (mA f))∧PySem.Within mA (fs.map (·.1))∧fs.length≤1000∧H dx=some (.own a):=by
 obtain ⟨d,z,ne,ob,mA,n,r,q⟩:=(show ObjOk P w H h a (.ins C dx fs) from hok a _ e);exact ⟨mA,⟨ob,n,ne⟩,r,q,z,d⟩
end
structure Cls (K:PySem.W.Frag) (C:Addr):Prop where
 pg:PySem.W.plainGet K C Str.empty=true
 hd:PySem.W.hasDictIn K C=true
 po:PySem.W.plainOver K C=true
 sa:PySem.W.findIn K (.ref C) "__setattr__" = some (some (.builtin "object.__setattr__"))
theorem Cls.get {K:PySem.W.Frag} {C:Addr} (c:Cls K C) (f:Str):PySem.W.plainGet K C f=true:=c.pg
section
variable {X:Cx} {pins:List (Addr×Obj)} {σ:St} {H:Hp} {s:Shared} {a C dx:Addr} {fs:List (Str×V)} {f:Str} {v:V} {A:Around} {E:Value→Shared→Prop}
end
section
variable {X:Cx} {o e value:Expr} {f:Str} {pos pos' tpos:Pos} {ta tv:TE}
end
section
variable {X:Cx} {pins:List (Addr×Obj)} {σ:St} {H:Hp} {s:Shared} {A:Around} {E:Value→Shared→Prop} {Q:Value→Shared→Prop} {c:Value} {b:Bool}
inductive TyOf (K:PySem.W.Frag) (H:Hp):V→Value→Prop where
 | non:TyOf K H .non (.type "NoneType")
 | bl (x:Bool):TyOf K H (.bl x) (.type "bool")
 | int (i:Int):TyOf K H (.int i) (.type "int")
 | str (x:Str):TyOf K H (.str x) (.type "str")
 | flt (x:UInt64):TyOf K H (.flt x) (.type "float")
 | lst {a:Addr} {xs:List V} (e:H a=some (.lst xs)):TyOf K H (.ref a) (.type "list")
 | frz {a:Addr} {o:Obj} {xs:List V} (e:H a=some (.frz o (.lst xs))):TyOf K H (.ref a) (.type "list")
 | tup {a:Addr} {xs:List V} (e:H a=some (.tup xs)):TyOf K H (.ref a) (.type "tuple")
 | dK {a:Addr} {kvs:List (Key×V)} (e:H a=some (.dK kvs)):TyOf K H (.ref a) (.type "dict")
 | dT {a:Addr} {kvs:List (List Key×V)} (e:H a=some (.dT kvs)):TyOf K H (.ref a) (.type "dict")
 | ins {a C dx:Addr} {fs:List (Str×V)} (e:H a=some (.ins C dx fs)) (cl:Cls K C) (ha:PySem.W.findIn K (.ref C) "__class__" = some (some (.builtin "object.__class__")))
    (hn:PySem.W.specialIn K (.builtin "object.__class__") "__get__" = some (some (.builtin "getset_descriptor.__get__"))) (htk:PySem.W.takesIn K (.builtin "object.__class__")=some true)
    (hm:PySem.W.mroIn K C (.type "object")=some true):TyOf K H (.ref a) (.ref C)
theorem Znu {x:V} {u t:Value} (I:Inv X pins σ H s) (rx:RelV x u) (ty:TyOf X.K H x t) (e:PySem.W.kitOne X.K t c=some b) (h:∀ tk,Q (.bool b) { s with toks:=tk }) :
 wpAny (model X.prog X.w) A (call (.builtin "isinstance") [u,c]) Q E s:=by
 cases ty with
 | non=>cases (show u=Value.none from rx);exact n46_ PySem.W.kitx_none I.kIn True.intro e (fun z=>nomatch z) h
 | bl y=>cases (show u=Value.bool y from rx);exact n46_ PySem.W.kitx_bool I.kIn True.intro e (fun z=>nomatch z) h
 | int i=>obtain ⟨t,q⟩:=(show ∃ t,u=Value.int i t from rx);cases q;exact n46_ PySem.W.kitx_int I.kIn True.intro e (fun z=>nomatch z) h
 | str y=>obtain ⟨t,q⟩:=(show ∃ t,u=Value.str y t from rx);cases q;exact n46_ PySem.W.kitx_str I.kIn True.intro e (fun z=>nomatch z) h
 | flt y=>obtain ⟨t,q⟩:=(show ∃ t,u=Value.float y t from rx);cases q;exact n46_ PySem.W.kitx_float I.kIn True.intro e (fun z=>nomatch z) h
 | @lst a xs ea =>
   cases (show u=Value.ref a from rx)
   obtain ⟨_,_,n,_,h1⟩:=(show ObjOk X.prog X.w H s.heap a (.lst xs) from I.hok a _ ea);exact n46_ PySem.W.kitx_list I.kIn ⟨_,h1,rfl⟩ e (fun z=>nomatch z) h
 | @frz a ob xs ea =>
   cases (show u=Value.ref a from rx)
   obtain ⟨_,_,_,n,_,h1⟩:=(show ObjOk X.prog X.w H s.heap a (.frz ob (.lst xs)) from I.hok a _ ea);exact n46_ PySem.W.kitx_list I.kIn ⟨_,h1,rfl⟩ e (fun z=>nomatch z) h
 | @tup a xs ea =>
   cases (show u=Value.ref a from rx)
   obtain ⟨_,_,_,p⟩:=(show ObjOk X.prog X.w H s.heap a (.tup xs) from I.hok a _ ea);obtain ⟨o,h1,h2,_⟩:=p;exact n46_ PySem.W.kitx_tuple I.kIn ⟨o,h1,h2⟩ e (fun z=>nomatch z) h
 | @dK a kvs ea =>
   cases (show u=Value.ref a from rx)
   obtain ⟨_,_,vs,_,p⟩:=(show ObjOk X.prog X.w H s.heap a (.dK kvs) from I.hok a _ ea);obtain ⟨o,es,ep,h1,h2,_⟩:=p;exact n46_ PySem.W.kitx_dict I.kIn ⟨o,h1,h2.1⟩ e (fun z=>nomatch z) h
 | @dT a kvs ea =>
   cases (show u=Value.ref a from rx)
   obtain ⟨_,_,xs,_,o,es,ep,h1,h2,_⟩:=(show ObjOk X.prog X.w H s.heap a (.dT kvs) from I.hok a _ ea);exact n46_ PySem.W.kitx_dict I.kIn ⟨o,h1,h2.1⟩ e (fun z=>nomatch z) h
 | @ins a C dx fs ea cl ha hn htk hm =>
   cases (show u=Value.ref a from rx)
   obtain ⟨mA,O,_⟩:=Zrc I.hok ea;obtain ⟨od,J,_⟩:=O.look;exact n46_ (PySem.W.kitx_own (cl.get _) cl.hd ha hn htk hm) I.kIn J e (fun z=>nomatch z) h
end
structure Room (k:Nat) (A:Around):Prop where
 hd:A.handled=none
 dp:A.depth+3*k+5<recursionLimit
 un:A.units+16*k+200<cLine
 gd:A.guards=some []
theorem Room.mono {j k:Nat} {A:Around} (r:Room k A) (h:j≤k):Room j A:=⟨r.hd,by have:=r.dp;omega,by have:=r.un;omega,r.gd⟩
theorem Room.deeper {k:Nat} {A:Around} (r:Room (k+1) A) (env:Env):Room k (A.deeper env) :=
 ⟨r.hd,by have:=r.dp;show A.depth+1+3*k+5<_;omega,by have:=r.un;show A.units+3+16*k+200<_;omega,r.gd⟩
theorem Room.depth {k:Nat} {A:Around} (r:Room k A):A.depth<recursionLimit:=by have:=r.dp;omega
theorem Room.units {k:Nat} {A:Around} (r:Room k A):A.units+64<cLine:=by have:=r.un;omega
def tNil:TA:=fun _ H Q=>Q [] H
def Zum (ta:TE) (tr:TA):TA:=fun σ H Q=>ta σ H fun x H1=>tr σ H1 fun xs H2=>Q (x :: xs) H2
section
variable {X:Cx} {e:Expr} {es:List Expr} {te:TE} {t:TA} {pos:Pos}
theorem Zb:PA X [] tNil:=fun _ _ _ _ H Q I h=>Calls.spliced_nil ⟨[],H,I,.nil,h⟩
theorem Za (ha:PE X e te) (hr:PA X es t) (hs:starEach (e :: es) X.env=(false,eval e X.env) :: starEach es X.env:=by rfl):PA X (e :: es) (Zum te t):=by
 intro pos pins s σ H Q I h;rw [hs];show wpAny _ _ (spliced ((false,eval e X.env) :: backTo pos (starEach es X.env))) _ _ s
 refine Calls.spliced_cons (thn (ha pins s σ H _ I h) fun u s1 ⟨x,H1,I1,r1,q1⟩=>?_);exact thn (hr pos pins s1 σ H1 _ I1 q1) fun us s2 ⟨xs,H2,I2,r2,q2⟩=>⟨x :: xs,H2,I2,.cons r1 r2,q2⟩
def tTup (t:TA):TE:=fun σ H Q=>t σ H fun xs H1=>xs.length≤sizeLine∧∀ p,H1 p=none→Q (.ref p) (upd H1 p (.tup xs))
def tLst (t:TA):TE:=fun σ H Q=>t σ H fun xs H1=>xs.length≤sizeLine∧∀ p,H1 p=none→Q (.ref p) (upd H1 p (.lst xs))
theorem Zu {x1} (h:PA X es t):PE X (.Tuple es x1 pos) (tTup t):=by
 intro pins s σ H Q I hq;refine wpAny_Tuple_spliced (thn (h pos pins s σ H _ I hq) fun us s1 ⟨xs,H1,I1,r,z,q⟩=>⟨by rw [← r.length];exact z,?_⟩);have hf:H1 s1.z=none:=I1.hok.fresh (n6_ _);refine ⟨.ref s1.z,upd H1 s1.z (.tup xs),I1.laid (t':=s1.toks) (fun b u e=>n2_ _ e) (n6_ _) ?_,rfl,q _ hf⟩;exact ⟨z,us,r,⟨_,n10_ _ rfl,rfl,_,rfl⟩⟩
theorem Yk (h:PA X es t):PE X (.List es pos) (tLst t):=by
 intro pins s σ H Q I hq;refine wpAny_List_spliced (thn (h pos pins s σ H _ I hq) fun us s1 ⟨xs,H1,I1,r,z,q⟩=>⟨by rw [← r.length];exact z,?_⟩);have hf:H1 s1.z=none:=I1.hok.fresh (n6_ _);refine ⟨.ref s1.z,upd H1 s1.z (.lst xs),I1.laid (t':=s1.toks) (fun b u e=>n2_ _ e) (n6_ _) ?_,rfl,q _ hf⟩;exact ⟨z,us,0,r,n10_ _ rfl⟩
end
abbrev Sp:=List V→Hp→VK→XK→Prop
abbrev CXT:=List Env→Hp→Shared→XK→Value→Shared→Prop
structure Env0 (P:Program) (w:World) (K:PySem.W.Frag) (mg:Str→Option Value) (base:Heap) (A:Around) (outer:List Env) (s:Shared) (H:Hp):Prop where
 frames:A.frames=some outer
 mod:Mod K mg base
 bs:∀ b o,base.get? b=some o→s.heap.get? b=some o∧H b=none
 bsz:base.objs.size≤s.z
 funs:s.heap.FunFrames base outer
 frf:∀ b∈frs outer,H b=none
 hok:HOk P w H s.heap
 bare:AllBare s.gens
def CE (outer:List Env) (P:Program) (w:World) (H:Hp) (s:Shared) (Q:VK) (u:Value) (s':Shared):Prop :=
 ∃ v H',s'.os=s.os∧AllBare s'.gens∧Un (frs outer) [] H H' s.heap s'.heap∧HOk P w H' s'.heap∧RelV v u∧Q v H'
def CR (CX:CXT) (outer:List Env) (P:Program) (w:World) (H:Hp) (s:Shared) (Q:VK) (E:XK) (r:Result) (s':Shared):Prop :=
 match r with
 | .ok (.ret u)=>CE outer P w H s Q u s'
 | .ok _=>False
 | .error e=>CX outer H s E e s'
structure FnOk (P:Program) (w:World) (K:PySem.W.Frag) (mg:Str→Option Value) (base:Heap) (CX:CXT) (k:Nat) (f:Addr) (fd:FuncData) (ps:List Str) (sp:Sp):Prop where
 len:∀ vs H Q E,sp vs H Q E→vs.length=ps.length
 run:∀ (A:Around) (outer:List Env) (s:Shared) (H:Hp) (args:Args) (us:List Value) (vs:List V) (Q:VK) (E:XK),Room k A→Env0 P w K mg base A outer s H→BindsTo s fd args (ps.zip us)→Vals vs us→sp vs H Q E →
  codeAny (model P w) A (.call (.ref f) args) (CR CX outer P w H s Q E) s
section
variable {X:Cx} {pins:List (Addr×Obj)} {σ:St} {H:Hp} {s s':Shared}
theorem Inv.env0 (I:Inv X pins σ H s):Env0 X.prog X.w X.K X.mg X.base X.A X.stack s H :=
 ⟨I.ok.frames,I.ok.mod,I.bs,n32_ I.ok.bsz I.sz,I.stack,I.stkFree,I.hok,I.bare⟩
theorem Inv.after {Q:VK} {u:Value} (I:Inv X pins σ H s) (h:CE X.stack X.prog X.w H s Q u s'):EP X pins σ Q u s':=by
 obtain ⟨v,H',os,bare,un,hok,r,q⟩:=h;obtain ⟨hh,g,d,t,os'⟩:=s';obtain rfl:os'=s.os:=os;exact ⟨v,H',I.call (h':=hh) (g':=g) (d':=d) (t':=t) (ch:=[]) un hok bare (fun b z=>absurd z (by simp)),r,q⟩
end
def Zon (sp:Sp) (dvs:List V) (E:XK) (t:TA):TE:=fun σ H Q=>t σ H fun vs H1=>sp (vs++dvs) H1 Q E
def Binds (K:PySem.W.Frag) (fd:FuncData) (ps:List Str) (ds:List Value):Prop :=
 ∀ (s:Shared) (us:List Value),K.In s.heap→(us++ds).length=ps.length→BindsTo s fd ⟨us,[]⟩ (ps.zip (us++ds))
theorem Binds.all {K:PySem.W.Frag} {fd:FuncData} {ps:List Str} (h:∀ us:List Value,us.length=ps.length→bindArgs fd ⟨us,[]⟩=pure (ps.zip us)):Binds K fd ps []:=fun s us _ hl=>by
 rw [List.append_nil] at hl ⊢;exact .of_eq (h us hl)
def Zcv (CX:CXT) (X:Cx) (E:XK):Prop:=∀ (pins:List (Addr×Obj)) (σ:St) (H:Hp) (s:Shared) (e:Value) (s':Shared),Inv X pins σ H s→CX X.stack H s E e s'→X.xe e s'
section
variable {X:Cx} {CX:CXT} {k:Nat} {f C:Addr} {fd:FuncData} {ps:List Str} {sp:Sp} {dvs:List V} {ds:List Value} {E:XK} {x m:Str} {p pos apos:Pos} {e o:Expr} {es:List Expr} {ta:TE} {t:TA}
theorem Zp5 {pins:List (Addr×Obj)} {σ:St} {H:Hp} {s:Shared} {Q:VK} {us:List Value} {vs:List V} (F:FnOk X.prog X.w X.K X.mg X.base CX k f fd ps sp) (hr:Room k X.A) (hb:Binds X.K fd ps ds) (hd:Vals dvs ds) (hx:Zcv CX X E)
 (I:Inv X pins σ H s) (r:Vals vs us) (h:sp (vs++dvs) H Q E):wpAny (model X.prog X.w) X.A (call (.ref f) us) (EP X pins σ Q) X.xe s:=by
 have r2:Vals (vs++dvs) (us++ds):=r.append hd;have hl:(us++ds).length=ps.length:=by rw [← r2.length];exact F.len _ _ _ _ h
 refine wpAny_call (codeAny_mono (F.run X.A X.stack s H ⟨us,[]⟩ (us++ds) (vs++dvs) Q E hr I.env0 (hb s us I.kIn hl) r2 h) fun r s' hq=>?_);cases r with
 | error e=>exact hx pins σ H s e s' I hq
 | ok fl =>
   cases fl with
   | ret u=>exact I.after hq
   | next=>exact False.elim hq
   | brk=>exact False.elim hq
   | cont=>exact False.elim hq
theorem Zmk (F:FnOk X.prog X.w X.K X.mg X.base CX k f fd ps sp) (hr:Room k X.A) (hg:Gl X x) (hm:X.mg x=some (.ref f)) (hk:PySem.W.keepIn X.K (.ref f)=true) (hb:Binds X.K fd ps ds) (hd:Vals dvs ds) (hx:Zcv CX X E)
 (ha:PA X (e :: es) t) (hdb:(x == ("__debug__" : Str))=false:=by decide) (he:starEach (e :: es) X.env=(false,eval e X.env) :: starEach es X.env:=by rfl) (hpl:(backTo pos (starEach es X.env)).any (·.1)=false:=by rfl) :
 PE X (.Call (.Name x p) (e :: es) [] pos) (Zon sp dvs E t):=by
 intro pins s σ H Q I h;refine wpAny_Call_Name_kw (Zcl I hg hm ?_ hdb);refine PySem.W.callWith_K (h₀:=X.base) I.ok.mod.kin hk (thn (ha pos pins s σ H _ I h) fun us s1 ⟨vs,H1,I1,r,q⟩=>⟨I1.kIn,?_⟩) he hpl;exact Zp5 F hr hb hd hx I1 r q
theorem Zpb (F:FnOk X.prog X.w X.K X.mg X.base CX k f fd ps sp) (hr:Room k X.A) (hg:Gl X x) (hm:X.mg x=some (.ref f)) (hk:PySem.W.keepIn X.K (.ref f)=true) (hb:Binds X.K fd ps ds) (hd:Vals dvs ds) (hx:Zcv CX X E)
 (hdb:(x == ("__debug__" : Str))=false:=by decide):PE X (.Call (.Name x p) [] [] pos) (Zon sp dvs E tNil):=by
 intro pins s σ H Q I h;refine wpAny_Call_Name_kw (Zcl I hg hm ?_ hdb);exact PySem.W.callWith_K0 I.kIn hk (Zp5 (us:=[]) F hr hb hd hx I .nil h)
end
section
variable {X:Cx} {CX:CXT} {k:Nat} {f C:Addr} {fd:FuncData} {ps ks:List Str} {sp:Sp} {E:XK} {x m:Str} {p pos apos kpos:Pos} {e o:Expr} {es:List Expr} {kws:List Keyword} {te ta:TE} {t tk:TA} {nm:Option Str}
variable {g:List Value→List Value→List Value} {gV:List V→List V→List V}
end
structure FnScope (N P:List Str) (sc:Scope):Prop where
 kind:sc.kind=.function
 co:sc.isCoroutine=false
 gen:sc.isGenerator=false
 nd:N.Nodup
 pre:N.take P.length=P
 par:∀ x∈P,sc.names.lookup x=some .local∨sc.names.lookup x=some .cell
 nofree:∀ y∈sc.names,y.2≠.free
theorem Zhq {kindOf:Str→Option NameKind} {x:Str}:∀ {binds:List (Str×Value)} {m:Str→Option Value},(∀ v,(x,v)∉binds)→bindL kindOf binds m x=m x
 | [],_,_=>rfl
 | (n,v) :: r,m,h=>by
   unfold bindL;rw [Zhq fun w hw=>h w (n18_ _ hw)];split
   · have:x≠n:=by rintro rfl;exact h v n34_
     simp [this]
   · rfl
theorem Zh9 {kindOf:Str→Option NameKind} {x:Str}:∀ {binds:List (Str×Value)} {m:Str→Option Value},(∀ v,(x,v)∉binds)→bindC kindOf binds m x=m x
 | [],_,_=>rfl
 | (n,v) :: r,m,h=>by
   unfold bindC;rw [Zh9 fun w hw=>h w (n18_ _ hw)];split
   · rfl
   · have:x≠n:=by rintro rfl;exact h v n34_
     simp [this]
theorem Zhl {kindOf:Str→Option NameKind} {x:Str} {v:Value}:∀ {P:List Str} {vs:List Value} {i:Nat} {m:Str→Option Value},P.Nodup→P[i]? = some x→vs[i]? = some v→kindOf x=some .local →
 bindL kindOf (P.zip vs) m x=some v
 | [],_,_,_,_,h,_,_=>by simp at h
 | _ :: _,[],_,_,_,_,h,_=>by simp at h
 | p :: P,w :: vs,0,m,nd,h1,h2,hk=>by
   simp at h1 h2;subst h1;subst h2;show bindL kindOf ((p,w) :: P.zip vs) m p=_
   unfold bindL;rw [Zhq fun v hv=>(List.nodup_cons.mp nd).1 (List.of_mem_zip hv).1,if_pos hk]
   simp
 | p :: P,w :: vs,i+1,m,nd,h1,h2,hk=>by
   show bindL kindOf ((p,w) :: P.zip vs) m x=_
   unfold bindL;exact Zhl (i:=i) (List.nodup_cons.mp nd).2 (by simpa using h1) (by simpa using h2) hk
theorem Zhi {kindOf:Str→Option NameKind} {x:Str} {v:Value}:∀ {P:List Str} {vs:List Value} {i:Nat} {m:Str→Option Value},P.Nodup→P[i]? = some x→vs[i]? = some v→kindOf x≠some .local →
 bindC kindOf (P.zip vs) m x=some v
 | [],_,_,_,_,h,_,_=>by simp at h
 | _ :: _,[],_,_,_,_,h,_=>by simp at h
 | p :: P,w :: vs,0,m,nd,h1,h2,hk=>by
   simp at h1 h2;subst h1;subst h2;show bindC kindOf ((p,w) :: P.zip vs) m p=_
   unfold bindC;rw [Zh9 fun v hv=>(List.nodup_cons.mp nd).1 (List.of_mem_zip hv).1,if_neg hk]
   simp
 | p :: P,w :: vs,i+1,m,nd,h1,h2,hk=>by
   show bindC kindOf ((p,w) :: P.zip vs) m x=_
   unfold bindC;exact Zhi (i:=i) (List.nodup_cons.mp nd).2 (by simpa using h1) (by simpa using h2) hk
def start (N:List Str) (vs:List V):St:=vs.map some++List.replicate (N.length-vs.length) none
def cxOf (CX:CXT) (P:Program) (w:World) (K:PySem.W.Frag) (mg:Str→Option Value) (base:Heap) (N:List Str) (qual:Str) (scope:Scope) (f:Addr) (cd:Value) (A:Around) (outer:List Env) (s:Shared) (H:Hp) (E:XK):Cx where
 prog:=P
 w:=w
 K:=K
 mg:=mg
 base:=base
 A:=A.deeper (envOfC qual scope s.z f cd)
 N:=N
 s₀:=s
 H₀:=H
 env:=envOfC qual scope s.z f cd
 outer:=outer
 stack:=envOfC qual scope s.z f cd :: outer
 ex:=[]
 calm:=true
 fn:=fun _=>true
 pn:=[]
 xe:=fun e s'=>wpAny (model P w) (A.deeper (envOfC qual scope s.z f cd)) (leaving (envOfC qual scope s.z f cd) e) (fun _ s''=>CX outer H s E e s'') (fun e' s''=>CX outer H s E e' s'') s'
theorem Z9 {sc:Scope} {n:Nat} {x:Str} (h:sc.names.lookup x=some .cell):∃ c,(cellsFrom n sc.names []).lookup x=some c:=by
 have q:=PySem.W.cellsFrom_some sc.names n [] (.inl h);exact Option.isSome_iff_exists.mp q
theorem Zig {CX:CXT} {P:Program} {w:World} {K:PySem.W.Frag} {mg:Str→Option Value} {base:Heap} {N ps:List Str} {qual:Str} {scope:Scope} {f:Addr} {cd:Value} {A:Around} {outer:List Env} {s s1:Shared} {H:Hp} {E:XK} {us:List Value} {vs:List V}
 (S:FnScope N ps scope) (hd:A.handled=none) (e0:Env0 P w K mg base A outer s H) (hl:vs.length=ps.length) (r:Vals vs us)
 (x:InCallC s s.z (bindL (envOfC qual scope s.z f cd).kindOf (ps.zip us) fun _=>none) (cellsFrom (s.z+1) scope.names []) (bindC (envOfC qual scope s.z f cd).kindOf (ps.zip us) fun _=>none) s1) :
 Inv (cxOf CX P w K mg base N qual scope f cd A outer s H E) [] (start N vs) H s1:=by
 have hpl:ps.length≤N.length:=by have:=congrArg List.length S.pre;rw [n61_] at this;omega
 obtain ⟨h1,tk,rfl,hk⟩:=x.done;have noA:∀ b:Addr,b∉(cxOf CX P w K mg base N qual scope f cd A outer s H E).ex:=fun b z=>absurd (show b∈([]:List Addr) from z) (by simp)
 refine ⟨⟨e0.mod,S.kind,rfl,rfl,n6_ _,fun y z c h1 h2=>?_,fun y hy=>?_,fun y c _ h=>?_,fun _=>hd,Around.frames_deeper e0.frames,.inr ⟨rfl,rfl⟩,fun b z=>absurd z (noA b),e0.bs,e0.bsz,fun b _ _=>noA b,fun b z=>absurd z (noA b),e0.funs,e0.frf⟩,
  rfl,e0.bare,Un.kept hk,⟨_,x.toInCall.ns,fun i y v h1 h2 h3=>?_⟩,fun y c h=>⟨_,x.cell y c h⟩,e0.hok.fresh (n6_ _),fun y c h=>?_,fun p hp=>absurd (show p∈([]:List (Addr×Obj)) from hp) (by simp),e0.hok.kept hk,?_⟩
 · exact name_of_addr x.apart (n28_ h1) (n28_ h2)
 · have hy:scope.names.lookup y=some .cell∨scope.names.lookup y=some .free:=hy
   rcases hy with hy|hy
   · exact Z9 hy
   · exact absurd rfl (S.nofree _ (n28_ hy))
 · exact Nat.le_of_lt (x.above y c (n28_ h))
 · have hi:i<vs.length:=by
    unfold start at h2
    by_cases hi:i<vs.length
    · exact hi
    · rw [n54_ (by simpa using hi)] at h2;rw [List.getElem?_replicate] at h2;split at h2<;>cases h2
   have ha:vs[i]? = some v:=by
    unfold start at h2;rw [n48_ (by simpa using hi),n11_] at h2;cases e:vs[i]? with
    | none=>rw [e] at h2;cases h2
    | some a=>rw [e] at h2;cases h2;rfl
   obtain ⟨u,hu,rv⟩:=r.get ha
   have hp:ps[i]? = some y:=by
    rw [← S.pre,List.getElem?_take_of_lt (by omega)];exact h1
   have ndP:ps.Nodup:=by rw [← S.pre];exact S.nd.sublist (List.take_sublist _ _)
   refine ⟨u,rv,?_⟩
   rcases S.par y (n12_ hp) with k|k
   · exact .inl ⟨k,Zhl ndP hp hu k⟩
   · obtain ⟨c,e⟩:=Z9 (n:=s.z+1) k;refine .inr ⟨.inl k,c,e,?_⟩;have q:=x.cell y c e;rw [Zhi ndP hp hu (by show scope.names.lookup y≠_;rw [k];decide)] at q;exact q
 · exact .inl (e0.hok.fresh (Nat.le_of_lt (x.above y c (n28_ h))))
 · unfold start;show _=N.length
   rw [n25_,n23_,List.length_replicate];omega
theorem Zrj {CX:CXT} {P:Program} {w:World} {K:PySem.W.Frag} {mg:Str→Option Value} {base:Heap} {k:Nat} {f:Addr} {name qual:Str} {params:Arguments} {body:List Stmt} {scope:Scope} {dV kV doc pm cdv ct oc:Value} {an od:Option Addr}
 {osl:Array (Option Value)} {N ps:List Str} {sp:Sp} (lk:K.lookup f=some ⟨oc,od,.func (PySem.W.fnOf name qual params body scope dV kV doc pm an cdv ct),osl⟩) (hcd:PySem.W.codeIn K cdv qual=true) (S:FnScope N ps scope)
 (len:∀ vs H Q E,sp vs H Q E→vs.length=ps.length)
 (hbody:∀ (A:Around) (outer:List Env) (s:Shared) (H:Hp) (vs:List V) (Q:VK) (E:XK),Room k (A.deeper (envOfC qual scope s.z f cdv))→sp vs H Q E →
   ∃ t,PSs (cxOf CX P w K mg base N qual scope f cdv A outer s H E) body t∧t { nx:=fun _ H'=>Q .non H',rt:=Q } (start N vs) H) :
 FnOk P w K mg base CX (k+1) f (PySem.W.fnOf name qual params body scope dV kV doc pm an cdv ct) ps sp:=by
 refine ⟨len,fun A outer s H args us vs Q E hr e0 hb r hsp=>?_⟩;have hl:=len _ _ _ _ hsp;have KX:K.In s.heap:=e0.mod.kin.keeps fun b o e=>(e0.bs b o e).1;have lim:s.heap.NoLimit:=e0.mod.nolimit.keeps fun b o e=>(e0.bs b o e).1
 have hkind:∀ y∈ps.zip us,scope.names.lookup y.1=some .local∨(scope.names.lookup y.1=some .cell∧((cellsFrom (s.z+1) scope.names []).lookup y.1).isSome=true):=fun ⟨n,v⟩ hy=>by
  rcases S.par n (List.of_mem_zip hy).1 with q|q
  · exact .inl q
  · exact .inr ⟨q,PySem.W.cellsFrom_some _ _ _ (.inl q)⟩
 refine codeAny_call_function hr.depth (KX _ _ lk) rfl S.co S.gen rfl (PySem.W.codeRec_of KX hcd) (hb _ _ _ _ ?_);refine wpAny_newFunctionEnv_cells S.kind hkind fun env he s1 x=>?_;subst he;refine ⟨lim.keeps x.toInCall.keep,codeAny_func ?_⟩;obtain ⟨t,ht,hq⟩:=hbody A outer s H vs Q E (hr.deeper _) hsp;have I:Inv (cxOf CX P w K mg base N qual scope f cdv A outer s H E) [] (start N vs) H s1:=Zig S hr.hd e0 hl r x;refine n36_ (ht [] s1 (start N vs) H _ I hq) (fun fl s' hs=>?_) fun e s' hs=>hs
 have fin:∀ {σ':St} {H':Hp} {v:V} {u:Value},Inv (cxOf CX P w K mg base N qual scope f cdv A outer s H E) [] σ' H' s'→RelV v u→Q v H'→CE outer P w H s Q u s' :=
  fun {σ' H' v u} J rv q=>⟨v,H',J.os,J.bare,J.base,J.hok,rv,q⟩
 cases fl with
 | ret u =>
   obtain ⟨v,σ',H',J,rv,q⟩:=hs;exact fin J rv q
 | next =>
   obtain ⟨σ',H',J,q⟩:=hs;exact fin (v:=V.non) (u:=Value.none) J rfl q
 | brk =>
   obtain ⟨_,_,_,q⟩:=hs;exact False.elim q
 | cont =>
   obtain ⟨_,_,_,q⟩:=hs;exact False.elim q
section
variable {X:Cx} {x:Str} {p pos:Pos} {e:Expr} {es:List Expr} {t:TA} {id T:String} {r:List V→Hp→VK→Prop}
def tCB (r:List V→Hp→VK→Prop) (t:TA):TE:=fun σ H Q=>t σ H fun vs H1=>r vs H1 Q
theorem Zh (hc:Xz X (.builtin id) r) (hg:Gl X x) (hm:X.mg x=none) (hv:bootBuiltins x=some (.builtin id)) (ha:PA X (e :: es) t) (hn:x ≠ "__name__" := by decide) (hdb:(x == ("__debug__" : Str))=false:=by decide)
 (he:starEach (e :: es) X.env=(false,eval e X.env) :: starEach es X.env:=by rfl) (hpl:(backTo pos (starEach es X.env)).any (·.1)=false:=by rfl):PE X (.Call (.Name x p) (e :: es) [] pos) (tCB r t):=by
 intro pins s σ H Q I h;refine wpAny_Call_Name_kw (Zb6 I hg hm hv ?_ hn hdb);exact PyProof.Rows.callWith_builtin1 (thn (ha pos pins s σ H _ I h) fun us s1 ⟨vs,H1,I1,r1,q1⟩=>hc pins s1 σ H1 vs us Q I1 r1 q1) he hpl
theorem Ye (hc:Xz X (.type T) r) (hg:Gl X x) (hm:X.mg x=none) (hv:bootBuiltins x=some (.type T)) (ha:PA X (e :: es) t) (hn:x ≠ "__name__" := by decide) (hdb:(x == ("__debug__" : Str))=false:=by decide)
 (he:starEach (e :: es) X.env=(false,eval e X.env) :: starEach es X.env:=by rfl) (hpl:(backTo pos (starEach es X.env)).any (·.1)=false:=by rfl):PE X (.Call (.Name x p) (e :: es) [] pos) (tCB r t):=by
 intro pins s σ H Q I h;refine wpAny_Call_Name_kw (Zb6 I hg hm hv ?_ hn hdb);exact n44_ (thn (ha pos pins s σ H _ I h) fun us s1 ⟨vs,H1,I1,r1,q1⟩=>hc pins s1 σ H1 vs us Q I1 r1 q1) he hpl
end
end L2
namespace HT
open PySem PyProof.Rows
def lexLt:List Int→List Int→Bool
 | [],[]=>false
 | [],_ :: _=>true
 | _ :: _,[]=>false
 | x :: xs,y :: ys=>if x=y then lexLt xs ys else decide (x<y)
theorem lexLt_cons (x y:Int) (xs ys:List Int):lexLt (x :: xs) (y :: ys)=if x=y then lexLt xs ys else decide (x<y):=rfl
theorem Zf6:lexLt [] []=false:=rfl
theorem Zek (y:Int) (ys:List Int):lexLt [] (y :: ys)=true:=rfl
theorem Zes (x:Int) (xs:List Int):lexLt (x :: xs) []=false:=rfl
theorem Zow (A:Around) (s:Shared) (a:Int) (t:Tok) (c:Int) (u:Tok):∃ e,SeqAt.EqAt A s (.int a t) (.int c u) e∧(e=true↔a=c) :=
 ⟨(a == c),SeqAt.EqAt.int_int a t c u,by simp⟩
theorem Zoa (A:Around) (s:Shared) (a:Int) (t:Tok) (c:Int) (u:Tok) (prog:Program) (w:World) (E:Value→Shared→Prop) (Q:Value→Shared→Prop) (h:Q (.bool (decide (a<c))) s) :
 wpAny (model prog w) A (richCompare .Lt (.int a t) (.int c u)) Q E s :=
 (PyProof.Rows.lt_int h:wpAny (model prog w) A (compareOp .Lt (.int a t) (.int c u)) Q E s)
section
open PySem.SeqAt
open PySem.AutoSeq1 (wpAny_loadPart')
open PySem.MeetsSeq PySem.MeetsSeq2 PySem.MeetsSeq3
theorem Zft (l b:Addr) (items items2:Array Value) (n n2:Nat) (dd dd2:Option Addr) (sl sl2:Array (Option Value)) (ns ms:List Int) (hi:IntsAre items.toList ns) (hj:IntsAre items2.toList ms) :
 Meets (Builtin.«tuple.__lt__» ⟨[.ref l,.ref b],[]⟩)
  (fun _ R s=>s.heap.get? l=some { cls:=.type "tuple",dict:=dd,data:=.seq items n,slots:=sl }∧s.heap.get? b=some { cls:=.type "tuple",dict:=dd2,data:=.seq items2 n2,slots:=sl2 } ∧
    R (.ok (.ret (.bool (lexLt ns ms)))) s) :=
 .of_wp fun prog w A R s h=>by
  obtain ⟨hp,g,d,tk,os⟩:=s;obtain ⟨hl,hb,h⟩:=h;have f2:=AutoSeq1.sub_tuple_tuple;have z1:items.size=ns.length:=by rw [← hi.length];simp
  have z2:items2.size=ms.length:=by rw [← hj.length];simp
  wp_walk using wpAny_loadPart' hl,wpAny_loadPart' hb,wpAny_forIn_list _ (fun rest b s'=>b.1=none∧s'=⟨hp,g,d,tk,os⟩∧∃ (vs ws:List Value) (ns' ms':List Int),rest=vs.zip ws ∧
   IntsAre vs ns'∧IntsAre ws ms'∧ns'.length+items2.size=ms'.length+items.size∧R (.ok (.ret (.bool (lexLt ns' ms')))) ⟨hp,g,d,tk,os⟩) _
  case turn =>
   rintro ⟨y,x⟩ rest b s' ⟨hb',rfl,vs,ws,ns',ms',hz,hvi,hwi,hlen,hR⟩
   cases hvi with
   | nil=>rw [List.zip_nil_left] at hz;cases hz
   | cons a t hvi' =>
     cases hwi with
     | nil=>rw [List.zip_nil_right] at hz;cases hz
     | cons c u hwi' =>
       rw [List.zip_cons_cons] at hz;injection hz with hyx hrest
       injection hyx with hy hx
       subst hy hx;rw [lexLt_cons] at hR;simp only [n16_] at hlen;obtain ⟨e,he,hiff⟩:=Zow A.in1 ⟨hp,g,d,tk,os⟩ a t c u;refine n0_ (he prog w _ _ ?_);cases e with
       | true =>
         rw [if_pos (hiff.mp rfl)] at hR
         wp_walk
         exact ⟨rfl,rfl,_,_,_,_,hrest,hvi',hwi',by omega,hR⟩
       | false =>
         rw [if_neg (fun q=>absurd (hiff.mpr q) n15_)] at hR;have hri:=Zoa A.in1 ⟨hp,g,d,tk,os⟩ a t c u prog w
         wp_walk using hri
         exact ⟨_,rfl,by simpa using hR⟩
  case fin =>
   rintro ⟨b1,b2⟩ s' ⟨hb',rfl,vs,ws,ns',ms',hz,hvi,hwi,hlen,hR⟩
   simp only at hb';subst hb'
   have hv:lexLt ns' ms'=decide (items.size<items2.size):=by
    cases hvi with
    | nil =>
      cases hwi with
      | nil =>
        simp only [n59_] at hlen;rw [Zf6];exact (n8_ (by omega)).symm
      | cons c u hw =>
        simp only [n59_,n16_] at hlen;rw [Zek];exact (n19_ (by omega)).symm
    | cons a t hv =>
      cases hwi with
      | nil =>
        simp only [n59_,n16_] at hlen;rw [Zes];exact (n8_ (by omega)).symm
      | cons c u hw =>
        rw [List.zip_cons_cons] at hz;cases hz
   rw [hv] at hR
   wp_walk
   exact ⟨_,rfl,by simpa [Builtin.Tuple.tupleCompareSizes] using hR⟩
  case h =>
   exact ⟨rfl,rfl,items.toList,items2.toList,ns,ms,rfl,hi,hj,by omega,h⟩
end
section
variable {prog:Program} {w:World} {A:Around} {E:Value→Shared→Prop} {s:Shared}
theorem lt_tupInts {l b:Addr} {items items2:Array Value} {ns ms:List Int} {Q:Value→Shared→Prop} (hl:IsTup s.heap l items) (hb:IsTup s.heap b items2) (hi:IntsAre items.toList ns) (hj:IntsAre items2.toList ms)
 (hu:A.units<cLine) (h:Q (.bool (lexLt ns ms)) s):wpAny (model prog w) A (compareOp .Lt (.ref l) (.ref b)) Q E s:=by
 obtain ⟨⟨cls,dd,data,sl⟩,ho,hc,n,hd⟩:=id hl;obtain ⟨⟨cls2,dd2,data2,sl2⟩,ho2,hc2,n2,hd2⟩:=id hb;simp only at hc hd hc2 hd2;subst hc hd hc2 hd2
 exact richCompare_meets_room (op:=.Lt) ⟨_,ho,rfl⟩ ⟨_,ho2,rfl⟩ PySem.F.slot_tuple_lt PySem.F.entry_tuple_lt (PySem.F.args_tuple_lt_2 _ _) (Zft l b items items2 n n2 dd dd2 sl sl2 ns ms hi hj)
  ⟨ho,ho2,show Value.bool (lexLt ns ms)≠Value.notImplemented∧Q (.bool (lexLt ns ms)) s from ⟨(fun x=>nomatch x),h⟩⟩ hu
theorem cat_tup {t b:Addr} {vs ws:List Value} {Q:Value→Shared→Prop} (ht:IsTup s.heap t vs.toArray) (hb:IsTup s.heap b ws.toArray) (hv:vs≠[])
 (h1:ws=[]→Q (.ref t) s) (h2:ws≠[]→Q (.ref s.z) { s with heap:=s.heap.push { cls:=.type "tuple",data:=.seq (vs++ws).toArray } })
 (hsz:vs.length+ws.length≤sizeLine):wpAny (model prog w) A (binaryOp .Add (.ref t) (.ref b)) Q E s:=by
 obtain ⟨⟨cls,dd,data,sl⟩,ho,hc,n,hd⟩:=id ht;obtain ⟨⟨cls2,dd2,data2,sl2⟩,ho2,hc2,n2,hd2⟩:=id hb;simp only at hc hd hc2 hd2;subst hc hd hc2 hd2;have e:vs.toArray++ws.toArray=(vs++ws).toArray:=by simp
 by_cases hw:ws=[]
 · exact concat_meets ⟨_,ho,rfl⟩ ⟨_,ho2,rfl⟩ noFill_tuple_add seq_tuple_add PySem.F.slot_tuple_add PySem.F.entry_tuple_add (PySem.F.args_tuple_add_2 _ _)
    (tuple_addW1 t b vs.toArray ws.toArray n n2 dd dd2 sl sl2 (by simpa using hv) (by simp [hw])) ⟨ho,ho2,h1 hw⟩
 · refine concat_meets ⟨_,ho,rfl⟩ ⟨_,ho2,rfl⟩ noFill_tuple_add seq_tuple_add PySem.F.slot_tuple_add PySem.F.entry_tuple_add (PySem.F.args_tuple_add_2 _ _)
    (tuple_addW2 t b vs.toArray ws.toArray n n2 dd dd2 sl sl2 (by simpa using hv) (by simpa using hw) (by rw [n5_,n5_];exact hsz)) ⟨ho,ho2,?_⟩
   rw [e];exact h2 hw
def sIx (n d:Nat):Option Int→Nat
 | none=>d
 | some v=>if v<0 then (v+(n:Int)).toNat else min v.toNat n
theorem sIx_none (n d:Nat):sIx n d none=d:=rfl
theorem sIx_nat (n d k:Nat):sIx n d (some (k:Int))=min k n:=by
 show (if (k:Int)<0 then ((k:Int)+(n:Int)).toNat else min (k:Int).toNat n)=min k n
 rw [if_neg (by omega),n62_]
theorem Ztk (n d:Nat) (hd:d≤n) (o:Option Int):sIx n d o≤n:=by
 cases o with
 | none=>exact hd
 | some v =>
   show (if v<0 then (v+(n:Int)).toNat else min v.toNat n)≤n
   by_cases hv:v<0
   · rw [if_pos hv];omega
   · rw [if_neg hv];exact Nat.min_le_right _ _
theorem Znz (v:Int) (n d:Nat):(if v<0 then max (v+(n:Int)) 0 else min v (n:Int))=((sIx n d (some v):Nat):Int):=by
 show (if v<0 then max (v+(n:Int)) 0 else min v (n:Int))=(((if v<0 then (v+(n:Int)).toNat else min v.toNat n):Nat):Int)
 by_cases hv:v<0
 · simp only [if_pos hv];omega
 · simp only [if_neg hv];omega
theorem Zk0 (lo hi:Option Int) (n:Nat):Builtin.Slice.sliceAdjust lo hi 1 (n:Int)=(((sIx n 0 lo:Nat):Int),((sIx n n hi:Nat):Int)):=by
 have h1:¬ ((1:Int)<0):=by omega
 unfold Builtin.Slice.sliceAdjust;simp only [h1,if_false];refine Prod.ext ?_ ?_
 · cases lo with
   | none=>rfl
   | some v=>exact Znz v n 0
 · cases hi with
   | none=>rfl
   | some v=>exact Znz v n n
theorem Zk9 (i j:Nat):Builtin.Slice.slicePlaces (i:Int) (j:Int) 1=j-i:=by
 unfold Builtin.Slice.slicePlaces;have h1:(1:Int)>0:=by omega
 simp only [h1,if_true,Int.ediv_one];split<;>omega
theorem Ze0 {v:Value} {o:Option Int} {Q:Option Int→Shared→Prop} (p:IsPart v o) (h:Q o s):wpAny (model prog w) A (Builtin.Slice.slicePartIndex v) Q E s:=by
 cases p with
 | none=>exact slicePart_none h
 | int i t=>exact slicePart_int h
theorem Zav {sl:Addr} {vl vu:Value} {lo hi:Option Int} {n:Nat} {Q:Int×Int×Nat→Shared→Prop} (hs:s.heap.IsSliceOf sl vl vu .none) (pl:IsPart vl lo) (pu:IsPart vu hi)
 (h:Q (((sIx n 0 lo:Nat):Int),1,sIx n n hi-sIx n 0 lo) s):wpAny (model prog w) A (Builtin.Slice.sliceApplied (.ref sl) (pure (n:Int))) Q E s:=by
 obtain ⟨os,hos,hcs,hds⟩:=id hs;unfold Builtin.Slice.sliceApplied Builtin.Slice.sliceFields;refine n0_ (n0_ (wpAny_field hos hds (x:=vl) rfl (n0_ (wpAny_field hos hds (x:=vu) rfl (n0_ (wpAny_field hos hds (x:=.none) rfl (n4_ ?_)))))));refine n0_ (slicePart_none ?_);show wpAny _ _ (if ((1:Int) == 0)=true then _ else _) _ _ s
 rw [if_neg (by decide)];refine n0_ (Ze0 pl (n0_ (Ze0 pu (n0_ (n4_ ?_)))));show wpAny _ _ (match Builtin.Slice.sliceAdjust lo hi 1 (n:Int) with|(lo,hi)=>pure (lo,(1:Int),Builtin.Slice.slicePlaces lo hi 1)) _ _ s
 rw [Zk0 lo hi n];show wpAny _ _ (pure (((sIx n 0 lo:Nat):Int),(1:Int),Builtin.Slice.slicePlaces ((sIx n 0 lo:Nat):Int) ((sIx n n hi:Nat):Int) 1)) _ _ s
 rw [Zk9];exact n4_ h
theorem Zo7 (xs:Array Value) (i k:Nat):((List.range k).filterMap fun (m:Nat)=>xs[((i:Int)+(m:Int)*1).toNat]?).toArray=((xs.toList.drop i).take k).toArray:=by
 have e:(fun (m:Nat)=>xs[((i:Int)+(m:Int)*1).toNat]?)=fun m=>xs[i+m]?:=by
  funext m
  have:((i:Int)+(m:Int)*1).toNat=i+m:=by omega
  rw [this]
 rw [e]
 have:=pick_run xs i k
 rw [List.filterMap_map] at this;have e2:((fun x=>xs[x]?) ∘ fun x=>i+x)=fun m=>xs[i+m]?:=rfl;rw [e2] at this;rw [this]
theorem getItem_tuple_cut {t sl:Addr} {items:Array Value} {vl vu:Value} {lo hi:Option Int} {Q:Value→Shared→Prop} (ht:IsTup s.heap t items) (hs:s.heap.IsSliceOf sl vl vu .none) (pl:IsPart vl lo) (pu:IsPart vu hi)
 (hw:¬ (sIx items.size 0 lo=0∧sIx items.size items.size hi=items.size))
 (h:Q (.ref s.z) { s with heap:=s.heap.push { cls:=.type "tuple",data:=.seq ((items.toList.drop (sIx items.size 0 lo)).take (sIx items.size items.size hi-sIx items.size 0 lo)).toArray } })
 (hsz:items.size≤sizeLine):wpAny (model prog w) A (getItem (.ref t) (.ref sl)) Q E s:=by
 have htake:sizeOk (.seq ((items.toList.drop (sIx items.size 0 lo)).take (sIx items.size items.size hi-sIx items.size 0 lo)).toArray):=by
  show ((items.toList.drop (sIx items.size 0 lo)).take (sIx items.size items.size hi-sIx items.size 0 lo)).toArray.size≤sizeLine
  rw [n5_,n61_,List.length_drop,Array.length_toList];omega
 have hj:sIx items.size items.size hi≤items.size:=Ztk _ _ (n6_ _) hi;obtain ⟨os,hos,hcs,hds⟩:=id hs;have hTs:s.TypeIs (.ref sl) "slice" := ⟨os,hos,hcs⟩;unfold getItem
 try with_reducible refine n37_ ?_
 first|refine n0_ (n4_ ?_)|skip
 refine n0_ (wpAny_sequenceKey ht.typeIs (by decide) ?_)
 refine n0_ (wpAny_callSpecial?_slot (name:=Str.ofString "__getitem__") ht.typeIs PyProof.Rows.slot_tuple_getitem
  (wpAny_call_entry PyProof.Rows.slot_tuple_getitem ht.typeIs entry_tuple_getitem ?_ (args_tuple_getitem _ _)))
 show wpAny _ _ (Builtin.Tuple.tupleItemsOf (.ref t) >>= _) _ _ s
 refine n0_ (tupleItemsOf_ ht ?_);refine n0_ (wpAny_typeOf hTs ?_);rw [if_pos (by decide)];refine n0_ (Zav hs pl pu ?_)
 have hno:¬ ((((sIx items.size 0 lo:Nat):Int) == 0&&(1:Int) == 1&&(sIx items.size items.size hi-sIx items.size 0 lo) == items.size)=true):=by
  intro q;rw [n27_,n27_] at q;have q1:((sIx items.size 0 lo:Nat):Int)=0:=eq_of_beq q.1.1;have q2:sIx items.size items.size hi-sIx items.size 0 lo=items.size:=eq_of_beq q.2;exact hw ⟨by omega,by omega⟩
 show wpAny _ _ (if (((sIx items.size 0 lo:Nat):Int) == 0&&(1:Int) == 1&&(sIx items.size items.size hi-sIx items.size 0 lo) == items.size)=true then _ else _) _ _ s
 rw [if_neg hno,Zo7]
 first
  | exact n0_ (m:=Builtin.Tuple.tupleExact _) (wpAny_newObj_type (n4_ ⟨_,rfl,n4_ h⟩) htake)
  | exact n0_ (m:=Builtin.Tuple.tupleExact _) (wpAny_newObj_type (n0_ (n4_ (n4_ ⟨_,rfl,n4_ h⟩))) htake)
  | exact n0_ (n0_ (m:=Builtin.Tuple.tupleExact _) (wpAny_newObj_type (n4_ (n4_ ⟨_,rfl,n4_ h⟩)) htake))
  | exact n0_ (n0_ (m:=Builtin.Tuple.tupleExact _) (wpAny_newObj_type (n4_ ⟨_,rfl,n4_ h⟩) htake))
end
end HT
namespace L2
open PySem PySem.Spec PyProof.Rows
abbrev TO:=St→Hp→(Option Int→Hp→Prop)→Prop
def PO (X:Cx) (e:Option Expr) (t:TO):Prop :=
 ∀ (pins:List (Addr×Obj)) (s:Shared) (σ:St) (H:Hp) (Q:Option Int→Hp→Prop),Inv X pins σ H s→t σ H Q →
   wpAny (model X.prog X.w) X.A (evalPart e X.env) (fun u s'=>∃ o H',Inv X pins σ H' s'∧IsPart u o∧Q o H') X.xe s
def Zrr:TO:=fun _ H Q=>Q none H
def Ztv (t:TE):TO:=fun σ H Q=>t σ H fun x H1=>∃ i,x=.int i∧Q (some i) H1
theorem Zbd {ns:List Int}:∀ {us:List Value},Vals (ns.map V.int) us→IntsAre us ns:=by
 induction ns with
 | nil=>intro us r;rw [List.map_nil] at r;cases r;exact .nil
 | cons n ns ih =>
   intro us r;rw [n58_] at r;cases r with
   | cons r1 r2 =>
     obtain ⟨t,e⟩:=r1;subst e;exact .cons n t (ih r2)
section
variable {X:Cx} {e:Expr} {te:TE} {lo hi:Option Expr} {tl th:TO} {pos p2:Pos}
theorem Xv:PO X none Zrr:=by
 intro pins s σ H Q I h;rw [evalPart_none];exact n4_ ⟨none,H,I,.none,h⟩
theorem Xs (h:PE X e te):PO X (some e) (Ztv te):=by
 intro pins s σ H Q I hw;rw [evalPart_some];refine thn (h pins s σ H _ I hw) fun u s1 ⟨x,H1,I1,r1,q1⟩=>?_;obtain ⟨i,rfl,q⟩:=q1;obtain ⟨t,rfl⟩:=r1;exact ⟨some i,H1,I1,.int i t,q⟩
def SlR (X:Cx) (r:V→Option Int→Option Int→Hp→VK→Prop):Prop :=
 ∀ (pins:List (Addr×Obj)) (s:Shared) (σ:St) (H:Hp) (x:V) (v vl vu:Value) (lo hi:Option Int) (sl:Addr) (Q:VK),Inv X pins σ H s→RelV x v→s.heap.IsSliceOf sl vl vu .none→IsPart vl lo→IsPart vu hi→r x lo hi H Q →
   ∃ T id,typeLookup (.type T) "__getitem__" = pure (some (.builtin id))∧s.TypeIs v T∧wpAny (model X.prog X.w) X.A (getItem v (.ref sl)) (EP X pins σ Q) X.xe s
def tSl (r:V→Option Int→Option Int→Hp→VK→Prop) (te:TE) (tl th:TO):TE:=fun σ H Q=>te σ H fun x H1=>tl σ H1 fun l H2=>th σ H2 fun u H3=>r x l u H3 Q
theorem Xd {r:V→Option Int→Option Int→Hp→VK→Prop} (hr:SlR X r) (he:PE X e te) (hl:PO X lo tl) (hu:PO X hi th):PE X (.Subscript e (.Slice lo hi none p2) pos) (tSl r te tl th):=by
 intro pins s σ H Q I h;refine Subscript_ (thn (he pins s σ H _ I h) fun v s1 ⟨x,H1,I1,r1,q1⟩=>?_);refine wpAny_Slice (thn (hl pins s1 σ H1 _ I1 q1) fun vl s2 ⟨l,H2,I2,pl,q2⟩=>thn (hu pins s2 σ H2 _ I2 q2) fun vu s3 ⟨u,H3,I3,pu,q3⟩=>?_);rw [evalPart_none];refine n4_ ?_;have I4:Inv X pins σ H3 { s3 with heap:=s3.heap.push { cls:=.type "slice",data:=.fields #[vl,vu,.none] } }:=I3.kept (t':=s3.toks) fun b ob q=>n2_ _ q;obtain ⟨T,id,hT,ht,hg⟩:=hr pins { s3 with heap:=s3.heap.push { cls:=.type "slice",data:=.fields #[vl,vu,.none] } } σ H3 x v vl vu l u s3.z Q I4 r1 (Heap.IsSliceOf.new ..) pl pu q3;show wpAny (model X.prog X.w) X.A (subscriptTail e (.Slice lo hi none p2) v (.ref s3.z)) (EP X pins σ Q) X.xe { s3 with heap:=s3.heap.push { cls:=.type "slice",data:=.fields #[vl,vu,.none] } }
 exact tail_any (ops:=[.ref s3.z,v]) ht hT hg (by with_unfolding_all rfl)
def cutV (xs:List V) (lo hi:Option Int):List V:=(xs.drop (HT.sIx xs.length 0 lo)).take (HT.sIx xs.length xs.length hi-HT.sIx xs.length 0 lo)
theorem Xr (xs:List V) (lo hi:Option Int):(cutV xs lo hi).length≤xs.length:=by
 unfold cutV;rw [n61_,List.length_drop];omega
def rSlT (K:PySem.W.Frag):V→Option Int→Option Int→Hp→VK→Prop:=fun x lo hi H Q=>∃ a xs,x=.ref a∧SqT K H a xs ∧
 ¬ (HT.sIx xs.length 0 lo=0∧HT.sIx xs.length xs.length hi=xs.length)∧∀ p,H p=none→Q (.ref p) (upd H p (.tup (cutV xs lo hi)))
theorem Zs1:SlR X (rSlT X.K):=by
 intro pins s σ H x v vl vu lo hi sl Q I rx hs pl pu h;obtain ⟨a,xs,rfl,hx,hw,q⟩:=h;cases rx
 obtain ⟨its,r,ht,hz⟩:=I.tuple hx;have hlen:its.toArray.size=xs.length:=by rw [n5_];exact r.length.symm
 refine ⟨"tuple",_,PyProof.Rows.slot_tuple_getitem.lookup,ht.typeIs,?_⟩;refine HT.getItem_tuple_cut ht hs pl pu (by rw [hlen];exact hw) ?_ (by rw [hlen];exact hz);rw [hlen];refine ⟨.ref s.z,_,I.laid (t':=s.toks) (o:=.tup (cutV xs lo hi)) (fun b ob q=>n2_ _ q) (n6_ _) ?_,rfl,q _ (I.hok.fresh (n6_ _))⟩;exact ⟨n32_ (Xr xs lo hi) hz,_,(r.drop (HT.sIx xs.length 0 lo)).take (HT.sIx xs.length xs.length hi-HT.sIx xs.length 0 lo),IsTup.new _ _⟩
def rLtT (K:PySem.W.Frag):R2:=fun x y H Q=>∃ a b ns ms,x=.ref a∧y=.ref b∧SqT K H a (ns.map V.int)∧SqT K H b (ms.map V.int)∧Q (.bl (HT.lexLt ns ms)) H
theorem Zp6 (hu:X.A.units<cLine):OpR X (compareOp .Lt) (rLtT X.K):=by
 intro pins s σ H x y v u Q I rx ry h;obtain ⟨a,b,ns,ms,rfl,rfl,ha,hb,q⟩:=h;cases rx
 cases ry
 obtain ⟨its,r1,p1,_⟩:=I.tuple ha;obtain ⟨its2,r2,p2,_⟩:=I.tuple hb;have i1:IntsAre its.toArray.toList ns:=Zbd r1;have i2:IntsAre its2.toArray.toList ms:=Zbd r2;exact HT.lt_tupInts p1 p2 i1 i2 hu ⟨.bl (HT.lexLt ns ms),H,I,rfl,q⟩
def Zuj (K:PySem.W.Frag):R2:=fun x y H Q=>∃ a b xs ys,x=.ref a∧y=.ref b∧SqT K H a xs∧SqT K H b ys∧xs≠[]∧xs.length+ys.length≤sizeLine ∧
 (ys=[]→Q (.ref a) H)∧(ys≠[]→∀ p,H p=none→Q (.ref p) (upd H p (.tup (xs++ys))))
theorem Vals.nil_iff {xs:List V} {us:List Value} (r:Vals xs us):us=[]↔xs=[]:=by
 cases r with
 | nil=>simp
 | cons _ _=>simp
theorem Zq2:OpR X (binaryOp .Add) (Zuj X.K):=by
 intro pins s σ H x y v u Q I rx ry h;obtain ⟨a,b,xs,ys,rfl,rfl,ha,hb,hx,hz,q1,q2⟩:=h;cases rx
 cases ry
 obtain ⟨its,r1,p1,_⟩:=I.tuple ha;obtain ⟨its2,r2,p2,_⟩:=I.tuple hb;refine HT.cat_tup p1 p2 (fun z=>hx (r1.nil_iff.mp z)) (fun z=>⟨.ref a,H,I,rfl,q1 (r2.nil_iff.mp z)⟩) (fun z=>?_) (by rw [← r1.length,← r2.length];exact hz);refine ⟨.ref s.z,_,I.laid (t':=s.toks) (o:=.tup (xs++ys)) (fun b ob q=>n2_ _ q) (n6_ _) ?_,rfl,q2 (fun w=>z (r2.nil_iff.mpr w)) _ (I.hok.fresh (n6_ _))⟩;exact ⟨by rw [n25_];exact hz,_,r1.append r2,IsTup.new _ _⟩
end
def ixN (n:Nat) (i:Int):Option Nat:=if 0≤i then (if i<n then some i.toNat else none) else if -(n:Int)≤i then some (i+n).toNat else none
def atI {α:Type} (xs:List α) (i:Int):Option α:=(ixN xs.length i).bind fun j=>xs[j]?
theorem Zjb {n:Nat} {i:Int} {j:Nat} (h:ixN n i=some j):seqIndex? i n=some j∧j<n∧-(n:Int)≤i∧i<n:=by
 unfold ixN at h
 by_cases h0:0≤i
 · rw [if_pos h0] at h
   by_cases h1:i<n
   · rw [if_pos h1] at h;have e:i.toNat=j:=Option.some.inj h;exact ⟨by rw [seqIndex_of h0 h1,e],by omega,by omega,h1⟩
   · rw [if_neg h1] at h;cases h
 · rw [if_neg h0] at h
   by_cases h1:-(n:Int)≤i
   · rw [if_pos h1] at h;have e:(i+n).toNat=j:=Option.some.inj h;exact ⟨by rw [seqIndex_neg (by omega) h1,e],by omega,h1,by omega⟩
   · rw [if_neg h1] at h;cases h
theorem Zlq {α:Type} {xs:List α} {i:Int} {v:α} (h:atI xs i=some v):∃ j,seqIndex? i xs.length=some j∧xs[j]? = some v∧j<xs.length∧-(xs.length:Int)≤i∧i<xs.length:=by
 unfold atI at h;cases e:ixN xs.length i with
 | none=>rw [e] at h;cases h
 | some j =>
   rw [e] at h;obtain ⟨h1,h2,h3,h4⟩:=Zjb e;exact ⟨j,h1,h,h2,h3,h4⟩
theorem Zay {α:Type} {xs:List α} {j:Nat} {v:α} (h:xs[j]? = some v):atI xs (j:Int)=some v:=by
 have hj:j<xs.length:=(n21_.mp h).1
 have e:ixN xs.length (j:Int)=some j:=by
  unfold ixN;rw [if_pos (by omega),if_pos (by omega)];simp
 unfold atI;rw [e];exact h
def Zru (b:Expr):Prop:=∀ o i,subscripted b false o i=operate [o,i] (getItem o i)
def IxR (X:Cx) (r:R2):Prop :=
 ∀ (value slice:Expr) (pins:List (Addr×Obj)) (s:Shared) (σ:St) (H:Hp) (x y:V) (v u:Value) (Q:VK),Inv X pins σ H s→RelV x v→RelV y u→r x y H Q →
   subscripted slice false v u=operate [v,u] (getItem v u)→wpAny (model X.prog X.w) X.A (subscriptTail value slice v u) (EP X pins σ Q) X.xe s
def MtR (X:Cx) (id:String) (r:V→List V→Hp→VK→Prop):Prop :=
 ∀ (pins:List (Addr×Obj)) (s:Shared) (σ:St) (H:Hp) (x:V) (xs:List V) (v:Value) (us:List Value) (Q:VK),Inv X pins σ H s→RelV x v→Vals xs us→r x xs H Q →
   wpAny (model X.prog X.w) X.A (call (.builtin id) (v :: us)) (EP X pins σ Q) X.xe s
section
variable {X:Cx} {a b:Expr} {ta tb:TE} {pos:Pos}
theorem Z3 {r:R2} (hr:IxR X r) (ha:PE X a ta) (hb:PE X b tb) (hs:Zru b):PE X (.Subscript a b pos) (tOp r ta tb):=by
 intro pins s σ H Q I h;exact Subscript_ (binT ha hb I h fun v u s2 x y H2 I2 rx ry q=>hr a b pins s2 σ H2 x y v u Q I2 rx ry q (hs _ _))
def rIxL (K:PySem.W.Frag):R2:=fun x y H Q=>∃ p xs i v,x=.ref p∧y=.int i∧SqL K H p xs∧atI xs i=some v∧Q v H
def rIxT (K:PySem.W.Frag):R2:=fun x y H Q=>∃ p xs i v,x=.ref p∧y=.int i∧SqT K H p xs∧atI xs i=some v∧Q v H
theorem Yh:IxR X (rIxL X.K):=by
 intro value slice pins s σ H x y v u Q I rx ry h hs;obtain ⟨p,xs,i,z,rfl,rfl,hq,he,q⟩:=h;cases rx
 obtain ⟨t,rfl⟩:=ry;obtain ⟨its,r,pl,hz⟩:=I.list hq;obtain ⟨j,h1,h2,h3,h4,h5⟩:=Zlq he;obtain ⟨w,ew,rw'⟩:=r.get h2;have hl:=r.length;have hn:=Zdy;have fin:EP X pins σ Q w s:=⟨z,H,I,rw',q⟩
 by_cases h0:0≤i
 · have hj:i.toNat=j:=by
    rw [seqIndex_of h0 h5] at h1;exact Option.some.inj h1
   exact item_listR pl.isList h0 (by omega) (by rw [hj];simpa using ew) fin hs
 · have hj:(i+(its.toArray.size:Int)).toNat=j:=by
    rw [seqIndex_neg (by omega) h4] at h1;rw [n5_,← hl];exact Option.some.inj h1
   exact subscriptTail_builtinR (x:=w) pl.isList.typeIs slot_list_getitem.lookup
    (wpAny_getItem_list_neg (Q:=fun r s'=>r=w∧EP X pins σ Q r s') pl.isList (by omega) (by rw [n5_]<;>omega) (by omega) (by rw [hj];simpa using ew) ⟨rfl,fin⟩) hs
theorem Yc:IxR X (rIxT X.K):=by
 intro value slice pins s σ H x y v u Q I rx ry h hs;obtain ⟨p,xs,i,z,rfl,rfl,hq,he,q⟩:=h;cases rx
 obtain ⟨t,rfl⟩:=ry;obtain ⟨its,r,pl,hz⟩:=I.tuple hq;obtain ⟨j,h1,h2,h3,h4,h5⟩:=Zlq he;obtain ⟨w,ew,rw'⟩:=r.get h2;have hl:=r.length;have hn:=Zdy;have fin:EP X pins σ Q w s:=⟨z,H,I,rw',q⟩
 exact subscriptTail_builtinR (x:=w) pl.typeIs slot_tuple_getitem.lookup
  (getItem_tuple (j:=j) (Q:=fun r s'=>r=w∧EP X pins σ Q r s') pl (by omega) (by omega) (by rw [n5_,← hl];exact h1) (by simpa using ew) ⟨rfl,fin⟩) hs
theorem Zky (its:List Value) (n j:Nat) (u:Value):Obj.mapSeq (·.setIfInBounds j u) { cls:=.type "list",data:=.seq its.toArray n }={ cls:=.type "list",data:=.seq (its.set j u).toArray n }:=by
 simp [Obj.mapSeq]
theorem Inv.lst {pins:List (Addr×Obj)} {σ:St} {H:Hp} {s:Shared} {p:Addr} {xs:List V} (I:Inv X pins σ H s) (h:H p=some (.lst xs)) :
 ∃ (its:List Value) (n:Nat),Vals xs its∧s.heap.get? p=some { cls:=.type "list",data:=.seq its.toArray n }∧xs.length≤sizeLine:=by
 obtain ⟨z,its,n,r,e⟩:=I.hok p _ h;exact ⟨its,n,r,e,z⟩
theorem Inv.lstUpd {pins:List (Addr×Obj)} {σ:St} {H:Hp} {s:Shared} {p:Addr} {xs ys:List V} {its its':List Value} {n n':Nat} {f:Obj→Obj} (I:Inv X pins σ H s) (h:H p=some (.lst xs))
 (ho:s.heap.get? p=some { cls:=.type "list",data:=.seq its.toArray n }) (hf:f { cls:=.type "list",data:=.seq its.toArray n }={ cls:=.type "list",data:=.seq its'.toArray n' }) (r:Vals ys its') (hz:ys.length≤sizeLine) (t:Nat) :
 Inv X pins σ (upd H p (.lst ys)) { s with heap:=s.heap.update p f,toks:=t }:=by
 have e:(s.heap.update p f).get? p=some { cls:=.type "list",data:=.seq its'.toArray n' }:=by
  rw [Heap.get?_update_self f ho (by rw [hf]<;>rfl),hf]
 refine I.write (x:=p) (e:=p) (by rw [h];trivial) (.inl rfl) (fun b u hb q=>(Heap.get?_update_other _ _ (Ne.symm hb)).trans q) ⟨_,e⟩ ?_;exact ⟨hz,its',n',r,e⟩
def Ztw:V→V→V→Hp→(Hp→Prop)→Prop:=fun o i v H Q=>∃ p xs k j,o=.ref p∧i=.int k∧H p=some (.lst xs)∧ixN xs.length k=some j∧Q (upd H p (.lst (xs.set j v)))
theorem Zbx:PSet X Ztw:=by
 intro pins s σ H o i v ov iv u Q I ro ri rv h;obtain ⟨p,xs,k,j,rfl,rfl,hp,hj,q⟩:=h;cases ro
 obtain ⟨t,rfl⟩:=ri;obtain ⟨its,n,r,ho,hz⟩:=I.lst hp;obtain ⟨h1,h2,h3,h4⟩:=Zjb hj;have hl:=r.length;have hn:=Zdy
 have I':Inv X pins σ (upd H p (.lst (xs.set j v))) { s with heap:=s.heap.update p (Obj.mapSeq (·.setIfInBounds j u)) } :=
  I.lstUpd hp ho (Zky its n j u) (r.set rv j) (by rw [List.length_set];exact hz) s.toks
 by_cases h0:0≤k
 · have hk:k.toNat=j:=by
    rw [seqIndex_of h0 h4] at h1;exact Option.some.inj h1
   exact PySem.W.ki_setAt ho h0 (by omega) (by rw [n5_,← hl];exact h4) (by rw [hk];exact ⟨_,I',q⟩)
 · have hk:(k+(its.toArray.size:Int)).toNat=j:=by
    rw [seqIndex_neg (by omega) h3] at h1;rw [n5_,← hl];exact Option.some.inj h1
   exact PySem.W.ki_setBack ho (by omega) (by rw [n5_,← hl];exact h3) (by omega) (by rw [hk];exact ⟨_,I',q⟩)
theorem Zhp (lo hi:Option Int) (n:Nat):(sliceBounds lo hi none n).1=((HT.sIx n 0 lo:Nat):Int)∧(sliceBounds lo hi none n).2.1=((HT.sIx n n hi:Nat):Int)∧(sliceBounds lo hi none n).2.2=1:=by
 refine ⟨?_,?_,rfl⟩
 · cases lo with
   | none=>simp [sliceBounds,HT.sIx]
   | some i =>
     simp only [sliceBounds,HT.sIx,Option.getD_none,show (1:Int)>0 by decide,if_true]
     by_cases h:i<0
     · simp only [h,if_true]<;>omega
     · simp only [h,if_false]<;>omega
 · cases hi with
   | none=>simp [sliceBounds,HT.sIx]
   | some i =>
     simp only [sliceBounds,HT.sIx,Option.getD_none,show (1:Int)>0 by decide,if_true]
     by_cases h:i<0
     · simp only [h,if_true]<;>omega
     · simp only [h,if_false]<;>omega
theorem Zgu (its:List Value) (lo hi:Option Int):slicePick its.toArray lo hi none=((its.drop (HT.sIx its.length 0 lo)).take (HT.sIx its.length its.length hi-HT.sIx its.length 0 lo)).toArray:=by
 obtain ⟨h1,h2,h3⟩:=Zhp lo hi its.toArray.size;unfold slicePick;rw [h1,h2,h3];simp only [sliceRange_one,pick_run,n5_]<;>rfl
def rSlL (K:PySem.W.Frag):V→Option Int→Option Int→Hp→VK→Prop:=fun x lo hi H Q=>∃ a xs,x=.ref a∧SqL K H a xs∧∀ p,H p=none→Q (.ref p) (upd H p (.lst (cutV xs lo hi)))
theorem Zri:SlR X (rSlL X.K):=by
 intro pins s σ H x v vl vu lo hi sl Q I rx hs pl pu h;obtain ⟨a,xs,rfl,hx,q⟩:=h;cases rx
 obtain ⟨its,r,ht,hz⟩:=I.list hx;have hlen:=r.length;refine ⟨"list",_,slot_list_getitem.lookup,ht.isList.typeIs,?_⟩;refine wpAny_getItem_list_slice ht.isList hs pl pu .none (by simp) ?_ (by rw [n5_]<;>omega);rw [Zgu,← hlen];refine ⟨.ref s.z,_,I.laid (t':=s.toks) (o:=.lst (cutV xs lo hi)) (fun b ob q=>n2_ _ q) (n6_ _) ?_,rfl,q _ (I.hok.fresh (n6_ _))⟩;exact ⟨n32_ (Xr xs lo hi) hz,_,0,(r.drop (HT.sIx xs.length 0 lo)).take (HT.sIx xs.length xs.length hi-HT.sIx xs.length 0 lo),n10_ _ rfl⟩
def Zgi:V→Bool
 | .non=>true
 | .bl _=>true
 | .int _=>true
 | .str _=>true
 | _=>false
def eqV:V→V→Bool
 | .non,.non=>true
 | .bl a,.bl b=>a == b
 | .bl a,.int b=>(if a then 1 else 0) == b
 | .int a,.bl b=>a == (if b then 1 else 0)
 | .int a,.int b=>a == b
 | .str a,.str b=>a == b
 | _,_=>false
theorem Zst {A:Around} {s:Shared} {y x:V} {u v:Value} (ry:RelV y u) (rx:RelV x v) (fy:Zgi y=true) (fx:Zgi x=true):SeqAt.EqAt A s u v (eqV y x):=by
 cases y with
 | non =>
   cases ry
   cases x with
   | non=>cases rx;exact SeqAt.EqAt.same _
   | bl b=>cases rx;exact SeqAt.EqAt.none_bool b
   | int b=>obtain ⟨t,rfl⟩:=rx;exact SeqAt.EqAt.none_int b t
   | str b=>obtain ⟨t,rfl⟩:=rx;exact SeqAt.EqAt.none_str b t
   | _=>exact absurd (show false=true from fx) n15_
 | bl a =>
   cases ry
   cases x with
   | non=>cases rx;exact SeqAt.EqAt.bool_none a
   | bl b=>cases rx;exact SeqAt.EqAt.bool_bool a b
   | int b=>obtain ⟨t,rfl⟩:=rx;exact SeqAt.EqAt.bool_int a b t
   | str b=>obtain ⟨t,rfl⟩:=rx;exact SeqAt.EqAt.bool_str a b t
   | _=>exact absurd (show false=true from fx) n15_
 | int a =>
   obtain ⟨t',rfl⟩:=ry;cases x with
   | non=>cases rx;exact SeqAt.EqAt.int_none a t'
   | bl b=>cases rx;exact SeqAt.EqAt.int_bool a t' b
   | int b=>obtain ⟨t,rfl⟩:=rx;exact SeqAt.EqAt.int_int a t' b t
   | str b=>obtain ⟨t,rfl⟩:=rx;exact SeqAt.EqAt.int_str a t' b t
   | _=>exact absurd (show false=true from fx) n15_
 | str a =>
   obtain ⟨t',rfl⟩:=ry;cases x with
   | non=>cases rx;exact SeqAt.EqAt.str_none a t'
   | bl b=>cases rx;exact SeqAt.EqAt.str_bool a t' b
   | int b=>obtain ⟨t,rfl⟩:=rx;exact SeqAt.EqAt.str_int a t' b t
   | str b=>obtain ⟨t,rfl⟩:=rx;exact SeqAt.EqAt.str_str a t' b t
   | _=>exact absurd (show false=true from fx) n15_
 | _=>exact absurd (show false=true from fy) n15_
def eqU (x:V) (u:Value):Bool:=match u with
 | .none=>eqV .non x
 | .bool b=>eqV (.bl b) x
 | .int i _=>eqV (.int i) x
 | .str z _=>eqV (.str z) x
 | _=>false
theorem Zmw {x y:V} {u:Value} (r:RelV y u) (f:Zgi y=true):eqU x u=eqV y x:=by
 cases y with
 | non=>cases r;rfl
 | bl b=>cases r;rfl
 | int i=>obtain ⟨t,rfl⟩:=r;rfl
 | str z=>obtain ⟨t,rfl⟩:=r;rfl
 | _=>exact absurd (show false=true from f) n15_
theorem Zja {x:V}:∀ {xs:List V} {us:List Value},Vals xs us→xs.all Zgi=true→us.any (eqU x)=xs.any fun y=>eqV y x
 | _,_,.nil,_=>rfl
 | y :: xs,u :: us,.cons r t,f=>by
   rw [List.all_cons,n27_] at f;rw [List.any_cons,List.any_cons,Zmw r f.1,Zja t f.2]
theorem Zdk {A:Around} {s:Shared} {x:V} {v:Value} (rx:RelV x v) (fx:Zgi x=true):∀ {xs:List V} {us:List Value},Vals xs us→xs.all Zgi=true→∀ u∈us,SeqAt.EqAt A s u v (eqU x u)
 | _,_,.nil,_=>fun u hu=>by cases hu
 | y :: xs,u :: us,.cons r t,f=>fun u' hu=>by
   rw [List.all_cons,n27_] at f
   rcases n14_.mp hu with rfl|hu
   · rw [Zmw r f.1];exact Zst r rx f.1 fx
   · exact Zdk rx fx t f.2 u' hu
def inV (x:V) (xs:List V):Bool:=xs.any fun y=>eqV y x
def rIn (K:PySem.W.Frag) (neg:Bool):R2:=fun x y H Q=>∃ p xs,y=.ref p∧(SqL K H p xs∨SqT K H p xs)∧Zgi x=true∧xs.all Zgi=true∧Q (.bl (if neg then !inV x xs else inV x xs)) H
theorem Zg0:OpR X (compareOp .NotIn) (rIn X.K true):=by
 intro pins s σ H x y v u Q I rx ry h;obtain ⟨p,xs,rfl,hq,fx,fs,q⟩:=h;cases ry
 rcases hq with hq|hq
 · obtain ⟨its,r,pl,hz⟩:=I.list hq;refine SeqAt.notIn_listAt (eqU x) pl.isList (fun w hw=>Zdk rx fx r fs w (by simpa using hw)) ⟨.bl _,H,I,rfl,?_⟩;rw [show its.toArray.any (eqU x)=its.any (eqU x) by simp,Zja r fs];exact q
 · obtain ⟨its,r,pl,hz⟩:=I.tuple hq;refine SeqAt.notIn_tupleAt (eqU x) pl (fun w hw=>Zdk rx fx r fs w (by simpa using hw)) ⟨.bl _,H,I,rfl,?_⟩;rw [show its.toArray.any (eqU x)=its.any (eqU x) by simp,Zja r fs];exact q
theorem Zn:Xz X (.builtin "len") (fun xs H Q=>∃ p ys,xs=[.ref p]∧(SqL X.K H p ys∨SqT X.K H p ys)∧Q (.int ys.length) H):=by
 intro pins s σ H xs us Q I r h;obtain ⟨p,ys,rfl,hq,q⟩:=h;obtain ⟨u,rfl,rx⟩:=Zll r;cases rx
 have hn:=Zdy
 rcases hq with hq|hq
 · obtain ⟨its,r',pl,hz⟩:=I.list hq;have hlen:=r'.length;exact Calls.call_len_list pl.isList (by simp only [n5_]<;>omega) ⟨.int ys.length,H,I.tok _,⟨s.toks+1,by rw [n5_,hlen]⟩,q⟩
 · obtain ⟨its,r',pl,hz⟩:=I.tuple hq;have hlen:=r'.length;exact len_tuple pl (by simp only [n5_]<;>omega) ⟨.int ys.length,H,I.tok _,⟨s.toks+1,by rw [n5_,hlen]⟩,q⟩
theorem Yo:Xz X (.type "tuple") (fun xs H Q=>∃ p ys,xs=[.ref p]∧((SqL X.K H p ys∧∀ l,H l=none→Q (.ref l) (upd H l (.tup ys)))∨(SqT X.K H p ys∧Q (.ref p) H))):=by
 intro pins s σ H xs us Q I r h;obtain ⟨p,ys,rfl,h⟩:=h;obtain ⟨u,rfl,rx⟩:=Zll r;cases rx
 rcases h with ⟨hq,q⟩|⟨hq,q⟩
 · obtain ⟨its,r',pl,hz⟩:=I.list hq;have hlen:=r'.length;refine call_tuple_list pl.isList (fun h' kp=>?_) (by simp only [n5_]<;>omega);have I1:Inv X pins σ H { s with heap:=h' }:=I.kept (t':=s.toks) kp
   have I2:Inv X pins σ (upd H h'.objs.size (.tup ys)) { s with heap:=h'.push { cls:=.type "tuple",data:=.seq its.toArray } } :=
    I1.laid (t':=s.toks) (fun b o e=>n2_ _ e) (n6_ _) (show ObjOk X.prog X.w _ _ _ (.tup ys) from ⟨hz,its,r',IsTup.new _ _⟩)
   exact ⟨.ref h'.objs.size,_,I2,rfl,q _ (I1.hok.fresh (n6_ _))⟩
 · obtain ⟨its,r',pl,hz⟩:=I.tuple hq;exact call_tuple_same pl ⟨.ref p,H,I,rfl,q⟩
def tyV (K:PySem.W.Frag) (T:String) (x:V) (H:Hp):Prop:=match x with
 | .str _=>T = "str"
 | .int _=>T = "int"
 | .ref p=>(T = "list" ∧ ∃ xs,SqL K H p xs)∨(T = "tuple" ∧ ∃ o,K.lookup p=some o∧o.cls=.type "tuple" ∧ o.dict=none) ∨
    (T = "dict" ∧ ((∃ kvs,H p=some (.dK kvs))∨∃ kvs,H p=some (.dT kvs)))∨(T = "set" ∧ ∃ S n,H p=some (.set S n))
 | _=>False
theorem Zpk {pins:List (Addr×Obj)} {σ:St} {H:Hp} {s:Shared} {T:String} {x:V} {v:Value} (I:Inv X pins σ H s) (r:RelV x v) (ty:tyV X.K T x H) :
 s.TypeIs v T∧∀ a,v=.ref a→∃ ob,s.heap.get? a=some ob∧ob.dict=none:=by
 cases x with
 | str z =>
   obtain ⟨t,rfl⟩:=r;cases (show T = "str" from ty)
   exact ⟨typeIs_str s z t,fun _ e=>nomatch e⟩
 | int i =>
   obtain ⟨t,rfl⟩:=r;cases (show T = "int" from ty)
   exact ⟨typeIs_int s i t,fun _ e=>nomatch e⟩
 | ref p =>
   cases r
   rcases ty with ⟨rfl,xs,hq⟩|⟨rfl,o,hk,hc,hd⟩|⟨rfl,hk⟩|⟨rfl,S,n,hk⟩
   · obtain ⟨its,_,pl,_⟩:=I.list hq;refine ⟨pl.isList.typeIs,fun a e=>?_⟩;cases e
     obtain ⟨o,n,e,c,hd,_⟩:=pl;exact ⟨o,e,hd⟩
   · refine ⟨⟨o,I.kIn p o hk,hc⟩,fun a e=>?_⟩;cases e
     exact ⟨o,I.kIn _ o hk,hd⟩
   · have z:∃ o,s.heap.get? p=some o∧o.ExactDict:=by
      rcases hk with ⟨kvs,hk⟩|⟨kvs,hk⟩
      · obtain ⟨_,_,_,_,o,_,_,e,ex,_⟩:=I.hok p _ hk;exact ⟨o,e,ex⟩
      · obtain ⟨_,_,_,_,o,_,_,e,ex,_⟩:=I.hok p _ hk;exact ⟨o,e,ex⟩
     obtain ⟨o,e,ex⟩:=z;refine ⟨⟨o,e,ex.1⟩,fun a e2=>?_⟩;cases e2
     exact ⟨o,e,ex.2.1⟩
   · obtain ⟨o,_,_,_,e,ex,_⟩:=I.hok p _ hk;refine ⟨⟨o,e,ex.1⟩,fun a e2=>?_⟩;cases e2
     exact ⟨o,e,ex.2.1⟩
 | _=>exact False.elim ty
def tBM0 (K:PySem.W.Frag) (T:String) (r:V→List V→Hp→VK→Prop) (to:TE):TE:=fun σ H Q=>to σ H fun x H1=>tyV K T x H1∧r x [] H1 Q
def tBM (K:PySem.W.Frag) (T:String) (r:V→List V→Hp→VK→Prop) (to:TE) (t:TA):TE:=fun σ H Q=>to σ H fun x H1=>tyV K T x H1∧t σ H1 fun xs H2=>r x xs H2 Q
variable {o e:Expr} {es:List Expr} {to:TE} {t:TA} {name:Str} {apos cpos:Pos} {T id:String} {r:V→List V→Hp→VK→Prop}
theorem Zp1 (pa:PlainAttrs T) (slot:Slot T name id) (hty:typeOf (.builtin id)=pure (.type "method_descriptor")) (hm:MtR X id r) (ho:PE X o to)
 (hbase:attributeBase o name X.env (eval o X.env)=eval o X.env:=by rfl) (hline:(apos.endLine == cpos.line)=true:=by rfl):PE X (.Call (.Attribute o name apos) [] [] cpos) (tBM0 X.K T r to):=by
 intro pins s σ H Q I h;refine wpAny_Call_method0_late hbase hline (thn (ho pins s σ H _ I h) fun v s1 ⟨x,H1,I1,r1,ty,q1⟩=>?_);obtain ⟨h1,h2⟩:=Zpk I1 r1 ty;exact ⟨T,id,pa,slot,hty,h1,h2,Calls.callWith_builtin rfl (PySem.evalArgs_none (hm pins s1 σ H1 x [] v [] Q I1 r1 .nil q1))⟩
theorem Zh5 (pa:PlainAttrs T) (slot:Slot T name id) (hty:typeOf (.builtin id)=pure (.type "method_descriptor")) (hm:MtR X id r) (ho:PE X o to) (ha:PA X (e :: es) t)
 (hbase:attributeBase o name X.env (eval o X.env)=eval o X.env:=by rfl)
 (hfew:((backTo cpos (starEach (e :: es) X.env)).all (fun x=>!x.1)&&(backToKw cpos (keywordEach [] X.env)).all (fun x=>x.1.isSome)
   && decide ((e :: es).length+([]:List Keyword).length+(if ([]:List Keyword).isEmpty then 0 else 1)<30))=true:=by rfl)
 (hline:(apos.endLine == cpos.line)=true:=by rfl) (hs:starEach (e :: es) X.env=(false,eval e X.env) :: starEach es X.env:=by rfl) (hplain:(backTo cpos (starEach es X.env)).any (·.1)=false:=by rfl) :
 PE X (.Call (.Attribute o name apos) (e :: es) [] cpos) (tBM X.K T r to t):=by
 intro pins s σ H Q I h;refine wpAny_Call_method_late hbase hfew hline rfl (thn (ho pins s σ H _ I h) fun v s1 ⟨x,H1,I1,r1,ty,q1⟩=>?_);obtain ⟨h1,h2⟩:=Zpk I1 r1 ty;refine ⟨T,id,pa,slot,hty,h1,h2,?_⟩;have hA:=ha cpos pins s1 σ H1 _ I1 q1;rw [hs] at hA ⊢;refine Calls.callWith_builtin (by show (false||(backTo cpos (starEach es X.env)).any (·.1))=false;rw [hplain]<;>rfl) (Calls.evalArgs_plain ?_);exact thn hA fun us s2 ⟨vs,H2,I2,r2,q2⟩=>hm pins s2 σ H2 x vs v us Q I2 r1 r2 q2
/- xs.append(e),list.index on a module's tuple .. are MtR facts of 06m -/
end
def MtM (X:Cx) (id:String) (r:V→List V→Hp→VK→Prop):Prop :=
 ∀ (pins:List (Addr×Obj)) (s:Shared) (σ:St) (H:Hp) (x:V) (xs:List V) (v:Value) (us:List Value) (Q:VK),Inv X pins σ H s→RelV x v→Vals xs us→r x xs H Q →
   wpAny (model X.prog X.w) X.A (call (.builtin id) (v :: us)) (EP X pins σ Q) X.xe s
theorem Vals.one:∀ {x:V} {us:List Value},Vals [x] us→∃ u,us=[u]∧RelV x u
 | _,_,.cons r .nil=>⟨_,rfl,r⟩
theorem Vals.two:∀ {x y:V} {us:List Value},Vals [x,y] us→∃ u v,us=[u,v]∧RelV x u∧RelV y v
 | _,_,_,.cons r (.cons q .nil)=>⟨_,_,rfl,r,q⟩
theorem Vals.eraseIdx:∀ {xs:List V} {us:List Value} (i:Nat),Vals xs us→Vals (xs.eraseIdx i) (us.eraseIdx i)
 | _,_,_,.nil=>.nil
 | _,_,0,.cons _ t=>t
 | _,_,i+1,.cons r t=>.cons r (Vals.eraseIdx i t)
theorem Vals.rep {xs:List V} {us:List Value} (h:Vals xs us):∀ k:Nat,Vals (List.replicate k xs).flatten (List.replicate k us).flatten
 | 0=>.nil
 | k+1=>by
   rw [n45_,n45_,List.flatten_cons,List.flatten_cons];exact Vals.append h (Vals.rep h k)
theorem Zhx {α:Type}:∀ (l:List α) (i:Nat),(l.eraseIdx i).length≤l.length
 | [],_=>n6_ _
 | _ :: _,0=>Nat.le_succ _
 | _ :: r,i+1=>Nat.succ_le_succ (Zhx r i)
theorem Zb9 (its:List Value):∀ (k:Nat) (acc:List Value),
 List.foldl (fun x1 x2=>x1++x2) acc.toArray (List.replicate k its.toArray)=(acc++(List.replicate k its).flatten).toArray
 | 0,acc=>by simp
 | k+1,acc=>by
   have e:acc.toArray++its.toArray=(acc++its).toArray:=by simp
   have e2:(acc++its)++(List.replicate k its).flatten=acc++(List.replicate (k+1) its).flatten:=by
    rw [n45_,List.flatten_cons,List.append_assoc]
   rw [← e2,← Zb9 its k (acc++its),← e,n45_,List.foldl_cons]
section
variable {X:Cx} {pins:List (Addr×Obj)} {σ:St} {H:Hp} {s:Shared} {l b:Addr} {xs ys zs:List V}
theorem Inv.lset {its its':List Value} {n:Nat} {f:Array Value→Array Value} {t':Nat} (I:Inv X pins σ H s) (hH:H l=some (.lst xs))
 (e:s.heap.get? l=some { cls:=.type "list",data:=.seq its.toArray n }) (hf:f its.toArray=its'.toArray) (hv:Vals ys its') (hz:ys.length≤sizeLine) :
 Inv X pins σ (upd H l (.lst ys)) { s with heap:=s.heap.update l (Obj.mapSeq f),toks:=t' }:=by
 have q:=PySem.IsL.update e f;rw [hf] at q;refine I.write (x:=l) (e:=l) (by rw [hH];exact trivial) (.inl rfl) (fun b' u hb hu=>(Heap.get?_update_other s.heap (Obj.mapSeq f) (Ne.symm hb)).trans hu) ⟨_,q⟩ ?_;exact ⟨hz,its',_,hv,q⟩
theorem Inv.lnew {its:List Value} {t':Nat} (I:Inv X pins σ H s) (hv:Vals ys its) (hz:ys.length≤sizeLine) :
 Inv X pins σ (upd H s.z (.lst ys)) { s with heap:=s.heap.push { cls:=.type "list",data:=.seq its.toArray },toks:=t' } :=
 I.laid (fun _ _ q=>n2_ _ q) (n6_ _) ⟨hz,its,0,hv,n10_ _ rfl⟩
theorem Inv.fresh (I:Inv X pins σ H s):H s.z=none:=I.hok.fresh (n6_ _)
theorem Inv.lstM (I:Inv X pins σ H s) (hH:H l=some (.lst xs)):xs.length≤sizeLine∧∃ (its:List Value) (n:Nat),Vals xs its∧xs.length=its.length∧s.heap.get? l=some { cls:=.type "list",data:=.seq its.toArray n }:=by
 obtain ⟨z,its,n,r,e⟩:=I.hok l _ hH;exact ⟨z,its,n,r,r.length,e⟩
theorem Zn5 {n:Nat} (h:n≤sizeLine):Builtin.List.listTooLong n=false:=by
 unfold Builtin.List.listTooLong;exact n8_ (by omega)
end
section
variable {X:Cx}
def Zrp:V→List V→Hp→VK→Prop:=fun x vs H Q=>∃ l xs y,x=.ref l∧vs=[y]∧H l=some (.lst xs)∧xs.length<sizeLine∧Q .non (upd H l (.lst (xs++[y])))
theorem Zdz:MtM X "list.append" Zrp:=by
 intro pins s σ H x vs v us Q I rx rv h;obtain ⟨l,xs,y,rfl,rfl,hH,hz,q⟩:=h;cases rx
 obtain ⟨u,rfl,ru⟩:=rv.one;obtain ⟨z,its,n,r,hl,e⟩:=I.lstM hH;refine call_meets F.slot_list_append ⟨_,e,rfl⟩ F.entry_list_append (F.args_list_append_2 _ _) (PySem.list_append l its.toArray n u (by rw [n5_];omega)) ⟨e,?_⟩;refine ⟨.non,_,I.lset (its':=its++[u]) hH e (by simp) (r.append (.cons ru .nil)) ?_,rfl,q⟩;rw [n25_,List.length_singleton];omega
def Zs8:V→List V→Hp→VK→Prop:=fun x vs H Q=>∃ l xs i k y,x=.ref l∧vs=[.int i]∧H l=some (.lst xs)∧-(2^63)≤i∧i<2^63∧seqIndex? i xs.length=some k∧xs[k]? = some y∧Q y (upd H l (.lst (xs.eraseIdx k)))
theorem Zkd:MtM X "list.pop" Zs8:=by
 intro pins s σ H x vs v us Q I rx rv h;obtain ⟨l,xs,i,k,y,rfl,rfl,hH,h1,h2,hk,hy,q⟩:=h;cases rx
 obtain ⟨u,rfl,ru⟩:=rv.one;obtain ⟨t,rfl⟩:=ru;obtain ⟨z,its,n,r,hl,e⟩:=I.lstM hH;obtain ⟨w,hw,rw'⟩:=r.get hy
 refine call_meets F.slot_list_pop ⟨_,e,rfl⟩ F.entry_list_pop (F.args_list_pop_2 _ _)
  (MeetsSeq.list_pop_at l its.toArray n i t k w (fitsIndex_both h1 h2) (by rw [n5_,← hl];exact hk) (by rw [← Array.getElem?_toList];exact hw) (by rw [n5_];omega)) ⟨e,?_⟩
 refine ⟨y,_,I.lset (its':=its.eraseIdx k) hH e ?_ (r.eraseIdx k) ?_,rw',q⟩
 · show its.toArray.eraseIdxIfInBounds k=(its.eraseIdx k).toArray
   rw [List.eraseIdxIfInBounds_toArray]
 · have:=Zhx xs k
   omega
def rCat:R2:=fun x y H Q=>∃ l b xs zs,x=.ref l∧y=.ref b∧H l=some (.lst xs)∧H b=some (.lst zs)∧xs.length+zs.length≤sizeLine∧∀ p,H p=none→Q (.ref p) (upd H p (.lst (xs++zs)))
theorem Zag:OpR X (binaryOp .Add) rCat:=by
 intro pins s σ H x y v u Q I rx ry h;obtain ⟨l,b,xs,zs,rfl,rfl,hH,hB,hz,q⟩:=h;cases rx
 cases ry
 obtain ⟨z,its,n,r,hl,e⟩:=I.lstM hH;obtain ⟨z2,its2,n2,r2,hl2,e2⟩:=I.lstM hB;refine PySem.P.add_list e e2 ?_ (by rw [n5_,n5_];omega);have ea:its.toArray++its2.toArray=(its++its2).toArray:=by simp
 rw [ea];exact ⟨.ref _,_,I.lnew (t':=s.toks) (r.append r2) (by rw [n25_];omega),rfl,q _ I.fresh⟩
def rRep:R2:=fun x y H Q=>∃ l k xs,x=.ref l∧y=.int k∧H l=some (.lst xs)∧-(2^63)≤k∧k<2^63∧xs.length*k.toNat≤sizeLine ∧
 ∀ p,H p=none→Q (.ref p) (upd H p (.lst (List.replicate k.toNat xs).flatten))
theorem Zi9 {α:Type} (xs:List α) (k:Nat):(List.replicate k xs).flatten.length=k*xs.length:=by
 induction k with
 | zero=>simp
 | succ k ih=>rw [n45_,List.flatten_cons,n25_,ih,Nat.succ_mul,Nat.add_comm]
theorem Zrz:OpR X (binaryOp .Mult) rRep:=by
 intro pins s σ H x y v u Q I rx ry h;obtain ⟨l,k,xs,rfl,rfl,hH,h1,h2,hz,q⟩:=h;cases rx
 obtain ⟨t,rfl⟩:=ry;obtain ⟨z,its,n,r,hl,e⟩:=I.lstM hH;have hlen:its.toArray.size*k.toNat≤sizeLine:=by rw [n5_,← hl];exact hz
 have hcap:¬ its.toArray.size*k.toNat>(2^63-1)/8:=by
  have:(sizeLine:Nat)≤(2^63-1)/8:=by decide
  omega
 have hfit:¬ (!Builtin.List.listFitsIndex k)=true:=by
  rw [fitsIndex_both h1 h2];exact n15_
 have hlong:¬ Builtin.List.listTooLong (its.toArray.size*k.toNat)=true:=by
  rw [Zn5 hlen];exact n15_
 have hnew:List.foldl (fun x1 x2=>x1++x2) #[] (List.replicate (if its.toArray.isEmpty=true then 0 else k.toNat) its.toArray)=(List.replicate k.toNat its).flatten.toArray:=by
  have f0:∀ m:Nat,List.foldl (fun x1 x2=>x1++x2) #[] (List.replicate m its.toArray)=(List.replicate m its).flatten.toArray:=fun m=>by
   have:=Zb9 its m []
   rw [List.nil_append] at this;exact this
  rw [f0];cases its with
  | nil=>simp
  | cons a r'=>rw [if_neg (by simp)]
 refine wpAny_binaryOp_repeat_ref (T := "list") (U := "int") (by decide) ⟨_,e,rfl⟩ (fun s'=>typeIs_int s' k t) noFill_list_mul F.fills_int_mul F.slot_int_rmul repeat_list F.slot_int_index.lookup
  (call_meets F.slot_int_rmul (typeIs_int s k t) F.entry_int_rmul (F.args_int_rmul_2 _ _) (int___rmul___int_list k t l its.toArray n)
    ⟨e,rfl,⟨_,e,rfl⟩,call_meets F.slot_list_mul ⟨_,e,rfl⟩ F.entry_list_mul (F.args_list_mul_2 _ _) (AutoListH.list___mul___list_int_3 l its.toArray n k t hfit hcap hlong) ⟨e,?_⟩⟩)
 rw [hnew];exact ⟨.ref _,_,I.lnew (t':=s.toks) (r.rep k.toNat) (by rw [Zi9,Nat.mul_comm];exact hz),rfl,q _ I.fresh⟩
end
section
variable {prog:Program} {w:World} {A:Around} {E:Value→Shared→Prop} {s:Shared}
set_option maxRecDepth 100000 in
end
section
variable {X:Cx}
end
end L2
namespace Att
open PySem PySem.W PySem.Calls PyProof.Rows
theorem Zd8 {P:Params} {h:Heap}:∀ (ns:List Int) (vs:List Value),WellAll P h vs (ns.map WData.int)→IntsAre vs ns:=by
 intro ns
 induction ns with
 | nil =>
   intro vs w;rw [List.map_nil] at w;cases w
   exact .nil
 | cons n ns ih =>
   intro vs w;rw [n58_] at w;cases w with
   | cons a b =>
     cases a
     exact .cons _ _ (ih _ b)
theorem Zlu {l:OpenLaw} {n:Nat} (hn:l.most=some n) {P:Params} {h:Heap} {args:List WData} {vals:List Value}
 (hpre:l.row.toRowW.claim.pre args=true) (hwl:WellAll P h vals args) :
 ∃ a vs ns,vals=[Value.ref a]∧args=[WData.list (ns.map WData.int)]∧h.get? a=some { cls:=.type "list",data:=.seq vs.toArray }∧IntsAre vs ns∧ns.length≤n:=by
 have hsh:WShape.hasAll [] args [.list .int]=true:=(pre_splitW hpre).1;have hc:l.pre.holds [] { args:=args }=true:=(pre_splitW hpre).2;obtain ⟨d,r,rfl,h1,h2⟩:=hasAllW_cons hsh;obtain rfl:=hasAllW_nil h2;obtain ⟨xs,rfl,h3⟩:=hasW_list h1;obtain ⟨ns,rfl⟩:=items_int h3
 have hlen:ns.length≤n:=by
  unfold OpenLaw.pre at hc
  have h4:(WTm.not (.lt (.lit (.int (n:Int))) (.len (.arg 0)))).holds [] { args:=[.list (ns.map .int)] }=true:=by
   have h4:=(holds_andW hc).1;rw [hn] at h4;exact h4
  have h5:=condW_of h4 (w_not (w_lt w_lit (w_len_list (w_arg rfl))));rw [n23_] at h5;refine Nat.le_of_not_lt fun q=>?_;have q':(n:Int)<((ns.length:Nat):Int):=by omega
  first
   | (rw [n19_ q'] at h5;exact absurd h5 (by decide))
   | (simp at h5;omega)
 cases hwl with
 | cons w1 w2 =>
   cases w2
   cases w1 with
   | list ho hall=>exact ⟨_,_,ns,rfl,rfl,ho,Zd8 ns _ hall,hlen⟩
theorem Zlr (l:OpenLaw) (args:List WData):l.row.toRowW.claim.post args (.bool true) args=true :=
 postW_of (r:=l.row.toRowW) (X:=(true == true))
  (show WShape.has [] (.bool true) .bool=true by first|rfl|decide|simp [WShape.has,WShape.arms,WShape.armsAll])
  (show (WTm.eq .res (.lit (.bool true))).value [] { args:=args,res:=some (.bool true),after:=args }=some (.bool (true == true)) from w_eq_bool (w_res rfl) w_lit) rfl
theorem attach_call {l:OpenLaw} {n:Nat} {q:Program} {loose:List Str} {XP:(Str→Option Value)→Heap→Prop} {YP:World→Heap→Prop} {d:DefRec}
 (hn:l.most=some n) (hdf:d.params.defaults=[])
 (call:∀ (w:World) (s₀ s₁:Shared) (mg mb:Str→Option Value) (fa:Addr) (o:Obj) (pm cd doc:Value) (a:Addr) (vs:List Value) (ns:List Int),
   Ground q loose [] XP w s₀ mg mb s₁.heap→YP w s₁.heap →
   s₁.heap.get? fa=some o→o.data=.func (docDef d.name d.params d.body d.scope pm cd doc)→s₁.heap.CodeRec cd d.name→mg d.name=some (.ref fa) →
   s₁.heap.get? a=some { cls:=.type "list",data:=.seq vs.toArray }→IntsAre vs ns→ns.length≤n→s₁.gens=#[] →
   codeAny (model l.prog w) callerA (.call (.ref fa) ⟨[.ref a],[]⟩) (fun r s'=>r=.ok (.ret (.bool true))∧OldK s₁.heap s'.heap∧s'.os=s₁.os∧AllBare s'.gens) s₁) :
 WalkO q loose XP YP l.row.toRowW d [] (fun f vs=>PySem.call f vs):=by
 intro w s₀ s₁ mg mb G Y fa o pm cd doc dV kV ho hd hcd hD hmg hg args vals as hpre hlay hrd hwl hlo;obtain rfl:dV=.none:=Dflts.none hD hdf;obtain rfl:kV=.none:=Dflts.noKw hD;obtain ⟨a,vs,ns,rfl,rfl,hobj,hints,hlen⟩:=Zlu hn hpre hwl;refine enter_call (codeAny_mono (call w s₀ s₁ mg mb fa o pm cd doc a vs ns G Y ho (fd_plain hd) hcd hmg hobj hints hlen hg) fun r s' hq=>?_);obtain ⟨rfl,h2,h3,h4⟩:=hq;exact ⟨.inl ⟨.bool true,.bool true,[],rfl,fun _=>rfl,.bool true,Zlr l _,fun _=>⟨List.Pairwise.nil,fun _ hm=>(nomatch hm)⟩⟩,h2,h3,h4⟩
section
variable {prog:Program} {w:World} {A:Around} {E:Value→Shared→Prop} {s:Shared} {K:Frag}
end
end Att
namespace L2
open PySem PySem.Spec PyProof.Rows
theorem Zhu:∀ {vs:List Value} {ns:List Int},IntsAre vs ns→Vals (ns.map V.int) vs
 | _,_,.nil=>.nil
 | _,_,.cons n t h=>.cons ⟨t,rfl⟩ (Zhu h)
def Xo (s:Stmt):Arguments:=match s with
 | .FunctionDef _ a _ _ _ _ _ _ _ _=>a
 | _=>{ posonlyargs:=[],args:=[],vararg:=none,kwonlyargs:=[],kw_defaults:=[],kwarg:=none,defaults:=[] }
def Y0 (s:Stmt):List Stmt:=match s with
 | .FunctionDef _ _ b _ _ _ _ _ _ _=>b
 | _=>[]
def Zg (s:Stmt):Scope:=match s with
 | .FunctionDef _ _ _ _ _ _ sc _ _ _=>sc
 | _=>{ kind:=.function,names:=[],isGenerator:=false,isCoroutine:=false }
abbrev CX0:CXT:=fun _ _ _ _ _ _=>False
abbrev E0:XK:=fun _ _ _=>False
theorem Zr8 {X:Cx}:Zcv CX0 X E0:=fun _ _ _ _ _ _ _ h=>h.elim
structure Fun (K:PySem.W.Frag) (x qual:Str) (st:Stmt) (f:Addr) (fd:FuncData):Prop where
 ex:∃ (oc:Value) (od:Option Addr) (kV doc pm:Value) (an:Option Addr) (cdv ct:Value) (osl:Array (Option Value)),
  fd=PySem.W.fnOf x qual (Xo st) (Y0 st) (Zg st) .none kV doc pm an cdv ct∧K.lookup f=some ⟨oc,od,.func fd,osl⟩∧PySem.W.codeIn K cdv qual=true
 kp:PySem.W.keepIn K (.ref f)=true
section
variable {P:Program} {w:World} {K:PySem.W.Frag} {mg:Str→Option Value} {base:Heap}
theorem Fun.ok {x qual:Str} {st:Stmt} {f:Addr} {fd:FuncData} {N ps:List Str} {k:Nat} {sp:Sp} (F:Fun K x qual st f fd) (S:FnScope N ps (Zg st)) (len:∀ vs H Q E,sp vs H Q E→vs.length=ps.length)
 (hbody:∀ (cdv:Value) (A:Around) (outer:List Env) (s:Shared) (H:Hp) (vs:List V) (Q:VK) (E:XK),Room k (A.deeper (envOfC qual (Zg st) s.z f cdv))→sp vs H Q E →
   ∃ t,PSs (cxOf CX0 P w K mg base N qual (Zg st) f cdv A outer s H E).nox (Y0 st) t∧t { nx:=fun _ H'=>Q .non H',rt:=Q } (start N vs) H):FnOk P w K mg base CX0 (k+1) f fd ps sp:=by
 obtain ⟨oc,od,kV,doc,pm,an,cdv,ct,osl,rfl,lk,hcd⟩:=F.ex;refine Zrj lk hcd S len fun A outer s H vs Q E hr hsp=>?_;obtain ⟨t,h,q⟩:=hbody cdv A outer s H vs Q E hr hsp;exact ⟨t,h.nox,q⟩
theorem Fun.binds {x qual:Str} {st:Stmt} {f:Addr} {fd:FuncData} {ps:List Str} (F:Fun K x qual st f fd)
 (h:∀ (kV doc pm:Value) (an:Option Addr) (cdv ct:Value) (us:List Value),us.length=ps.length→bindArgs (PySem.W.fnOf x qual (Xo st) (Y0 st) (Zg st) .none kV doc pm an cdv ct) ⟨us,[]⟩=pure (ps.zip us)):Binds K fd ps []:=by
 obtain ⟨oc,od,kV,doc,pm,an,cdv,ct,osl,rfl,lk,hcd⟩:=F.ex;exact .all (h kV doc pm an cdv ct)
theorem Zpf {x qual:Str} {st:Stmt} {f:Addr} {oc:Value} {od an:Option Addr} {osl:Array (Option Value)} {kV doc pm cdv ct:Value} (l:K.lookup f=some ⟨oc,od,.func (PySem.W.fnOf x qual (Xo st) (Y0 st) (Zg st) .none kV doc pm an cdv ct),osl⟩)
 (c:PySem.W.codeIn K cdv qual=true) (k:PySem.W.keepIn K (.ref f)=true):Fun K x qual st f (PySem.W.fnOf x qual (Xo st) (Y0 st) (Zg st) .none kV doc pm an cdv ct):=⟨⟨oc,od,kV,doc,pm,an,cdv,ct,osl,rfl,l,c⟩,k⟩
end
theorem Zi6 {A:Around} {k:Nat} (hr:Room k A):A.units+1<cLine:=n52_ (Nat.add_le_add_left (by decide:1≤64) _) hr.units
section
variable {X:Cx}
theorem pv (i:Nat) {x:Str} {pos:Pos} (hN:X.N[i]? = some x:=by rfl) (hv:Vis X.env.scope x:=by first|exact Or.inl rfl|exact Or.inr (Or.inl rfl)|exact Or.inr (Or.inr rfl)) (hd:(x == ("__debug__" : Str))=false:=by decide)
 (hcd:(x == ("__classdict__" : Str))=false:=by decide):PE X (.Name x pos) (tVar i):=Zpg hN hv hd hcd
end
theorem iteF {A B:Prop} (h:B):if false=true then A else B:=by
 rw [if_neg n15_];exact h
theorem iteT {A B:Prop} (h:A):if true=true then A else B:=by
 rw [if_pos rfl];exact h
theorem ite2 {c A B:Prop} [Decidable c] (h1:c→A) (h2:¬ c→B):if c then A else B:=by
 by_cases h:c
 · rw [if_pos h];exact h1 h
 · rw [if_neg h];exact h2 h
def Same (H H':Hp):Prop:=∀ b o,H b=some o→H' b=some o
theorem Same.refl (H:Hp):Same H H:=fun _ _ h=>h
theorem Same.trans {H H1 H2:Hp} (a:Same H H1) (b:Same H1 H2):Same H H2:=fun c o h=>b c o (a c o h)
end L2
namespace FM
def sg (t b:Int):Int:=if b<0 then -(Int.gcd t b:Int) else (Int.gcd t b:Int)
theorem gcd_ne {t b:Int} (h:b≠0):(Int.gcd t b:Int)≠0:=by
 intro e
 have:=Int.gcd_eq_zero_iff.mp (Int.ofNat.inj e)
 exact h this.2
theorem sg_ne {t b:Int} (h:b≠0):sg t b≠0:=by
 have:=gcd_ne (t:=t) h
 unfold sg;split<;>omega
theorem fdiv_mul {c k:Int} (h:k≠0):(c*k).fdiv k=c:=Int.mul_fdiv_cancel c h
theorem Zpc {t b:Int} (h:b≠0):t.fdiv (sg t b)=(Rat.divInt t b).num:=by
 rw [Rat.num_divInt];obtain ⟨c,hc⟩:=Int.gcd_dvd_left t b;have hg:=gcd_ne (t:=t) h;have e:(b.gcd t:Int)=(t.gcd b:Int):=by rw [Int.gcd_comm]
 rw [e];unfold sg
 rcases Int.lt_or_gt_of_ne h with hb|hb
 · rw [if_pos hb,Int.sign_eq_neg_one_of_neg hb];generalize (t.gcd b:Int)=g at *;subst hc;rw [show g*c=(-c)*(-g) by rw [Int.neg_mul_neg,Int.mul_comm],fdiv_mul (by omega)];rw [show (-1:Int)*((-c)*(-g))=(-c)*g by rw [Int.neg_mul_neg,Int.neg_mul,Int.one_mul,Int.neg_mul],Int.mul_ediv_cancel _ hg]
 · rw [if_neg (by omega),Int.sign_eq_one_of_pos hb,Int.one_mul];generalize (t.gcd b:Int)=g at *;subst hc;rw [Int.mul_comm,fdiv_mul hg,Int.mul_ediv_cancel _ hg]
theorem fdiv_den {t b:Int} (h:b≠0):b.fdiv (sg t b)=((Rat.divInt t b).den:Int):=by
 rw [Rat.den_divInt,if_neg h];obtain ⟨c,hc⟩:=Int.gcd_dvd_right t b;have hg:=gcd_ne (t:=t) h;have e:b.gcd t=t.gcd b:=by rw [Int.gcd_comm]
 rw [e,Int.natCast_ediv];unfold sg
 rcases Int.lt_or_gt_of_ne h with hb|hb
 · rw [if_pos hb,Int.ofNat_natAbs_of_nonpos (by omega)];generalize (t.gcd b:Int)=g at *;subst hc;rw [show g*c=(-c)*(-g) by rw [Int.neg_mul_neg,Int.mul_comm],fdiv_mul (by omega)];rw [show -((-c)*(-g))=(-c)*g by rw [Int.neg_mul_neg,Int.neg_mul],Int.mul_ediv_cancel _ hg]
 · rw [if_neg (by omega),Int.natAbs_of_nonneg (by omega)];generalize (t.gcd b:Int)=g at *;subst hc;rw [Int.mul_comm,fdiv_mul hg,Int.mul_ediv_cancel _ hg]
theorem low_num {t b:Int} (h:b≠0):(if 0<b then t.fdiv (Int.gcd t b:Int) else 0-t.fdiv (Int.gcd t b:Int))=(Rat.divInt t b).num:=by
 rw [← Zpc h];have hg:=gcd_ne (t:=t) h;obtain ⟨c,hc⟩:=Int.gcd_dvd_left t b;unfold sg
 by_cases hb:0<b
 · rw [if_pos hb,if_neg (by omega)]
 · rw [if_neg hb,if_pos (by omega)];generalize (t.gcd b:Int)=g at *;subst hc;rw [show g*c=c*g by simp [Int.mul_comm],fdiv_mul hg];rw [show c*g=(-c)*(-g) by rw [Int.neg_mul_neg],fdiv_mul (by omega)];omega
theorem low_den {t b:Int} (h:b≠0):(b.natAbs:Int).fdiv (Int.gcd t b:Int)=((Rat.divInt t b).den:Int):=by
 rw [← fdiv_den h];have hg:=gcd_ne (t:=t) h;obtain ⟨c,hc⟩:=Int.gcd_dvd_right t b;unfold sg
 by_cases hb:b<0
 · rw [if_pos hb,Int.ofNat_natAbs_of_nonpos (by omega)];generalize (t.gcd b:Int)=g at *;subst hc;rw [show g*c=(-c)*(-g) by rw [Int.neg_mul_neg,Int.mul_comm],fdiv_mul (by omega)];rw [show -((-c)*(-g))=(-c)*g by rw [Int.neg_mul_neg,Int.neg_mul],fdiv_mul hg]
 · rw [if_neg hb,Int.natAbs_of_nonneg (by omega)]
theorem gcd_fmod {a b:Int} (h:b≠0):Int.gcd b (a.fmod b)=Int.gcd a b:=by
 have e:a.fmod b=a-b*a.fdiv b:=by have:=Int.mul_fdiv_add_fmod a b;omega
 rw [e,Int.gcd_comm a b]
 have:=Int.gcd_sub_mul_left_right b a (a.fdiv b)
 first|exact this|(rw [← this])|simpa using this
theorem fmod_abs_lt {a b:Int} (h:b≠0):(a.fmod b).natAbs<b.natAbs:=by
 rcases Int.lt_or_gt_of_ne h with hb|hb
 · have e:a.fmod b = -((-a).fmod (-b)):=by
    have:=Int.neg_fmod_neg a b
    omega
   have h1:=n49_ (-a) (show (0:Int) < -b by omega);have h2:=n66_ (-a) (show (0:Int) < -b by omega);omega
 · have h1:=n49_ a hb;have h2:=n66_ a hb;omega
def B (n:Nat) (q:Rat):Prop:=q.num.natAbs<2^n∧q.den<2^n
theorem Zfs (t:Int) {b:Int} (h:b≠0):(Rat.divInt t b).num.natAbs≤t.natAbs:=by
 rw [Rat.num_divInt]
 have hs:(b.sign*t).natAbs≤t.natAbs:=by
  rw [n64_]
  have:b.sign.natAbs≤1:=by
   rcases Int.lt_trichotomy b 0 with z|z|z
   · rw [Int.sign_eq_neg_one_of_neg z];decide
   · omega
   · rw [Int.sign_eq_one_of_pos z];decide
  calc b.sign.natAbs*t.natAbs≤1*t.natAbs:=Nat.mul_le_mul_right _ this
   _=t.natAbs:=Nat.one_mul _
 obtain ⟨c,hc⟩:∃ c,b.sign*t=(b.gcd t:Int)*c:=by
  obtain ⟨c,hc⟩:=Int.gcd_dvd_right b t;refine ⟨b.sign*c,?_⟩;rw [← Int.mul_assoc,Int.mul_comm (b.gcd t:Int) b.sign,Int.mul_assoc,← hc]
 have hg:(b.gcd t:Int)≠0:=by
  intro e;exact h (Int.gcd_eq_zero_iff.mp (Int.ofNat.inj e)).1
 rw [hc,Int.mul_ediv_cancel_left _ hg]
 have:c.natAbs≤(b.sign*t).natAbs:=by
  rw [hc,n64_]
  have:1≤(b.gcd t:Int).natAbs:=by omega
  calc c.natAbs=1*c.natAbs:=(Nat.one_mul _).symm
   _≤_:=Nat.mul_le_mul_right _ this
 omega
theorem Zgm (t:Int) {b:Int} (h:b≠0):(Rat.divInt t b).den≤b.natAbs:=by
 rw [Rat.den_divInt,if_neg h];exact Nat.div_le_self _ _
theorem B_divInt {n:Nat} {t b:Int} (h:b≠0) (h1:t.natAbs<2^n) (h2:b.natAbs<2^n):B n (Rat.divInt t b) :=
 ⟨n52_ (Zfs t h) h1,n52_ (Zgm t h) h2⟩
theorem gcd_one (q:Rat):Int.gcd q.num q.den=1:=by
 have:=q.reduced
 unfold Nat.Coprime at this
 simpa [Int.gcd] using this
theorem Zk7 {a b:Int} (hb:0<b) (h:Int.gcd a b=1):(Rat.divInt a b).num=a∧((Rat.divInt a b).den:Int)=b:=by
 rw [Rat.num_divInt,Rat.den_divInt,if_neg (by omega),Int.gcd_comm b a,h,Int.sign_eq_one_of_pos hb];constructor
 · simp
 · simp;omega
theorem whole (a:Int):(Rat.divInt a 1).num=a∧((Rat.divInt a 1).den:Int)=1:=Zk7 (by decide) (by simp)
end FM
namespace L2
open PySem PySem.Spec PyProof.Rows
theorem Zc5 {prog:Program} {w:World} {A:Around} {R:Result→Shared→Prop} {s:Shared} {elt target iter:Expr} {ifs:List Expr} {scope:Scope} {pos:Pos} {it acc:Value} {env:Env} (I:Nat→Shared→Prop)
 (turn:∀ n s,I n s→wpAny (model prog w) A (pyNext it) (fun r s₁=>match r with
   | none=>R (.ok .next) s₁
   | some v=>wpAny (model prog w) A (letOwnedTupleGo target it v) (fun _ s₀=>wpAny (model prog w) A (assign target env v) (fun _ s₂ =>
      wpAny (model prog w) A (forIn ifs true fun c r=>if r=true then do let ok ← isTrue c env (eval c env);pure (ForInStep.yield ok) else pure (ForInStep.yield r)) (fun ok s₃ =>
       if ok=true then wpAny (model prog w) A (eval elt env) (fun x s₄ =>
        wpAny (model prog w) A (call (.builtin "list.append") [acc,x]) (fun _ s₅=>∃ m,m<n∧I m s₅) (fun _ _=>False) s₄) (fun _ _=>False) s₃
       else ∃ m,m<n∧I m s₃) (fun _ _=>False) s₂) (fun _ _=>False) s₀) (fun _ _=>False) s₁) (fun _ _=>False) s)
 (n:Nat) (h:I n s) :
 codeAny (model prog w) A (.compLoop (.ListComp elt [⟨target,iter,ifs,0⟩] scope pos) 0 it acc env) R s:=by
 refine codeAny_loop rfl I (fun n s hI=>?_) n h;show wpAny _ A ((compTurn (.ListComp elt [⟨target,iter,ifs,0⟩] scope pos) 0 it acc env).onRaise (fun x=>do noteFrame x env;theTreesLotGoes x)) _ _ s
 refine wpAny_noted ?_;rw [compTurn_list];refine n0_ (wpAny_standAt (n0_ (n36_ (turn n s hI) (fun r s₁ h₁=>?_) fun _ _ h'=>h'.elim)));cases r with
 | none=>exact n4_ h₁
 | some v =>
   refine n0_ (n36_ h₁ (fun _ s₀ h₀=>?_) fun _ _ h'=>h'.elim);refine n0_ (n36_ h₀ (fun _ s₂ h₂=>n0_ (n36_ h₂ (fun ok s₃ h₃=>?_) fun _ _ h'=>h'.elim)) fun _ _ h'=>h'.elim);cases ok with
   | false=>exact n4_ ⟨rfl,h₃⟩
   | true =>
     exact n0_ (n0_ (n36_ h₃ (fun x s₄ h₄=>n0_ (n36_ h₄ (fun _ s₅ h₅=>n4_ (n4_ ⟨rfl,h₅⟩)) fun _ _ h'=>h'.elim)) fun _ _ h'=>h'.elim))
theorem Yi:∀ (names:List (Str×NameKind)) (n:Nat) (acc:List (Str×Addr)),cellsFrom n names acc=cellsFrom n names []++acc
 | [],_,_=>rfl
 | (x,k) :: r,n,acc=>by
   unfold cellsFrom;split
   · rw [Yi r (n+1) ((x,n) :: acc),Yi r (n+1) [(x,n)],List.append_assoc];rfl
   · exact Yi r n acc
theorem Zam {x:Str} {c:Addr}:∀ (names:List (Str×NameKind)) (n:Nat),(x,c)∈cellsFrom n names []→(x,NameKind.cell)∈names
 | [],_,h=>by simp [cellsFrom] at h
 | (y,k) :: r,n,h=>by
   unfold cellsFrom at h;split at h
   · rename_i hk
     rw [Yi] at h
     rcases n57_.mp h with h|h
     · exact n18_ _ (Zam r _ h)
     · cases n60_.mp h
       rw [show k=.cell by simpa using hk];exact n34_
   · exact n18_ _ (Zam r _ h)
theorem Zbw {names:List (Str×NameKind)} {n:Nat} {cl:List (Str×Addr)} {x:Str} {c:Addr} (h:(cellsFrom n names cl).lookup x=some c):(cellsFrom n names []).lookup x=some c∨cl.lookup x=some c:=by
 rw [Yi,List.lookup_append] at h;cases e:(cellsFrom n names []).lookup x with
 | none=>rw [e] at h;exact .inr h
 | some c'=>rw [e] at h;exact .inl h
theorem Zlk {M:Model} {A:Around} {E:Value→Shared→Prop} {s:Shared} {scope:Scope} {globals:Addr} {cl:List (Str×Addr)} {qual:Str} {env:Env} {Q:Env→Shared→Prop}
 (hQ:∀ h',h'.Ns s.z (fun _=>none)→(∀ b o,s.heap.get? b=some o→h'.get? b=some o)→CellsOk h' (s.z+1) (cellsFrom (s.z+1) scope.names []) →
   Q (newEnv scope s.z globals (cellsFrom (s.z+1) scope.names cl) qual none .none (some env) builtinsNs) { s with heap:=h' }) :
 wpAny M A (newFunctionEnv scope globals cl [] qual none .none (some env)) Q E s:=by
 simp only [newFunctionEnv,Option.isSome_some,if_true];refine n0_ (wpAny_alloc ?_);refine n0_ (wpAny_layCells _ (fun name kind cells=>by cases hkc:kind == NameKind.cell<;>simp [hkc]) _ _ _ _ ?_);have ok:=cellsFrom_ok scope.names (s.heap.push { cls:=.type "dict",data:=.dict #[] }) (s.z+1) [] ⟨fun _ _ hm=>(nomatch hm),List.Pairwise.nil⟩ (by rw [n50_];exact n6_ _);rw [n50_] at ok;rw [show ({ s with heap:=s.heap.push { cls:=.type "dict",data:=.dict #[] } }:Shared).heap.objs.size=s.z+1 from n50_ ..];rw [List.forIn_nil];exact n0_ (n4_ (n4_ (hQ _ ((Heap.Ns.new s.heap (.type "dict")).keeps (pushCells_keeps _ _)) (fun b o e=>pushCells_keeps _ _ b o (n2_ _ e)) ok)))
def blk (X:Cx) (scope:Scope) (cl:List (Str×Addr)) (C:Addr) (N:List Str) (s3:Shared) (H3:Hp) (fp:List Addr):Cx where
 prog:=X.prog
 w:=X.w
 K:=X.K
 mg:=X.mg
 base:=X.base
 A:=X.A
 N:=N
 s₀:=s3
 H₀:=H3
 env:=compEnvC scope (cellsFrom (C+1) scope.names cl) C X.env
 outer:=X.stack
 stack:=X.stack
 ex:=fp
 fn:=fun x=>scope.names.lookup x == some .cell
 calm:=X.calm
 pn:=[]
 xe:=fun _ _=>False
structure LcO (X:Cx) (scope:Scope) (cl:List (Str×Addr)) (N:List Str) (fr:List (Option Nat)):Prop where
 clos:closureFor scope X.env=pure cl
 sub:∀ x c,cl.lookup x=some c→X.env.cells.lookup x=some c
 has:∀ x,((relabel scope X.env).names.lookup x=some .cell∨(relabel scope X.env).names.lookup x=some .free)→scope.names.lookup x=some .cell∨∃ c,cl.lookup x=some c
 kind:scope.kind=.function
 names:∀ y∈scope.names,y.2=.local→scope.names.lookup y.1=some .local
 len:fr.length=N.length
 from':∀ (i j:Nat),fr[i]? = some (some j)→∃ x,N[i]? = some x∧X.N[j]? = some x∧(X.env.scope.names.lookup x=some .cell∨X.env.scope.names.lookup x=some .free)∧((relabel scope X.env).names.lookup x=some .cell∨(relabel scope X.env).names.lookup x=some .free)∧(∃ c,cl.lookup x=some c)∧(x,NameKind.cell)∉scope.names
def Zbv (fr:List (Option Nat)) (σ:St):St:=fr.map fun o=>match o with
 | some j=>match σ[j]? with
   | some v=>v
   | none=>none
 | none=>none
theorem pgB {X:Cx} {scope:Scope} {cl:List (Str×Addr)} {C:Addr} {N:List Str} {s3:Shared} {H3:Hp} {fp:List Addr} {x:Str} {pos:Pos} (i:Nat) (hN:N.Nodup:=by decide) (hi:N[i]? = some x:=by rfl) (hf:(blk X scope cl C N s3 H3 fp).env.scope.names.lookup x=some .local:=by rfl):PG (blk X scope cl C N s3 H3 fp) (.Name x pos) (Xn i):=Zo hN hi (.inl hf) (.inr hf)
theorem Zqr {P:Program} {w:World} {H:Hp} {h h':Heap} {a:Addr} (ok:HOk P w H h) (hfree:H a=none) (hs:Heap.SameBut a h h'):HOk P w H h':=fun b ob e=>by
 refine (ok b ob e).stay (fun c w' hc q=>(hs.2 c ?_).trans q) (fun _ q=>q) fun _ _ q=>q;rintro rfl
 rcases hc with rfl|hc
 · rw [hfree] at e;cases e
 · rw [hfree] at hc;cases hc
theorem Znk {X:Cx} {pins:List (Addr×Obj)} {σ:St} {H:Hp} {s3:Shared} {h1:Heap} {scope:Scope} {cl:List (Str×Addr)} {N:List Str} {fr:List (Option Nat)} {fp:List Addr} (L:LcO X scope cl N fr) (I:Inv X pins σ H s3) (co:CellsOk h1 (s3.z+1) (cellsFrom (s3.z+1) scope.names []))
 (hf:∀ b∈fp,FpOk X pins H b) (hlt:∀ b∈fp,b<s3.z):(blk X scope cl s3.z N s3 H fp).Ok where
 mod:=I.ok.mod
 kind:=L.kind
 glob:=I.ok.glob
 blt:=I.ok.blt
 above:=n6_ _
 inj:=fun x y c h1 h2=>by
  have old:∀ z,cl.lookup z=some c→c<s3.z:=fun z e=>let ⟨_,k⟩:=I.cell z c (L.sub z c e);k.lt;have new:∀ z,(cellsFrom (s3.z+1) scope.names []).lookup z=some c→s3.z+1≤c:=fun z e=>(co.empty z c (n28_ e)).2
  rcases Zbw h1 with a|a<;>rcases Zbw h2 with b|b
  · exact name_of_addr co.apart (n28_ a) (n28_ b)
  · exact absurd (n9_ (old y b) (Nat.le_of_succ_le (new x a))) (n63_ _)
  · exact absurd (n9_ (old x a) (Nat.le_of_succ_le (new y b))) (n63_ _)
  · exact I.ok.inj x y c (L.sub x c a) (L.sub y c b)
 has:=fun x h=>by
  refine Option.isSome_iff_exists.mp (PySem.W.cellsFrom_some scope.names (s3.z+1) cl ?_)
  rcases L.has x h with z|⟨c,z⟩
  · exact .inl z
  · exact .inr (by rw [z];rfl)
 cab:=fun x c h e=>by
  obtain ⟨c',e'⟩:=Z9 (sc:=scope) (n:=s3.z+1) (beq_iff_eq.mp (show (scope.names.lookup x == some .cell)=true from h));have e2:(cellsFrom (s3.z+1) scope.names cl).lookup x=some c:=e;rw [Yi,List.lookup_append,e'] at e2;have e3:c'=c:=Option.some.inj e2;subst e3;exact Nat.le_of_succ_le (co.empty x c' (n28_ e')).2
 hd:=I.ok.hd
 frames:=I.ok.frames
 stk:=.inl rfl
 exf:=fun b hb=>⟨n24_ (hlt b hb),fun x c h=>by
  rcases Zbw h with a|a
  · exact n56_ (n9_ (hlt b hb) (Nat.le_of_succ_le (co.empty x c (n28_ a)).2))
  · exact (hf b hb).2.2.2.2.1 x c (L.sub x c a)⟩
 bs:=I.bs
 bsz:=n32_ I.ok.bsz I.sz
 noex:=fun b o e hb=>by
  rcases (hf b hb).2.2.2.1 with z|z
  · exact I.ok.noex b o e z
  · exact absurd (n9_ (n7_ e) (n32_ I.ok.bsz z)) (n63_ _)
 exfs:=fun b hb z=>by
  rcases n14_.mp (I.stkSub b z) with e|e
  · exact (hf b hb).2.1 e
  · exact (hf b hb).2.2.1 e
 funs:=I.stack
 frf:=I.stkFree
theorem Zna {X:Cx} {pins:List (Addr×Obj)} {σ:St} {H:Hp} {s3:Shared} {h1:Heap} {t:Nat} {scope:Scope} {cl:List (Str×Addr)} {N:List Str} {fr:List (Option Nat)} {fp:List Addr} (L:LcO X scope cl N fr) (I:Inv X pins σ H s3) (co:CellsOk h1 (s3.z+1) (cellsFrom (s3.z+1) scope.names []))
 (hf:∀ b∈fp,FpOk X pins H b) (hlt:∀ b∈fp,b<s3.z) {m0:Str→Option Value} (hns:h1.Ns s3.z m0) (hk:∀ b o,s3.heap.get? b=some o→h1.get? b=some o) :
 Inv (blk X scope cl s3.z N s3 H fp) [] (Zbv fr σ) H { s3 with heap:=h1,toks:=t } where
 ok:=Znk L I co hf hlt
 os:=rfl
 bare:=I.bare
 base:=Un.kept hk
 loc:=⟨m0,hns,fun i x v e1 e2 e3=>by
  unfold Zbv at e2;rw [n11_] at e2;cases q:fr[i]? with
  | none=>rw [q] at e2;cases e2
  | some o =>
    rw [q] at e2;cases o with
    | none=>cases e2
    | some j =>
      obtain ⟨y,n1,n2,n3,n4,⟨c,hc⟩,n6⟩:=L.from' i j q;have e1':N[i]? = some x:=e1;rw [n1] at e1';cases e1'
      have e2':(match σ[j]? with|some v=>v|none=>none)=some v:=Option.some.inj e2
      have e2'':σ[j]? = some (some v):=by
       cases z:σ[j]? with
       | none=>rw [z] at e2';cases e2'
       | some w'=>rw [z] at e2';rw [show w'=some v from e2']
      obtain ⟨m,_,hl⟩:=I.loc;obtain ⟨u,r,lk⟩:=hl j x v n2 e2'' (.inr n3);refine ⟨u,r,.inr ⟨n4,c,?_,?_⟩⟩
      · show (cellsFrom (s3.z+1) scope.names cl).lookup x=some c
        rw [Yi,List.lookup_append];cases z:(cellsFrom (s3.z+1) scope.names []).lookup x with
        | none=>exact hc
        | some c'=>exact absurd (Zam _ _ (n28_ z)) n6
      rcases lk with ⟨k,_⟩|⟨k,c',hc',z⟩
      · exfalso
        have k':X.env.scope.names.lookup x=some .local:=k
        rcases n3 with z|z<;>rw [k'] at z<;>cases z
      · rw [L.sub x c hc] at hc';cases hc'
        obtain ⟨o,ho,hd⟩:=z;exact ⟨o,hk _ _ ho,hd⟩⟩
 cell:=fun x c e=>by
  rcases Zbw e with a|a
  · exact ⟨none,(co.empty x c (n28_ a)).1⟩
  · obtain ⟨v,o,ho,hd⟩:=I.cell x c (L.sub x c a);exact ⟨v,o,hk _ _ ho,hd⟩
 free:=I.hok.fresh (n6_ _)
 freeC:=fun x c e=>by
  rcases Zbw e with a|a
  · exact .inl (I.hok.fresh (Nat.le_of_succ_le (co.empty x c (n28_ a)).2))
  · refine (I.freeC x c (L.sub x c a)).imp id fun ⟨_,z⟩=>⟨Bool.eq_false_iff.mpr fun q=>?_,z⟩;obtain ⟨v,oc,hoc,_⟩:=I.cell x c (L.sub x c a);obtain ⟨c',e'⟩:=Z9 (sc:=scope) (n:=s3.z+1) (beq_iff_eq.mp (show (scope.names.lookup x == some .cell)=true from q));have e2:(cellsFrom (s3.z+1) scope.names cl).lookup x=some c:=e;rw [Yi,List.lookup_append,e'] at e2;cases e2
    exact absurd (n9_ (n7_ hoc) (Nat.le_of_succ_le (co.empty x c (n28_ e')).2)) (n63_ _)
 pin:=fun p hp=>absurd (show p∈([]:List (Addr×Obj)) from hp) (by simp)
 hok:=I.hok.kept hk
 len:=by
  unfold Zbv;rw [n23_];exact L.len
def PIfs (X:Cx) (ifs:List Expr) (t:TT):Prop :=
 ∀ (pins:List (Addr×Obj)) (s:Shared) (σ:St) (H:Hp) (Q:Bool→Hp→Prop),Inv X pins σ H s→t σ H Q →
   wpAny (model X.prog X.w) X.A (forIn ifs true fun c r=>if r=true then do let ok ← isTrue c X.env (eval c X.env);pure (ForInStep.yield ok) else pure (ForInStep.yield r)) (TP X pins σ Q) X.xe s
def tYes:TT:=fun _ H Q=>Q true H
theorem Zmz {i:Nat} {x:V} {σ:St} {H:Hp} {A B:St→Hp→Prop} (h:A (σ.set i (some x)) H):Xn i x σ H fun σ4 H4=>tYes σ4 H4 fun b H5=>if b=true then A σ4 H5 else B σ4 H5:=h
theorem Zw {X:Cx}:PIfs X [] tYes:=fun _ _ _ H _ I h=>wpAny_tests_nil ⟨H,I,h⟩
theorem Zgf {X:Cx} {c:Expr} {t:TT} (h:PT X c t):PIfs X [c] t:=fun pins s σ H Q I hw=>wpAny_tests_one (h pins s σ H Q I hw)
def LcGo (J:It) (g:TG) (tt:TT) (te:TE) (σ0:St) (H1:Hp) (D:Addr) (Q:VK):Prop:=∃ W:Nat→Nat→St→Hp→Prop,(∃ m,W 0 m σ0 (upd H1 D (.lst []))) ∧
 ∀ i m σ2 H2,W i m σ2 H2→(J.stop i H2∧Q (.ref D) H2)∨(J.go i H2∧∀ x H3,J.yld i H2 x H3→g x σ2 H3 fun σ4 H4=>tt σ4 H4 fun b H5=>if b=true then te σ4 H5 fun y H6=>∃ ys,H6 D=some (.lst ys)∧ys.length<sizeLine ∧
   ∃ m',m'<m∧W (i+1) m' σ4 (upd H6 D (.lst (ys++[y]))) else ∃ m',m'<m∧W (i+1) m' σ4 H5)
def tLC (wi:TI) (g:TG) (tt:TT) (te:TE) (fr:List (Option Nat)):TE:=fun σ H Q=>wi σ H fun J H1=>∀ D,H1 D=none→LcGo J g tt te (Zbv fr σ) H1 D Q
abbrev NoX:Value→Shared→Prop:=fun _ _=>False
theorem Zms {X:Cx} {pins:List (Addr×Obj)} {σ σ7:St} {H3 H7:Hp} {s3 s7:Shared} {scope:Scope} {cl:List (Str×Addr)} {N:List Str} {fp:List Addr} (I3:Inv X pins σ H3 s3) (f3:∀ b∈fp,FpOk X pins H3 b) (I7:Inv (blk X scope cl s3.z N s3 H3 fp) [] σ7 H7 s7) :
 ∃ m7,s7.heap.Ns s3.z m7∧∀ h8,Heap.SameBut s3.z s7.heap h8→Inv X pins σ H7 { s7 with heap:=h8 }:=by
 obtain ⟨m7,hn7,_⟩:=I7.loc;refine ⟨m7,hn7,fun h8 sb8=>?_⟩;have un:=I7.base;have neC:∀ b o,s3.heap.get? b=some o→b≠s3.z:=fun b o e=>n24_ (n7_ e);refine I3.call' (s':={ s7 with heap:=h8 }) (ch:=fp) I7.os ?_ (Zqr I7.hok I7.free sb8) I7.bare (fun b hb=>⟨(f3 b hb).2.2.2.1,(f3 b hb).2.1,(f3 b hb).2.2.2.2.1,(f3 b hb).2.2.2.2.2⟩);refine ⟨fun b o e n' hb hx=>?_,fun b o e n' hb hx=>?_,un.free,fun b o e hx=>?_,un.tups,un.frzs,un.tbls⟩
 · exact sb8.extBut b o (neC b o e) (un.keep b o e n' hb hx)
 · obtain ⟨sl,q⟩:=un.slot b o e n' hb hx;exact ⟨sl,sb8.extBut b _ (neC b o e) q⟩
 · obtain ⟨o',q⟩:=un.there b o e hx;exact ⟨o',sb8.extBut b _ (neC b o e) q⟩
def Zni (M:Model) (A:Around) (tg:Expr) (it:Value) (env:Env) (R:Result→Shared→Prop) (B:Nat→Shared→Prop) (n:Nat) (s:Shared):Prop :=
 wpAny M A (pyNext it) (fun r s1=>match r with
  | none=>R (.ok .next) s1
  | some v=>wpAny M A (letOwnedTupleGo tg it v) (fun _ s0=>wpAny M A (assign tg env v) (fun _ s2=>B n s2) NoX s0) NoX s1) NoX s
theorem Zgd {X:Cx} {pins:List (Addr×Obj)} {σ:St} {H2:Hp} {s2:Shared} {scope:Scope} {cl:List (Str×Addr)} {N:List Str} {fr:List (Option Nat)} {tg:Expr} {g:TG} {J:It} {fp:List Addr} {it:Addr} {tn:Nat→Heap→Prop} {ac:HO} {o0:Obj} {W:Nat→Nat→St→Hp→Prop} {m0:Nat} {Qn:Hp→Prop} {Kn:Nat→Nat→St→Hp→Prop} {c:Expr} {R:Addr→Result→Shared→Prop} {B:(Nat→Shared→Prop)→Nat→Shared→Prop} {s3:Shared}
 (hs3:s3={ s2 with heap:=s2.heap.push o0 }) (hc:X.calm=true) (L:LcO X scope cl N fr) (hg:∀ C s3 H3 fp,PG (blk X scope cl C N s3 H3 fp) tg g)
 (I2:Inv X pins σ H2 s2) (T:Turn X.prog X.w X.K tg J fp it tn) (st2:tn 0 s2.heap) (f2:∀ b∈fp,FpOk X pins H2 b)
 (ok0:ObjOk X.prog X.w (upd H2 s2.z ac) (s2.heap.push o0) s2.z ac) (w0:W 0 m0 (Zbv fr σ) (upd H2 s2.z ac))
 (turn:∀ i m σ2 H2,W i m σ2 H2→(J.stop i H2∧Qn H2)∨(J.go i H2∧∀ x H3,J.yld i H2 x H3→g x σ2 H3 (Kn i m)))
 (start:∀ env s4,codeAny (model X.prog X.w) X.A (.compLoop c 0 (.ref it) (.ref s2.z) env) (R s3.z) s4→(∀ E,wpAny (model X.prog X.w) X.A (pyIter (.ref it)) (fun it' s'=>codeAny (model X.prog X.w) X.A (.compLoop c 0 it' (.ref s2.z) env) (R s3.z) s') E s4)→codeAny (model X.prog X.w) X.A (.compStart c 0 (.ref it) (.ref s2.z) env) (R s3.z) s4)
 (loop:∀ (LI:Nat→Shared→Prop) s4,(∀ n s,LI n s→Zni (model X.prog X.w) X.A tg (.ref it) (blk X scope cl s3.z N s3 (upd H2 s2.z ac) fp).env (R s3.z) (B LI) n s)→∀ n,LI n s4→codeAny (model X.prog X.w) X.A (.compLoop c 0 (.ref it) (.ref s2.z) (blk X scope cl s3.z N s3 (upd H2 s2.z ac) fp).env) (R s3.z) s4)
 (stop:∀ H7 s7,Qn H7→Inv X pins σ (upd H2 s2.z ac) s3→H7 s3.z=none→(∃ m7,s7.heap.Ns s3.z m7∧∀ h8,Heap.SameBut s3.z s7.heap h8→Inv X pins σ H7 { s7 with heap:=h8 })→R s3.z (.ok .next) s7)
 (body:∀ (LI:Nat→Shared→Prop) n i σ9 H9 s9 ps,Inv (blk X scope cl s3.z N s3 (upd H2 s2.z ac) fp) ps σ9 H9 s9→Kn i n σ9 H9→(∀ {s11:Shared} {σ11:St} {H11:Hp} {m':Nat},Inv (blk X scope cl s3.z N s3 (upd H2 s2.z ac) fp) ps σ11 H11 s11→m'<n→W (i+1) m' σ11 H11→∃ m,m<n∧LI m s11)→B LI n s9) :
 wpAny (model X.prog X.w) X.A (newFunctionEnv scope X.env.globals cl [] X.env.qual none .none (some X.env)) (fun cenv s4=>codeAny (model X.prog X.w) X.A (.compStart c 0 (.ref it) (.ref s2.z) { cenv with scope:=relabel scope X.env }) (R cenv.locals) s4) X.xe s3:=by
 have fplt:∀ b∈fp,b<s2.z:=fun b hb=>by
  obtain ⟨o,q,_⟩:=T.obj _ _ st2 b hb;exact n7_ q
 have k3:∀ b o,s2.heap.get? b=some o→s3.heap.get? b=some o:=fun b o e=>by rw [hs3];exact n2_ _ e
 have I3:Inv X pins σ (upd H2 s2.z ac) s3:=by rw [hs3];exact I2.laid (t':=s2.toks) (fun b o e=>n2_ _ e) (n6_ _) ok0
 have f3:∀ b∈fp,FpOk X pins (upd H2 s2.z ac) b:=fun b hb=>⟨by rw [Zs (n24_ (fplt b hb))];exact (f2 b hb).1,(f2 b hb).2⟩;have st3:tn 0 s3.heap:=T.keep _ _ _ st2 fun b hb o e=>k3 b o e
 have fplt3:∀ b∈fp,b<s3.z:=fun b hb=>by
  obtain ⟨o,q,_⟩:=T.obj _ _ st2 b hb;exact n7_ (k3 _ _ q)
 generalize upd H2 s2.z ac=H3 at *;refine Zlk fun h1 hns1 k4 ok3=>?_;have I4:=Zna (t:=s3.toks) L I3 ok3 f3 fplt3 hns1 k4;have st4:tn 0 h1:=T.keep _ _ _ st3 fun b hb o e=>k4 b o e
 have fpB:∀ {H':Hp} (b:Addr),b∈fp→H' b=none→FpOk (blk X scope cl s3.z N s3 H3 fp) [] H' b:=fun b hb hn =>
  ⟨hn,n24_ (fplt3 b hb),fun z=>(Znk L I3 ok3 f3 fplt3).exfs b hb z,.inl hb,fun x c e=>((Znk L I3 ok3 f3 fplt3).exf b hb).2 x c e,fun p hp=>absurd (show p∈([]:List (Addr×Obj)) from hp) (by simp)⟩
 have lp:=loop (fun n s'=>∃ i σ' H',Inv (blk X scope cl s3.z N s3 H3 fp) [] σ' H' s'∧tn i s'.heap∧(∀ b∈fp,H' b=none)∧W i n σ' H') { s3 with heap:=h1 } (fun n s6=>?_) m0 ⟨0,_,_,I4,st4,fun b hb=>(f3 b hb).1,w0⟩
 · exact start _ _ lp fun E=>T.self _ 0 _ _ _ st4 lp
 · rintro ⟨i,σ6,H6,I6,st6,fr6,w6⟩
   unfold Zni
   rcases turn i n σ6 H6 w6 with ⟨sp,qn⟩|⟨go,step⟩
   · refine thn (T.done (blk X scope cl s3.z N s3 H3 fp) rfl rfl rfl hc i [] s6 σ6 H6 (fun _ _=>False) I6 (fun b hb=>fpB b hb (fr6 b hb)) st6 sp) fun r s7 ⟨hr,I7⟩=>?_;subst hr;exact stop _ _ qn I3 I7.free (Zms I3 f3 I7)
   · refine thn (T.item (blk X scope cl s3.z N s3 H3 fp) rfl rfl rfl hc i [] s6 σ6 H6 (fun _ _=>False) I6 (fun b hb=>fpB b hb (fr6 b hb)) st6 go) fun r s7 ⟨u,hr,h7⟩=>?_;subst hr;refine thn h7 fun _ s8 ⟨x,H8,I8,r8,y8,st8,fr8⟩=>?_;have I8':=I8.pinned (fun b hb=>fpB b hb (fr8 b hb)) (T.obj _ _ st8);refine thn (hg _ _ _ _ _ s8 σ6 H8 x u _ I8' r8 (step x H8 y8)) fun _ s9 ⟨σ9,H9,I9,q9⟩=>?_;refine body _ n i σ9 H9 s9 _ I9 q9 fun {s11 σ11 H11 m'} I11 hm w11=>?_;refine ⟨m',hm,i+1,σ11,H11,I11.unpinned,T.keep _ _ _ st8 fun b hb o e=>(I11.pin (b,o) (n29_ _ (n29_ _ (Xi hb e)))).1,fun b hb=>?_,w11⟩;obtain ⟨o,e,d⟩:=T.obj _ _ st8 b hb;exact (I11.pin (b,o) (n29_ _ (n29_ _ (Xi hb e)))).2.1
theorem Zmg {X:Cx} {scope:Scope} {cl:List (Str×Addr)} {N:List Str} {ifs:List Expr} {elt:Expr} {tt:TT} {te:TE} {D:Addr} {W:Nat→Nat→St→Hp→Prop} {C0:Addr} {s30:Shared} {H30:Hp} {fp0:List Addr}
 (ht:∀ C s3 H3 fp,PIfs (blk X scope cl C N s3 H3 fp) ifs tt) (he:∀ C s3 H3 fp,PE (blk X scope cl C N s3 H3 fp) elt te) (LI:Nat→Shared→Prop) (n i:Nat) (σ9:St) (H9:Hp) (s9:Shared) (ps:List (Addr×Obj)) (I9:Inv (blk X scope cl C0 N s30 H30 fp0) ps σ9 H9 s9)
 (q9:tt σ9 H9 fun b H5=>if b=true then te σ9 H5 fun y H6=>∃ ys,H6 D=some (.lst ys)∧ys.length<sizeLine∧∃ m',m'<n∧W (i+1) m' σ9 (upd H6 D (.lst (ys++[y]))) else ∃ m',m'<n∧W (i+1) m' σ9 H5)
 (again:∀ {s11:Shared} {σ11:St} {H11:Hp} {m':Nat},Inv (blk X scope cl C0 N s30 H30 fp0) ps σ11 H11 s11→m'<n→W (i+1) m' σ11 H11→∃ m,m<n∧LI m s11) :
 wpAny (model X.prog X.w) X.A (forIn ifs true fun c r=>if r=true then do let ok ← isTrue c (blk X scope cl C0 N s30 H30 fp0).env (eval c (blk X scope cl C0 N s30 H30 fp0).env);pure (ForInStep.yield ok) else pure (ForInStep.yield r)) (fun ok s₃ =>
  if ok=true then wpAny (model X.prog X.w) X.A (eval elt (blk X scope cl C0 N s30 H30 fp0).env) (fun x s₄ =>
   wpAny (model X.prog X.w) X.A (call (.builtin "list.append") [.ref D,x]) (fun _ s₅=>∃ m,m<n∧LI m s₅) (fun _ _=>False) s₄) (fun _ _=>False) s₃
  else ∃ m,m<n∧LI m s₃) (fun _ _=>False) s9:=by
 refine thn (ht _ _ _ _ ps s9 σ9 H9 _ I9 q9) fun b s10 ⟨H10,I10,q10⟩=>?_;cases b with
 | false =>
   obtain ⟨m',hm,w11⟩:=q10;exact again I10 hm w11
 | true =>
   refine thn (he _ _ _ _ ps s10 σ9 H10 _ I10 q10) fun y s11 ⟨yv,H11,I11,r11,ys,hys,hz,m',hm,w11⟩=>?_
   have ap:=Zdz (X:=blk X scope cl C0 N s30 H30 fp0) _ s11 σ9 H11 (.ref D) [yv] (.ref D) [y] (fun _ H'=>W (i+1) m' σ9 H') I11 rfl (.cons r11 .nil)
    ⟨_,ys,yv,rfl,rfl,hys,hz,w11⟩
   exact thn ap fun _ s12 ⟨_,H12,I12,_,q12⟩=>again I12 hm q12
theorem Zm9 {X:Cx} {pins:List (Addr×Obj)} {σ:St} {Q:VK} {H7:Hp} {s7:Shared} {C D:Addr} (qn:Q (.ref D) H7) (c:∃ m7,s7.heap.Ns C m7∧∀ h8,Heap.SameBut C s7.heap h8→Inv X pins σ H7 { s7 with heap:=h8 }):compPost (model X.prog X.w) X.A X.xe none (EP X pins σ Q) (.ref D) C (.ok .next) s7 :=
 let ⟨m7,hn7,c7⟩:=c
 ⟨m7,hn7,fun h8 sb8=>⟨.ref _,H7,c7 h8 sb8,rfl,qn⟩⟩
theorem Xg {X:Cx} {tg elt iter:Expr} {ifs:List Expr} {scope:Scope} {cl:List (Str×Addr)} {N:List Str} {fr:List (Option Nat)} {pos:Pos} {wi:TI} {g:TG} {tt:TT} {te:TE}
 (hc:X.calm=true) (L:LcO X scope cl N fr) (hi:PI X tg iter wi) (hg:∀ C s3 H3 fp,PG (blk X scope cl C N s3 H3 fp) tg g)
 (ht:∀ C s3 H3 fp,PIfs (blk X scope cl C N s3 H3 fp) ifs tt) (he:∀ C s3 H3 fp,PE (blk X scope cl C N s3 H3 fp) elt te)
 (hs:∀ x,foldedSetIterable iter X.env x=pure x:=by intro _;rfl):PE X (.ListComp elt [⟨tg,iter,ifs,0⟩] scope pos) (tLC wi g tt te fr):=by
 intro pins s σ H Q I h;rw [eval_ListComp];refine wpAny_comprehension_free (use:=none) rfl hs L.clos L.kind L.names (thn (hi pins s σ H _ I h) fun v s1 h1=>thn h1 fun itv s2 h2=>?_);obtain ⟨it,fp,tn,J,H2,e,I2,T,st2,f2,h⟩:=h2;subst e;obtain ⟨W,⟨m0,w0⟩,turn⟩:=h s2.z (I2.hok.fresh (n6_ _));refine wpAny_newObj_type ?_;refine Zgd (ac:=.lst []) rfl hc L hg I2 T st2 f2 ⟨n43_ _,[],_,.nil,n10_ _ rfl⟩ w0 turn (fun _ _ a b=>codeAny_compStart_list a (b _)) (fun LI s4 t n h=>Zc5 LI t n h) (fun H7 s7 qn _ _ c=>Zm9 qn c) (Zmg ht he)
def LcN (n:Nat) (Pv:Nat→St→Hp→Prop) (i m:Nat) (σ:St) (H:Hp):Prop:=i≤n∧m=n-i∧Pv i σ H
theorem Zkj {n i:Nat} {Pv:Nat→St→Hp→Prop} {σ:St} {H:Hp} {D:Addr} {ys:List V} {y:V} (hi:i<n) (hD:H D=some (.lst ys)) (hl:ys.length<sizeLine) (p:Pv (i+1) σ (upd H D (.lst (ys++[y])))) :
 ∃ ys,H D=some (.lst ys)∧ys.length<sizeLine∧∃ m',m'<n-i∧LcN n Pv (i+1) m' σ (upd H D (.lst (ys++[y]))):=⟨ys,hD,hl,n-(i+1),by omega,by omega,rfl,p⟩
section
variable {X:Cx}
def Ztr (i j:Int):Prop:=j≠0∧j.natAbs<2^8999
theorem Zpo {a n:Nat} (h:a<2^n) (hn:0<n):a.log2<n:=by
 rcases Nat.eq_zero_or_pos a with rfl|hp
 · simpa using hn
 · exact (Nat.log2_lt (n56_ hp)).mpr h
theorem Zce:OpR X (binaryOp .FloorDiv) (rI Ztr fun i j=>.int (i.fdiv j)):=opI fun _ _ _ _ _ _ _ hc q=>floordiv_int hc.1 q (.inl (PyProof.noPylong_of_log2 (Nat.lt_trans (Zpo hc.2 (by decide)) (by decide))))
def CMulB (i j:Int):Prop:=i.natAbs<2^1000000∧j.natAbs<2^1000000
theorem Zip {i:Int} {n:Nat} (h:i.natAbs<2^n) (hn:0<n):Builtin.Int.intBits i≤n:=by
 unfold Builtin.Int.intBits;split
 · exact n43_ _
 · exact Zpo h hn
theorem CMulB.ok {i j:Int} (h:CMulB i j):IntMulOk i j:=by
 unfold IntMulOk;have h1:=Zip h.1 (by decide);have h2:=Zip h.2 (by decide)
 have:Builtin.Int.intTooBig (Builtin.Int.intBits i+Builtin.Int.intBits j:Nat)=false:=by
  unfold Builtin.Int.intTooBig bitsLine;refine n8_ ?_;omega
 intro z;rw [n27_] at z;rw [show ((Builtin.Int.intBits i:Int)+(Builtin.Int.intBits j:Int))=((Builtin.Int.intBits i+Builtin.Int.intBits j:Nat):Int) by omega,this] at z;exact absurd z.2 (by decide)
theorem Xf:OpR X (binaryOp .Mult) (rI CMulB fun i j=>.int (i*j)):=opI fun _ _ _ _ _ _ _ hc q=>mul_int q hc.ok
theorem Zge:∀ {ns:List Int} {us:List Value},Vals (ns.map V.int) us→∀ j (h:j<us.length),∃ t,us[j]=Value.int (ns.getD j 0) t
 | [],_,.nil,j,h=>absurd h (by simp)
 | n :: ns,u :: us,.cons r t,0,h=>by
   obtain ⟨k,rfl⟩:=(show ∃ k,u=Value.int n k from r);exact ⟨k,rfl⟩
 | n :: ns,u :: us,.cons r t,j+1,h=>by
   obtain ⟨k,e⟩:=Zge t j (by simpa using h);exact ⟨k,by simpa using e⟩
def eqNs (ns ms:List Int):Bool:=(List.range (min ns.length ms.length)).all (fun j=>ns.getD j 0 == ms.getD j 0)&&ns.length == ms.length
theorem Zoy {ns ms:List Int}:eqNs ns ms=decide (ns=ms):=by
 unfold eqNs
 by_cases h:ns=ms
 · subst h
   simp
 · rw [n8_ h];rw [Bool.and_eq_false_iff]
   by_cases hl:ns.length=ms.length
   · left
     rw [Bool.eq_false_iff];intro z;rw [n33_] at z;apply h
     apply List.ext_getElem hl
     intro i h1 h2
     have:=z i (by simp;omega)
     simpa [h1,h2] using this
   · right
     simpa using hl
def rEqT (K:PySem.W.Frag) (neg:Bool):R2:=fun x y H Q=>∃ (a b:Addr) (ns ms:List Int),x=.ref a∧y=.ref b∧SqT K H a (ns.map V.int)∧SqT K H b (ms.map V.int)∧Q (.bl (if neg then !decide (ns=ms) else decide (ns=ms))) H
theorem Zm6 {A:Around} {s:Shared} {ns ms:List Int} {us ws:List Value} (r1:Vals (ns.map V.int) us) (r2:Vals (ms.map V.int) ws) (j:Nat) (h1:j<us.toArray.size) (h2:j<ws.toArray.size):SeqAt.EqAt A s us.toArray[j] ws.toArray[j] (ns.getD j 0 == ms.getD j 0):=by
 simp only [n5_] at h1 h2;simp only [List.getElem_toArray];obtain ⟨t,e⟩:=Zge r1 j h1;obtain ⟨t',e'⟩:=Zge r2 j h2;rw [e,e'];exact SeqAt.EqAt.int_int _ _ _ _
theorem Zsr (hu:X.A.units<cLine):OpR X (compareOp .Eq) (rEqT X.K false):=by
 intro pins s σ H x y v u Q I rx ry h;obtain ⟨a,b,ns,ms,rfl,rfl,h1,h2,q⟩:=h;cases rx;cases ry
 obtain ⟨us,r1,p1,_⟩:=I.tuple h1;obtain ⟨ws,r2,p2,_⟩:=I.tuple h2;refine SeqAt.eq_tupleAt (e:=fun j=>ns.getD j 0 == ms.getD j 0) p1 p2 hu (fun j h1 h2=>Zm6 r1 r2 j h1 h2) ⟨.bl _,H,I,rfl,?_⟩;have l1:=r1.length;have l2:=r2.length;rw [n23_] at l1 l2;rw [n5_,n5_,← l1,← l2];rw [show ((List.range (min ns.length ms.length)).all (fun j=>ns.getD j 0 == ms.getD j 0)&&ns.length == ms.length)=eqNs ns ms from rfl,Zoy];exact q
theorem Yn:Xz X (.builtin "isinstance") (fun xs H Q=>∃ x T t b,xs=[x,.ty T]∧TyOf X.K H x t∧PySem.W.kitOne X.K t (.type T)=some b∧Q (.bl b) H):=by
 intro pins s σ H xs us Q I r h;obtain ⟨x,T,t,b,rfl,ty,e,q⟩:=h;cases r with
 | cons rx r =>
   cases r with
   | cons ry r =>
     cases r
     cases (show _=Value.type T from ry)
     exact Znu I rx ty e fun tk=>⟨.bl b,H,I.tok _,rfl,q⟩
theorem Zcp:∀ {bs:List Bool} {us:List Value} {i:Nat} {v:Value},Vals (bs.map V.bl) us→us[i]? = some v→∃ b,bs[i]? = some b∧v=Value.bool b
 | [],_,i,v,.nil,e=>by simp at e
 | b :: bs,u :: us,0,v,.cons r t,e=>by
   simp at e;subst e;exact ⟨b,rfl,r⟩
 | b :: bs,u :: us,i+1,v,.cons r t,e=>by
   obtain ⟨c,h1,h2⟩:=Zcp t (by simpa using e);exact ⟨c,by simpa using h1,h2⟩
theorem Zez:∀ (bs:List Bool),((List.range bs.length).all fun i=>(bs[i]?).getD true)=bs.all id
 | []=>rfl
 | b :: bs=>by
   rw [n16_,List.range_succ_eq_map,List.all_cons,List.all_map,List.all_cons,← Zez bs];rfl
theorem Zl3 {s:Shared} {h':Heap} {o:Obj} (hk:∀ b x,b∉[s.z]→(s.heap.push o).get? b=some x→h'.get? b=some x):∀ b x,s.heap.get? b=some x→h'.get? b=some x :=
 fun b x e=>hk b x (fun hm=>by rw [n60_.mp hm] at e;exact n63_ _ (n7_ e)) (n2_ _ e)
theorem Z1 (hc:X.calm=true):Xz X (.builtin "all") (fun xs H Q=>∃ (p:Addr) (bs:List Bool),xs=[.ref p]∧SqL X.K H p (bs.map V.bl)∧Q (.bl (bs.all id)) H):=by
 intro pins s σ H xs us Q I r h;obtain ⟨p,bs,rfl,hq,q⟩:=h;cases r with
 | cons rx r =>
   cases r
   cases (show _=Value.ref p from rx)
   obtain ⟨its,rv,pl,hz⟩:=I.list hq;have hl:=pl.isList;have hlt:p<s.z:=by obtain ⟨_,e,_⟩:=hl;exact n7_ e
   have hh:X.A.handled=none:=I.ok.hd hc;refine call_all_walk (wpAny_pyIter_list hl ?_)
   refine ⟨s.z,[s.z,p],[s.z],its.toArray.size,_,_,fun i=>(bs[i]?).getD true,rfl,Walks.list (A:=X.A.in1) hh _ p (n24_ hlt) its.toArray,
    ⟨⟨_,n10_ _ rfl,rfl,rfl⟩,hl.push _⟩,fun i v s' Q' E' hP hQ=>?_,fun h' tk hk=>?_⟩
   · obtain ⟨b,e,rfl⟩:=Zcp rv (show its[i]? = some v by simpa using hP);simp only [e,Option.getD_some] at hQ;exact wpAny_truthy_bool hQ
   · have e:((List.range its.toArray.size).all fun i=>(bs[i]?).getD true)=bs.all id:=by
      rw [n5_,← rv.length,n23_];exact Zez bs
     rw [e];exact ⟨.bl _,H,I.kept (Zl3 hk),rfl,q⟩
def Zp9:V→List V→Hp→VK→Prop:=fun x vs H Q=>∃ (l:Addr) (bs:List Bool) (c:Bool),x=.ref l∧vs=[.bl c]∧H l=some (.lst (bs.map V.bl))∧Q (.int (bs.countP (· == c):Nat)) H
theorem Zhb {c:Bool}:∀ {bs:List Bool} {us:List Value},Vals (bs.map V.bl) us→us.countP (eqU (.bl c))=bs.countP (· == c)
 | [],_,.nil=>rfl
 | b :: bs,u :: us,.cons r t=>by
   rw [List.countP_cons,List.countP_cons,Zhb t,Zmw r rfl];rfl
theorem Zkv:∀ (bs:List Bool),(bs.map V.bl).all Zgi=true
 | []=>rfl
 | _ :: bs=>by rw [n58_,List.all_cons,Zkv bs];rfl
theorem Znd:MtR X "list.count" Zp9:=by
 intro pins s σ H x vs v us Q I rx rv h;obtain ⟨l,bs,c,rfl,rfl,hH,q⟩:=h;cases rx
 obtain ⟨u,rfl,ru⟩:=rv.one;obtain ⟨its,n,r,e,hz⟩:=I.lst hH;refine call_meets F.slot_list_count ⟨_,e,rfl⟩ F.entry_list_count (F.args_list_count_2 _ _) (SeqAt.list_countAt l its.toArray n none #[] u (eqU (.bl c))) ⟨e,fun y hy=>Zdk ru rfl r (Zkv bs) y (by simpa using hy),?_⟩;refine ⟨.int _,H,I.tok _,⟨_,rfl⟩,?_⟩;have z:(its.toArray.toList.countP (eqU (.bl c)))=bs.countP (· == c):=Zhb r;rw [z];exact q
end
structure Cal (P:Program) (w:World) (K:PySem.W.Frag) (mg:Str→Option Value) (base:Heap) (x:Str) (k:Nat) (ps:List Str) (sp:Sp):Prop where
 ex:∃ (f:Addr) (fd:FuncData),FnOk P w K mg base CX0 k f fd ps sp∧mg x=some (.ref f)∧PySem.W.keepIn K (.ref f)=true∧Binds K fd ps []
theorem Zi {X:Cx} {x:Str} {k j:Nat} {ps:List Str} {sp:Sp} {p pos:Pos} {e:Expr} {es:List Expr} {t:TA} (C:Cal X.prog X.w X.K X.mg X.base x k ps sp) (hr:Room j X.A) (hj:k≤j) (hg:Gl X x) (ha:PA X (e :: es) t)
 (hdb:(x == ("__debug__" : Str))=false:=by decide) (he:starEach (e :: es) X.env=(false,eval e X.env) :: starEach es X.env:=by rfl) (hpl:(backTo pos (starEach es X.env)).any (·.1)=false:=by rfl) :
 PE X (.Call (.Name x p) (e :: es) [] pos) (fun σ H Q=>t σ H fun vs H1=>sp vs H1 Q E0):=by
 obtain ⟨f,fd,F,hm,hk,hb⟩:=C.ex;have h:=Zmk (dvs:=[]) (E:=E0) (p:=p) F (hr.mono hj) hg hm hk hb .nil Zr8 ha hdb he hpl;intro pins s σ H Q I hw;refine h pins s σ H Q I ?_;unfold Zon
 simpa only [List.append_nil] using hw
section
variable {P:Program} {w:World} {K:PySem.W.Frag} {mg:Str→Option Value} {base:Heap}
end
def Keep (l:Addr) (H H':Hp):Prop:=∀ b o,b≠l→H b=some o→H' b=some o
theorem Keep.refl (l:Addr) (H:Hp):Keep l H H:=fun _ _ _ h=>h
theorem Keep.trans {l:Addr} {H H1 H2:Hp} (a:Keep l H H1) (b:Keep l H1 H2):Keep l H H2:=fun c o n h=>b c o n (a c o n h)
theorem Keep.new {l p:Addr} {H:Hp} {o:HO} (h:H p=none):Keep l H (upd H p o):=fun b u _ e=>by rw [Zs (Zr e h)];exact e
theorem Keep.upd {l:Addr} {H:Hp} {o:HO}:Keep l H (upd H l o):=fun b u n e=>by rw [Zs n];exact e
theorem Same.new {p:Addr} {H:Hp} {o:HO} (h:H p=none):Same H (upd H p o):=fun b u e=>by rw [Zs (Zr e h)];exact e
theorem Same.keep {l:Addr} {H H':Hp} (s:Same H H'):Keep l H H':=fun b o _ e=>s b o e
def Ztt (i j k:Nat) (ta:TA):TS:=fun D σ H=>ta σ H fun vs H1=>∃ v w x,vs=[v,w,x]∧D.nx (((σ.set i (some v)).set j (some w)).set k (some x)) H1
theorem Zjj {X:Cx} {pos:Pos} {i j k:Nat} {x y z:Str} {a b c:Expr} {ta:TA} {px py pz pt:Pos} {kt k2 pt2} (hc:X.calm=true) (hN:X.N.Nodup) (hi:X.N[i]? = some x) (hj:X.N[j]? = some y) (hk:X.N[k]? = some z) (hij:i≠j) (hik:i≠k) (hjk:j≠k)
 (hx:X.env.scope.names.lookup x=some .local) (hy:X.env.scope.names.lookup y=some .local) (hz:X.env.scope.names.lookup z=some .local) (ha:PA X [a,b,c] ta)
 (hw:swappedStores [.Tuple [.Name x px,.Name y py,.Name z pz] kt pt] (.Tuple [a,b,c] k2 pt2) X.env=pure (some [x,y,z]))
 (hs:swapsWithSole [.Tuple [.Name x px,.Name y py,.Name z pz] kt pt] (.Tuple [a,b,c] k2 pt2) pos.line X.env=pure false:=by rfl) :
 PS X (.Assign [.Tuple [.Name x px,.Name y py,.Name z pz] kt pt] (.Tuple [a,b,c] k2 pt2) pos) (Ztt i j k ta):=by
 intro pins s σ H D I h;rw [exec_Assign_arm];refine n0_ (wpAny_standAt ?_);rw [hs];refine n0_ (n4_ ?_);rw [if_neg (by decide)];refine n0_ (Tuple_ (thn (ha _ pins s σ H _ I h) fun us s1 ⟨vs,H1,I1,r1,q1⟩=>?_));obtain ⟨v,w,x',e1,q1⟩:=q1;subst e1
 obtain ⟨u1,u2,u3,rfl,rv,rw',rx⟩:∃ u1 u2 u3,us=[u1,u2,u3]∧RelV v u1∧RelV w u2∧RelV x' u3:=by
  cases r1 with
  | cons p q =>
    cases q with
    | cons p' q' =>
      cases q' with
      | cons p'' q'' =>
        cases q''
        exact ⟨_,_,_,rfl,p,p',p''⟩
 refine wpAny_newObj_type ?_ (z3_);have I2:Inv X pins σ H1 { s1 with heap:=s1.heap.push { cls:=.type "tuple",data:=.seq [u1,u2,u3].toArray } }:=I1.kept (t':=s1.toks) fun b o e=>n2_ _ e;rw [hw];refine n0_ (n4_ ?_);show wpAny (model X.prog X.w) X.A (do rule "assign.swapped-stores";let items ← unpackItems (.ref s1.z) 3 none;assignInOrder [fun v=>bindName X.env z v,fun v=>bindName X.env y v,fun v=>bindName X.env x v] items.reverse;pure Flow.next) _ _ _
 refine n0_ (wpAny_rule (n0_ (unpackItems_tuple (items:=#[u1,u2,u3]) (I.ok.hd hc) (IsTup.new s1.heap _) fun h' hx'=>?_)));have I3:=I2.kept (h':=h') (t':=s1.toks) fun b o e=>hx' b o (n24_ (n7_ e)) e;show wpAny _ _ (assignInOrder [fun v=>bindName X.env z v,fun v=>bindName X.env y v,fun v=>bindName X.env x v] [u3,u2,u1] >>= fun _=>pure Flow.next) _ _ _
 refine n0_ (assignInOrder_cons (wpAny_bindName (X9 I3 hN hk (.inl hz) rx (fun s2 I4=>?_) (.inr hz))));refine assignInOrder_cons (wpAny_bindName (X9 I4 hN hj (.inl hy) rw' (fun s3 I5=>?_) (.inr hy)));refine assignInOrder_cons (wpAny_bindName (X9 I5 hN hi (.inl hx) rv (fun s4 I6=>assignInOrder_nil (n4_ ?_)) (.inr hx)))
 have e:(((σ.set k (some x')).set j (some w)).set i (some v))=(((σ.set i (some v)).set j (some w)).set k (some x')):=by
  rw [List.set_comm _ _ (Ne.symm hij),List.set_comm _ _ (Ne.symm hik),List.set_comm _ _ (Ne.symm hjk)]
 rw [e] at I6;exact ⟨_,H1,I6,q1⟩
theorem Zeb:∀ (xs:List PyData),(PyData.shownAll xs).length=xs.length
 | []=>rfl
 | _ :: xs=>by simp only [PyData.shownAll,n16_,Zeb xs]
section
variable {X:Cx}
end
def Y4 (cells:List (Str×Addr)) (names:List (Str×NameKind)):List (Str×Addr):=((names.filter (fun y=>y.2 == .free)).map fun y=>(y.1,(cells.lookup y.1).getD 0)).reverse
theorem Zcs {env:Env}:∀ (names:List (Str×NameKind)) (acc:List (Str×Addr)),(∀ y∈names,y.2=.free→∃ c,env.cells.lookup y.1=some c) →
 (forIn names acc (fun (x:Str×NameKind) (r:List (Str×Addr))=>do
   if x.2 == .free then do
    let a ← cellOf env x.1
    pure (ForInStep.yield ((x.1,a) :: r))
   else pure (ForInStep.yield r)):Sem (List (Str×Addr)))=pure (Y4 env.cells names++acc)
 | [],acc,_=>rfl
 | (n,k) :: rest,acc,h=>by
   have ih:=fun acc=>Zcs rest acc fun y hy=>h y (n18_ _ hy);rw [List.forIn_cons]
   by_cases hk:k=.free
   · subst hk;obtain ⟨c,hc⟩:=h (n,.free) n34_ rfl;have e:cellOf env n=pure c:=by unfold cellOf;rw [hc]
     have e2:Y4 env.cells ((n,.free) :: rest)=Y4 env.cells rest++[(n,c)]:=by
      unfold Y4;rw [List.filter_cons_of_pos (by rfl),n58_,List.reverse_cons,hc];rfl
     simp only [beq_self_eq_true,if_true,e,pure_bind];rw [ih,e2,List.append_assoc];rfl
   · have b:(k == NameKind.free)=false:=by simpa using hk
     have e2:Y4 env.cells ((n,k) :: rest)=Y4 env.cells rest:=by
      unfold Y4;rw [List.filter_cons_of_neg (by simpa using hk)]
     simp only [b,n22_,if_false,pure_bind];rw [ih,e2]
theorem Zc9 {scope:Scope} {env:Env} (h:∀ y∈scope.names,y.2=.free→∃ c,env.cells.lookup y.1=some c):closureFor scope env=pure (Y4 env.cells scope.names):=by
 have e:=Zcs scope.names [] h;rw [List.append_nil] at e;unfold closureFor
 first
  | (rw [← e];rfl)
  | (simp only [bind_pure];exact e)
  | simpa using e
mutual
inductive Dt (N:Addr→Prop) (H:Hp) (k:Nat):V→PyData→Prop
 | non:Dt N H k .non .none
 | bl (b:Bool):Dt N H k (.bl b) (.bool b)
 | int {i:Int}:i.natAbs<2^k→Dt N H k (.int i) (.int i)
 | str (x:Str):Dt N H k (.str x) (.str x)
 | tup {a:Addr} {xs:List V} {ds:List PyData}:H a=some (.tup xs)→Dts N H k xs ds→Dt N H k (.ref a) (.tuple ds)
 | lst {a:Addr} {xs:List V} {ds:List PyData}:H a=some (.lst xs)→¬ N a→a≠sysModules→Dts N H k xs ds→Dt N H k (.ref a) (.list ds)
 | dic {a:Addr}:H a=some (.dK [])→Dt N H k (.ref a) (.dict [])
inductive Dts (N:Addr→Prop) (H:Hp) (k:Nat):List V→List PyData→Prop
 | nil:Dts N H k [] []
 | cons {x:V} {xs:List V} {d:PyData} {ds:List PyData}:Dt N H k x d→Dts N H k xs ds→Dts N H k (x :: xs) (d :: ds)
end
variable {N:Addr→Prop} {k:Nat}
mutual
theorem Dt.reads {X:Cx} {pins:List (Addr×Obj)} {σ:St} {H:Hp} {s:Shared} (I:Inv X pins σ H s):∀ {v:V} {d:PyData} {u:Value},Dt N H k v d→RelV v u→∃ as,Reads s.heap u d as∧sysModules∉as
 | _,_,_,.non,r=>by cases r;exact ⟨_,.none,by simp⟩
 | _,_,_,.bl b,r=>by cases r;exact ⟨_,.bool b,by simp⟩
 | _,_,_,.int (i:=i) _,r=>by obtain ⟨t,rfl⟩:=r;exact ⟨_,.int i t,by simp⟩
 | _,_,_,.str x,r=>by obtain ⟨t,rfl⟩:=r;exact ⟨_,.str x t,by simp⟩
 | _,_,_,.tup (a:=a) (xs:=xs) h rs,r=>by
   cases r
   obtain ⟨_,its,rv,o,e,hc,n,hd⟩:=(show ObjOk X.prog X.w H s.heap a (.tup xs) from I.hok a _ h);obtain ⟨as,ra,na⟩:=Dts.reads I rs rv;exact ⟨_,.tuple e hc hd (by simpa using ra),na⟩
 | _,_,_,.lst (a:=a) (xs:=xs) h _ ns rs,r=>by
   cases r
   obtain ⟨_,its,n,rv,e⟩:=(show ObjOk X.prog X.w H s.heap a (.lst xs) from I.hok a _ h);obtain ⟨as,ra,na⟩:=Dts.reads I rs rv
   exact ⟨_,.list e rfl rfl (by simpa using ra),by
    intro hm
    rcases n14_.mp hm with e|e
    · exact ns e.symm
    · exact na e⟩
 | _,_,_,.dic (a:=a) h,r=>by
   cases r
   obtain ⟨_,hS,vs,rel,o,es,ep,e,ex,hd,_,he,_⟩:=(show ObjOk X.prog X.w H s.heap a (.dK []) from I.hok a _ h);cases rel
   have hes:es.toList=[]:=by
    generalize es.toList=z at he;cases he
    rfl
   refine ⟨_,.dict (kvs:=[]) (as:=[]) (bs:=[]) e ex.1 hd (by rw [hes];exact .nil) (by rw [hes];exact .nil),?_⟩;intro hm
   have:sysModules=a:=by simpa using hm
   rw [this] at hS;simp at hS
theorem Dts.reads {X:Cx} {pins:List (Addr×Obj)} {σ:St} {H:Hp} {s:Shared} (I:Inv X pins σ H s):∀ {vs:List V} {ds:List PyData} {us:List Value},Dts N H k vs ds→Vals vs us→∃ as,ReadsAll s.heap us ds as∧sysModules∉as
 | _,_,_,.nil,.nil=>⟨_,.nil,by simp⟩
 | _,_,_,.cons r rs,.cons q qs=>by
   obtain ⟨as,ra,na⟩:=Dt.reads I r q;obtain ⟨bs,rb,nb⟩:=Dts.reads I rs qs
   exact ⟨_,.cons ra rb,by
    intro hm
    rcases n57_.mp hm with e|e
    · exact na e
    · exact nb e⟩
end
mutual
theorem Dt.same {H H':Hp} (s:Same H H'):∀ {v:V} {d:PyData},Dt N H k v d→Dt N H' k v d
 | _,_,.non=>.non
 | _,_,.bl b=>.bl b
 | _,_,.int h=>.int h
 | _,_,.str x=>.str x
 | _,_,.tup h r=>.tup (s _ _ h) (Dts.same s r)
 | _,_,.lst h n m r=>.lst (s _ _ h) n m (Dts.same s r)
 | _,_,.dic h=>.dic (s _ _ h)
theorem Dts.same {H H':Hp} (s:Same H H'):∀ {vs:List V} {ds:List PyData},Dts N H k vs ds→Dts N H' k vs ds
 | _,_,.nil=>.nil
 | _,_,.cons r rs=>.cons (Dt.same s r) (Dts.same s rs)
end
mutual
theorem Dt.keep {H H':Hp} {l:Addr} {ys:List V} (hN:N l) (hl:H l=some (.lst ys)) (s:Keep l H H'):∀ {v:V} {d:PyData},Dt N H k v d→Dt N H' k v d
 | _,_,.non=>.non
 | _,_,.bl b=>.bl b
 | _,_,.int h=>.int h
 | _,_,.str x=>.str x
 | _,_,.tup h r=>.tup (s _ _ (Zdd h hl (by intro z;cases z)) h) (Dts.keep hN hl s r)
 | _,_,.lst h n m r=>.lst (s _ _ (fun z=>n (z ▸ hN)) h) n m (Dts.keep hN hl s r)
 | _,_,.dic h=>.dic (s _ _ (Zdd h hl (by intro z;cases z)) h)
theorem Dts.keep {H H':Hp} {l:Addr} {ys:List V} (hN:N l) (hl:H l=some (.lst ys)) (s:Keep l H H'):∀ {vs:List V} {ds:List PyData},Dts N H k vs ds→Dts N H' k vs ds
 | _,_,.nil=>.nil
 | _,_,.cons r rs=>.cons (Dt.keep hN hl s r) (Dts.keep hN hl s rs)
end
mutual
theorem Dt.up {H:Hp} {k':Nat} (hk:k≤k'):∀ {v:V} {d:PyData},Dt N H k v d→Dt N H k' v d
 | _,_,.non=>.non
 | _,_,.bl b=>.bl b
 | _,_,.int h=>.int (n9_ h (n41_ (by decide) hk))
 | _,_,.str x=>.str x
 | _,_,.tup h r=>.tup h (Dts.up hk r)
 | _,_,.lst h n m r=>.lst h n m (Dts.up hk r)
 | _,_,.dic h=>.dic h
theorem Dts.up {H:Hp} {k':Nat} (hk:k≤k'):∀ {vs:List V} {ds:List PyData},Dts N H k vs ds→Dts N H k' vs ds
 | _,_,.nil=>.nil
 | _,_,.cons r rs=>.cons (Dt.up hk r) (Dts.up hk rs)
end
theorem Dts.app {H:Hp}:∀ {xs ys:List V} {ds es:List PyData},Dts N H k xs ds→Dts N H k ys es→Dts N H k (xs++ys) (ds++es)
 | _,_,_,_,.nil,h=>h
 | _,_,_,_,.cons r rs,h=>.cons r (Dts.app rs h)
theorem Dts.len {H:Hp}:∀ {xs:List V} {ds:List PyData},Dts N H k xs ds→xs.length=ds.length
 | _,_,.nil=>rfl
 | _,_,.cons _ rs=>by rw [n16_,n16_,Dts.len rs]
theorem Dts.take {H:Hp}:∀ {xs:List V} {ds:List PyData} (n:Nat),Dts N H k xs ds→Dts N H k (xs.take n) (ds.take n)
 | _,_,0,_=>by rw [List.take_zero,List.take_zero];exact .nil
 | _,_,_+1,.nil=>.nil
 | _,_,n+1,.cons r rs=>by rw [List.take_succ_cons,List.take_succ_cons];exact .cons r (Dts.take n rs)
theorem Dts.drop {H:Hp}:∀ {xs:List V} {ds:List PyData} (n:Nat),Dts N H k xs ds→Dts N H k (xs.drop n) (ds.drop n)
 | _,_,0,h=>h
 | _,_,_+1,.nil=>.nil
 | _,_,n+1,.cons r rs=>by rw [List.drop_succ_cons,List.drop_succ_cons];exact Dts.drop n rs
theorem Dts.get {H:Hp}:∀ {xs:List V} {ds:List PyData} {n:Nat} {v:V},Dts N H k xs ds→xs[n]? = some v→∃ d,ds[n]? = some d∧Dt N H k v d
 | _,_,_,_,.nil,h=>by simp at h
 | _,_,0,_,.cons r rs,h=>by simp at h;subst h;exact ⟨_,rfl,r⟩
 | _,_,n+1,_,.cons r rs,h=>by
   obtain ⟨d,e,q⟩:=Dts.get rs (by simpa using h);exact ⟨d,by simpa using e,q⟩
mutual
def nz:PyData→Nat
 | .none=>1
 | .bool _=>1
 | .int _=>1
 | .str x=>(reprText x).length
 | .list xs=>1+Z0 xs
 | .tuple xs=>1+Z0 xs
 | .dict _=>1
def Z0:List PyData→Nat
 | []=>0
 | x :: xs=>nz x+1+Z0 xs
end
theorem Xj (xs ys:List PyData):Z0 (xs++ys)=Z0 xs+Z0 ys:=by
 induction xs with
 | nil=>simp [Z0]
 | cons x xs ih=>simp only [List.cons_append,Z0,ih];omega
theorem Zfg (n:Nat) (xs:List PyData):Z0 (xs.take n)≤Z0 xs:=by
 have:=Xj (xs.take n) (xs.drop n)
 rw [n65_] at this;omega
theorem Zfc (n:Nat) (xs:List PyData):Z0 (xs.drop n)≤Z0 xs:=by
 have:=Xj (xs.take n) (xs.drop n)
 rw [n65_] at this;omega
theorem Yt (xs ys:List PyData):PyData.depthAll (xs++ys)=max (PyData.depthAll xs) (PyData.depthAll ys):=by
 induction xs with
 | nil=>simp [PyData.depthAll]
 | cons x xs ih=>simp only [List.cons_append,PyData.depthAll,ih];omega
theorem Zby (n:Nat) (xs:List PyData):PyData.depthAll (xs.take n)≤PyData.depthAll xs:=by
 have:=Yt (xs.take n) (xs.drop n)
 rw [n65_] at this;omega
theorem Zb1 (n:Nat) (xs:List PyData):PyData.depthAll (xs.drop n)≤PyData.depthAll xs:=by
 have:=Yt (xs.take n) (xs.drop n)
 rw [n65_] at this;omega
theorem Zcf {i:Int} {n:Nat} (h:i.natAbs<2^n) (hn:n<1920):i.natAbs.log2<1920:=by
 rcases Nat.eq_zero_or_pos n with rfl|hp
 · have:i.natAbs=0:=by simpa using h
   rw [this];decide
 · by_cases h0:i.natAbs=0
   · rw [h0];decide
   · exact Nat.lt_trans ((Nat.log2_lt h0).mpr h) hn
mutual
theorem Dt.showable {H:Hp} (hk:k<1920):∀ {v:V} {d:PyData},Dt N H k v d→d.showable=true
 | _,_,.non=>rfl
 | _,_,.bl b=>rfl
 | _,_,.int h=>n19_ (Zcf h hk)
 | _,_,.str x=>rfl
 | _,_,.tup h r=>Dts.showable hk r
 | _,_,.lst h n m r=>Dts.showable hk r
 | _,_,.dic h=>rfl
theorem Dts.showable {H:Hp} (hk:k<1920):∀ {vs:List V} {ds:List PyData},Dts N H k vs ds→PyData.showableAll ds=true
 | _,_,.nil=>rfl
 | _,_,.cons r rs=>by
   show (_&&_)=true
   rw [Dt.showable hk r,Dts.showable hk rs];rfl
end
mutual
theorem Dt.shownLen {H:Hp} (hk:k<1920):∀ {v:V} {d:PyData},Dt N H k v d→d.shown.length≤2000*nz d
 | _,_,.non=>by decide +kernel
 | _,_,.bl true=>by decide +kernel
 | _,_,.bl false=>by decide +kernel
 | _,_,.int (i:=i) h=>by
   have:=int_text_length_le (by decide) (Zcf h hk)
   show (Str.ofString (toString i)).length≤2000*1
   rw [PySem.ofString_length];omega
 | _,_,.str x=>by
   show (reprText x).length≤2000*(reprText x).length
   omega
 | _,_,.tup (ds:=ds) h r=>by
   have:=Dts.shownLen hk r
   have z:=tupleText_len_le (PyData.shownAll ds);rw [Zeb] at z;show (tupleText (PyData.shownAll ds)).length≤2000*(1+Z0 ds)
   omega
 | _,_,.lst (ds:=ds) h n m r=>by
   have:=Dts.shownLen hk r
   have z:=listText_len_le (PyData.shownAll ds);rw [Zeb] at z;show (listText (PyData.shownAll ds)).length≤2000*(1+Z0 ds)
   omega
 | _,_,.dic h=>by decide +kernel
theorem Dts.shownLen {H:Hp} (hk:k<1920):∀ {vs:List V} {ds:List PyData},Dts N H k vs ds→((PyData.shownAll ds).map (·.length)).sum+2*ds.length≤2000*Z0 ds
 | _,_,.nil=>by simp [PyData.shownAll,Z0]
 | _,_,.cons r rs=>by
   have a:=Dt.shownLen hk r;have b:=Dts.shownLen hk rs;simp only [PyData.shownAll,Z0,n58_,List.sum_cons,n16_];omega
end
section
variable {X:Cx}
theorem Za9 {j:Nat} (hr:Room j X.A):Xz X (.builtin "repr") (fun xs H Q=>∃ N k v d,xs=[v]∧Dt N H k v d∧k<1920∧d.depth≤20∧nz d≤8000∧Q (.str d.shown) H):=by
 intro pins s σ H xs us Q I r h;obtain ⟨N,k,v,d,rfl,rd,hk,h3,h4,q⟩:=h;have h1:=rd.showable hk
 have hz:d.shown.length≤sizeLine:=by
  have:=rd.shownLen hk
  have e:sizeLine=16777216:=sizeLine_eq;omega
 cases r with
 | cons rx r =>
   cases r
   have hu:=hr.un;have R:=Dt.reads I rd rx
   have go:∀ a,RelV v (Value.ref a)→wpAny (model X.prog X.w) X.A (call (.builtin "repr") [Value.ref a]) (EP X pins σ Q) X.xe s:=fun a rx=>by
    obtain ⟨as,ra,na⟩:=Dt.reads I rd rx;exact repr_of_reads' ra h1 (fun _=>na) hr.gd (by omega) (fun _ _ e=>e) (fun h' u tk hk=>⟨.str _,H,I.kept hk,⟨_,rfl⟩,q⟩) hz
   cases rd with
   | non=>cases (show _=Value.none from rx);exact PySem.P.repr_of_none ⟨.str _,H,I.tok _,⟨_,rfl⟩,q⟩
   | bl b=>cases (show _=Value.bool b from rx);exact PySem.P.repr_of_bool ⟨.str _,H,I.tok _,⟨_,rfl⟩,q⟩
   | int hi=>obtain ⟨t,rfl⟩:=(show ∃ t,_=Value.int _ t from rx);exact PySem.P.repr_of_int (Zcf hi hk) ⟨.str _,H,I.tok _,⟨_,rfl⟩,q⟩
   | str x=>obtain ⟨t,rfl⟩:=(show ∃ t,_=Value.str x t from rx);exact PySem.P.repr_of_str ⟨.str _,H,I.tok _,⟨_,rfl⟩,q⟩ hz
   | tup h rs=>cases (show _=Value.ref _ from rx);exact go _ rx
   | lst h n m rs=>cases (show _=Value.ref _ from rx);exact go _ rx
   | dic h=>cases (show _=Value.ref _ from rx);exact go _ rx
end
end L2
namespace HT
open PySem PyProof.Rows
section
variable {prog:Program} {w:World} {A:Around} {E:Value→Shared→Prop} {s:Shared}
theorem getItem_tuple_whole {t sl:Addr} {items:Array Value} {vl vu:Value} {lo hi:Option Int} {Q:Value→Shared→Prop} (ht:IsTup s.heap t items) (hs:s.heap.IsSliceOf sl vl vu .none) (pl:IsPart vl lo) (pu:IsPart vu hi)
 (hw:sIx items.size 0 lo=0∧sIx items.size items.size hi=items.size)
 (h:Q (.ref t) s):wpAny (model prog w) A (getItem (.ref t) (.ref sl)) Q E s:=by
 obtain ⟨os,hos,hcs,hds⟩:=id hs;have hTs:s.TypeIs (.ref sl) "slice" := ⟨os,hos,hcs⟩;unfold getItem
 try with_reducible refine n37_ ?_
 first|refine n0_ (n4_ ?_)|skip
 refine n0_ (wpAny_sequenceKey ht.typeIs (by decide) ?_)
 refine n0_ (wpAny_callSpecial?_slot (name:=Str.ofString "__getitem__") ht.typeIs PyProof.Rows.slot_tuple_getitem
  (wpAny_call_entry PyProof.Rows.slot_tuple_getitem ht.typeIs entry_tuple_getitem ?_ (args_tuple_getitem _ _)))
 show wpAny _ _ (Builtin.Tuple.tupleItemsOf (.ref t) >>= _) _ _ s
 refine n0_ (tupleItemsOf_ ht ?_);refine n0_ (wpAny_typeOf hTs ?_);rw [if_pos (by decide)];refine n0_ (Zav hs pl pu ?_);rw [hw.1,hw.2];have hyes:(((0:Nat):Int) == 0&&(1:Int) == 1&&(items.size-0) == items.size)=true:=by simp
 show wpAny _ _ (if (((0:Nat):Int) == 0&&(1:Int) == 1&&(items.size-0) == items.size)=true then _ else _) _ _ s
 rw [if_pos hyes];have hx:(Builtin.Tuple.tupleIsExact (.ref t))=(do pure ((← typeOf (.ref t)) == .type "tuple")):=by first|rfl|(unfold Builtin.Tuple.tupleIsExact;rfl)
 rw [hx];refine n0_ (n0_ (wpAny_typeOf ht.typeIs (n4_ ?_)));rw [if_pos (by decide)];exact n0_ (wpAny_rule (n4_ ⟨_,rfl,n4_ h⟩))
end
end HT
namespace L2
open PySem PySem.Spec PyProof.Rows
section
variable {X:Cx} {e:Expr} {es:List Expr} {te:TE} {t:TA} {pos p2:Pos}
def Zui:R2:=fun x y H Q=>∃ a b xs ys,x=.ref a∧y=.ref b∧H a=some (.tup xs)∧H b=some (.tup ys)∧xs.length+ys.length≤sizeLine∧∀ p H',Same H H'→H' p=some (.tup (xs++ys))→Q (.ref p) H'
theorem Zdv:OpR X (binaryOp .Add) Zui:=by
 intro pins s σ H x y v u Q I rx ry h;obtain ⟨a,b,xs,ys,rfl,rfl,ha,hb,hz,q⟩:=h;cases rx
 cases ry
 obtain ⟨its,r1,p1,_⟩:=I.tuple (SqT.of ha);obtain ⟨its2,r2,p2,_⟩:=I.tuple (SqT.of hb)
 by_cases hx:xs=[]
 · subst hx;have e:its=[]:=r1.nil_iff.mpr rfl;subst e;obtain ⟨⟨cls,dd,data,sl⟩,ho,hc,n,hd⟩:=id p1;obtain ⟨⟨cls2,dd2,data2,sl2⟩,ho2,hc2,n2,hd2⟩:=id p2;simp only at hc hd hc2 hd2;subst hc hd hc2 hd2
   exact concat_meets ⟨_,ho,rfl⟩ ⟨_,ho2,rfl⟩ noFill_tuple_add seq_tuple_add PySem.F.slot_tuple_add PySem.F.entry_tuple_add (PySem.F.args_tuple_add_2 _ _)
    (tuple_addW0 a b _ its2.toArray n n2 dd dd2 sl sl2 (by simp)) ⟨ho,ho2,⟨.ref b,H,I,rfl,q b H (Same.refl H) hb⟩⟩
 · refine Zq2 pins s σ H (.ref a) (.ref b) _ _ Q I rfl rfl ⟨a,b,xs,ys,rfl,rfl,SqT.of ha,SqT.of hb,hx,hz,?_,?_⟩
   · rintro rfl
     exact q a H (Same.refl H) (by rw [List.append_nil];exact ha)
   · intro _ p hp;exact q p _ (Same.new hp) Zc
def rSlU:V→Option Int→Option Int→Hp→VK→Prop:=fun x lo hi H Q=>∃ a xs,x=.ref a∧H a=some (.tup xs)∧∀ p H',Same H H'→H' p=some (.tup (cutV xs lo hi))→Q (.ref p) H'
theorem Zab:SlR X rSlU:=by
 intro pins s σ H x v vl vu lo hi sl Q I rx hs pl pu h;obtain ⟨a,xs,rfl,hx,q⟩:=h
 by_cases hw:HT.sIx xs.length 0 lo=0∧HT.sIx xs.length xs.length hi=xs.length
 · cases rx
   obtain ⟨its,r,ht,hz⟩:=I.tuple (SqT.of hx);have hlen:its.toArray.size=xs.length:=by rw [n5_];exact r.length.symm
   refine ⟨"tuple",_,PyProof.Rows.slot_tuple_getitem.lookup,ht.typeIs,?_⟩;refine HT.getItem_tuple_whole ht hs pl pu (by rw [hlen];exact hw) ⟨.ref a,H,I,rfl,q a H (Same.refl H) ?_⟩;unfold cutV;rw [hw.1,hw.2,List.drop_zero,Nat.sub_zero,List.take_length];exact hx
 · exact Zs1 pins s σ H _ _ vl vu lo hi sl Q I rx hs pl pu ⟨a,xs,rfl,SqT.of hx,hw,fun p hp=>q p _ (Same.new hp) Zc⟩
theorem Zgw:PE X e (fun _ _ _=>False):=fun _ _ _ _ _ _ h=>h.elim
theorem Ziq {pins:List (Addr×Obj)} {σ:St} {H:Hp} {s:Shared} (I:Inv X pins σ H s):sysModules<s.z:=by
 have h:mainGlobals<s.z:=(I.mod.glob.keeps I.bk).lt;exact Nat.lt_trans (by decide) h
def Ztp (t:TA):TE:=fun σ H Q=>t σ H fun xs H1=>xs.length≤sizeLine∧∀ p,H1 p=none→p≠sysModules→Q (.ref p) (upd H1 p (.lst xs))
theorem Zfz (h:PA X es t):PE X (.List es pos) (Ztp t):=by
 intro pins s σ H Q I hq;refine wpAny_List_spliced (thn (h pos pins s σ H _ I hq) fun us s1 ⟨xs,H1,I1,r,z,q⟩=>⟨by rw [← r.length];exact z,?_⟩);have hf:H1 s1.z=none:=I1.hok.fresh (n6_ _);refine ⟨.ref s1.z,upd H1 s1.z (.lst xs),I1.laid (t':=s1.toks) (fun b u e=>n2_ _ e) (n6_ _) ?_,rfl,q _ hf (n56_ (Ziq I1))⟩;exact ⟨z,us,0,r,n10_ _ rfl⟩
theorem Zbc:Xz X (.type "list") (fun xs H Q=>∃ p ys,xs=[.ref p]∧(SqL X.K H p ys∨SqT X.K H p ys)∧∀ l,H l=none→l≠sysModules→Q (.ref l) (upd H l (.lst ys))):=by
 intro pins s σ H xs us Q I r h;obtain ⟨p,ys,rfl,hq,q⟩:=h;obtain ⟨u,rfl,rx⟩:=Zll r;cases rx
 have fin:∀ (its:List Value),Vals ys its→ys.length≤sizeLine→∀ (h':Heap) (c':Nat),(∀ b o',s.heap.get? b=some o'→h'.get? b=some o') →
  h'.get? s.z=some { cls:=.type "list",dict:=none,data:=.seq its.toArray c',slots:=#[] }→EP X pins σ Q (.ref s.z) { s with heap:=h' }:=fun its r' hz h' c' kp e =>
  ⟨.ref s.z,_,I.laid (t':=s.toks) kp (n6_ _) (show ObjOk X.prog X.w _ h' _ (.lst ys) from ⟨hz,its,c',r',e⟩),rfl,q _ (I.hok.fresh (n6_ _)) (n56_ (Ziq I))⟩
 rcases hq with hq|hq
 · obtain ⟨its,r',pl,hz⟩:=I.list hq;have hlen:=r'.length;obtain ⟨o,ho,hc,n,hd⟩:=pl.isList;exact call_list_seq p (.inl rfl) ho hc hd (fun h' c' kp e=>fin its r' hz h' c' kp e) (by simp only [n5_]<;>omega)
 · obtain ⟨its,r',pl,hz⟩:=I.tuple hq;have hlen:=r'.length;obtain ⟨o,ho,hc,n,hd⟩:=pl;exact call_list_seq p (.inr rfl) ho hc hd (fun h' c' kp e=>fin its r' hz h' c' kp e) (by simp only [n5_]<;>omega)
def Ztn:TE:=fun _ H Q=>∀ p,H p=none→Q (.ref p) (upd H p (.dK []))
theorem Zqs:PE X (.Dict [] [] pos) Ztn:=fun pins s σ H Q I h =>
 wpAny_Dict_empty ⟨.ref s.z,_,I.laid (a:=s.z) (o:=.dK []) (t':=s.toks) (fun _ _ q=>n2_ _ q) (n6_ _)
  ⟨n43_ _,beq_eq_false_iff_ne.mpr (Ne.symm (n24_ (Ziq I))),[],.nil,Heap.DictOf.new s.heap⟩,rfl,h _ (I.hok.fresh (n6_ _))⟩
end
theorem Zr0 {K:PySem.W.Frag} {a D:Addr} {xs:List V} {g:TG} {tt:TT} {te:TE} {σ0:St} {H:Hp} {Q:VK} (Pv:Nat→St→Hp→Prop) (h0:Pv 0 σ0 (upd H D (.lst []))) (hx:∀ i σ H,i≤xs.length→Pv i σ H→SqT K H a xs)
 (hs:∀ i x σ2 H2,xs[i]? = some x→Pv i σ2 H2→g x σ2 H2 fun σ4 H4=>tt σ4 H4 fun b H5=>if b=true then te σ4 H5 fun y H6=>∃ ys,H6 D=some (.lst ys)∧ys.length<sizeLine ∧
   ∃ m',m'<xs.length-i∧LcN xs.length Pv (i+1) m' σ4 (upd H6 D (.lst (ys++[y]))) else ∃ m',m'<xs.length-i∧LcN xs.length Pv (i+1) m' σ4 H5)
 (hd:∀ σ2 H2,Pv xs.length σ2 H2→Q (.ref D) H2) :
 LcGo (Itt K a) g tt te σ0 H D Q:=by
 refine ⟨LcN xs.length Pv,⟨_,n43_ _,rfl,h0⟩,?_⟩;rintro i m σ2 H2 ⟨hi,rfl,p⟩
 have sq:=hx i σ2 H2 hi p
 by_cases hlt:i<xs.length
 · right
   refine ⟨⟨xs,xs[i],sq,n1_ hlt⟩,?_⟩;rintro x H3 ⟨rfl,hy⟩
   exact hs i x σ2 H3 (hy xs sq) p
 · left
   have e:i=xs.length:=by omega
   subst e;exact ⟨⟨xs,sq,n6_ _⟩,hd σ2 H2 p⟩
def isI:PyData→Bool
 | .int _=>true
 | _=>false
def isT:PyData→Bool
 | .tuple _=>true
 | _=>false
def isFr:PyData→Bool
 | .tuple [.int a,.int b]=>decide (1≤b)&&decide (Int.gcd a b=1)
 | _=>false
section
variable {K:PySem.W.Frag} {N:Addr→Prop} {k:Nat} {H:Hp} {v:V} {d:PyData}
theorem Dt.isI (h:Dt N H k v d):(∃ i,v=.int i∧d=.int i∧i.natAbs<2^k)∨L2.isI d=false:=by
 cases h with
 | int hi=>exact .inl ⟨_,rfl,rfl,hi⟩
 | _=>exact .inr rfl
theorem Dt.isT (h:Dt N H k v d):(∃ a xs ds,v=.ref a∧d=.tuple ds∧H a=some (.tup xs)∧Dts N H k xs ds)∨L2.isT d=false:=by
 cases h with
 | tup h r=>exact .inl ⟨_,_,_,rfl,rfl,h,r⟩
 | _=>exact .inr rfl
theorem Dt.ty (h:Dt N H k v d):∃ t,TyOf K H v t∧PySem.W.kitOne K t (.type "tuple")=some (L2.isT d):=by
 cases h with
 | non=>exact ⟨_,TyOf.non,rfl⟩
 | bl b=>exact ⟨_,TyOf.bl b,rfl⟩
 | int hi=>exact ⟨_,TyOf.int _,rfl⟩
 | str x=>exact ⟨_,TyOf.str x,rfl⟩
 | tup h r=>exact ⟨_,TyOf.tup h,rfl⟩
 | lst h n m r=>exact ⟨_,TyOf.lst h,rfl⟩
 | dic h=>exact ⟨_,TyOf.dK h,rfl⟩
theorem Dts.len0 {xs:List V} {ds:List PyData} (h:Dts N H k xs ds) (hl:xs.length≠2):L2.isFr (.tuple ds)=false:=by
 have e:=h.len
 match ds,e with
 | [],_=>rfl
 | [d],_=>cases d<;>rfl
 | [_,_],e=>exact absurd e hl
 | d :: d2 :: _ :: _,_=>cases d<;>cases d2<;>rfl
theorem fr_1 {d e:PyData} (h:L2.isI d=false):L2.isFr (.tuple [d,e])=false:=by
 cases d<;>first|rfl|(cases h)
theorem fr_2 {d e:PyData} (h:L2.isI e=false):L2.isFr (.tuple [d,e])=false:=by
 cases d<;>cases e<;>first|rfl|(cases h)
theorem Ztc {i j:Int} (hj:0<j):decide ([(Rat.divInt i j).num,((Rat.divInt i j).den:Int)]=[i,j])=(decide (1≤j)&&decide (Int.gcd i j=1)):=by
 rw [n19_ (show 1≤j by omega),Bool.true_and];refine decide_eq_decide.mpr ⟨fun h=>?_,fun h=>?_⟩
 · injection h with h1 h2
   injection h2 with h2 _
   have:=FM.gcd_one (Rat.divInt i j)
   rw [h1,h2] at this;exact this
 · have hb:j≠0:=by omega
   have a:=FM.low_num (t:=i) hb;have b:=FM.low_den (t:=i) hb;rw [if_pos hj,h] at a;rw [h] at b;rw [← a,← b];have e1:Int.fdiv i ((1:Nat):Int)=i:=by simp
   have e2:Int.fdiv (j.natAbs:Int) ((1:Nat):Int)=j:=by
    rw [show ((1:Nat):Int)=1 from rfl,Int.fdiv_one];omega
   rw [e1,e2]
theorem Zmp {xs:List V} {r:Int} (h0:0≤r) (h1:r<xs.length):∃ v,atI xs r=some v∧v∈xs:=by
 obtain ⟨n,rfl⟩:=Int.eq_ofNat_of_zero_le h0;have hn:n<xs.length:=by omega
 exact ⟨xs[n],Zay (n1_ hn),n39_ hn⟩
def Dom (N:Addr→Prop) (H:Hp):Prop:=∀ b,N b→∃ o,H b=some o
theorem Dom.same {H':Hp} (h:Dom N H) (s:Same H H'):Dom N H':=fun b z=>let ⟨o,e⟩:=h b z;⟨o,s b o e⟩
theorem Dom.keep {H':Hp} {l:Addr} {o:HO} (h:Dom N H) (s:Keep l H H') (hl:H' l=some o):Dom N H':=fun b z=>by
 by_cases e:b=l
 · subst e;exact ⟨_,hl⟩
 · obtain ⟨o,q⟩:=h b z;exact ⟨o,s b o e q⟩
theorem Dom.new {p:Addr} (h:Dom N H) (n:H p=none):¬ N p:=fun z=>by
 obtain ⟨o,e⟩:=h p z;rw [n] at e;cases e
def Tg (N:Addr→Prop) (H:Hp) (k n m:Nat) (v:V):Prop:=∃ d,Dt N H k v d∧d.depth≤n∧nz d≤m
def Tgs (N:Addr→Prop) (H:Hp) (k n m:Nat) (xs:List V):Prop:=∀ v∈xs,Tg N H k n m v
variable {n m:Nat}
theorem Tg.same {H':Hp} (s:Same H H') (h:Tg N H k n m v):Tg N H' k n m v:=let ⟨d,a,b⟩:=h;⟨d,a.same s,b⟩
theorem Tg.keep {H':Hp} {l:Addr} {ys:List V} (hN:N l) (hl:H l=some (.lst ys)) (s:Keep l H H') (h:Tg N H k n m v):Tg N H' k n m v:=let ⟨d,a,b⟩:=h;⟨d,a.keep hN hl s,b⟩
theorem Tg.up {k' n' m':Nat} (h:Tg N H k n m v) (hk:k≤k') (hn:n≤n') (hm:m≤m'):Tg N H k' n' m' v:=let ⟨d,a,b,c⟩:=h;⟨d,a.up hk,n32_ b hn,n32_ c hm⟩
theorem Tgs.nil:Tgs N H k n m []:=fun v h=>by cases h
theorem Tgs.cons {xs:List V} (h:Tg N H k n m v) (t:Tgs N H k n m xs):Tgs N H k n m (v :: xs):=fun w z=>by
 rcases n14_.mp z with rfl|z
 · exact h
 · exact t w z
theorem Tgs.app {xs ys:List V} (h:Tgs N H k n m xs) (t:Tgs N H k n m ys):Tgs N H k n m (xs++ys):=fun w z=>(n57_.mp z).elim (h w) (t w)
theorem Tgs.same {H':Hp} {xs:List V} (s:Same H H') (h:Tgs N H k n m xs):Tgs N H' k n m xs:=fun v z=>(h v z).same s
theorem Tgs.keep {H':Hp} {l:Addr} {xs ys:List V} (hN:N l) (hl:H l=some (.lst ys)) (s:Keep l H H') (h:Tgs N H k n m xs):Tgs N H' k n m xs:=fun v z=>(h v z).keep hN hl s
theorem Tgs.up {xs:List V} {k' n' m':Nat} (h:Tgs N H k n m xs) (hk:k≤k') (hn:n≤n') (hm:m≤m'):Tgs N H k' n' m' xs:=fun v z=>(h v z).up hk hn hm
theorem Zo5 (xs:List V) (r:Nat):cutV xs none (some (r:Int))=xs.take r:=by
 unfold cutV;rw [HT.sIx_none,HT.sIx_nat,List.drop_zero,Nat.sub_zero]
 by_cases h:r≤xs.length
 · rw [Nat.min_eq_left h]
 · rw [Nat.min_eq_right (by omega),List.take_length,n55_ (by omega)]
theorem Dts.cut {xs:List V} {ds:List PyData} (h:Dts N H k xs ds) (lo hi:Option Int):∃ es,Dts N H k (cutV xs lo hi) es∧Z0 es≤Z0 ds∧PyData.depthAll es≤PyData.depthAll ds:=by
 refine ⟨_,(h.drop _).take _,?_,?_⟩
 · exact n32_ (Zfg _ _) (Zfc _ _)
 · exact n32_ (Zby _ _) (Zb1 _ _)
theorem Zdm:∀ {ds:List PyData} {r:Nat} {d:PyData},ds[r]? = some d→Z0 ds=Z0 (ds.take r)+(nz d+1)+Z0 (ds.drop (r+1))∧d.depth≤PyData.depthAll ds
 | [],_,_,h=>by simp at h
 | x :: xs,0,d,h=>by
   simp at h;subst h;refine ⟨by simp [Z0],?_⟩;simp only [PyData.depthAll];omega
 | x :: xs,r+1,d,h=>by
   obtain ⟨a,b⟩:=Zdm (ds:=xs) (r:=r) (d:=d) (by simpa using h);refine ⟨?_,?_⟩
   · simp only [List.take_succ_cons,List.drop_succ_cons,Z0];omega
   · simp only [PyData.depthAll];omega
theorem Ze6:∀ (ds:List PyData),ds.length≤Z0 ds
 | []=>n6_ _
 | x :: xs=>by have:=Ze6 xs;simp only [n16_,Z0];omega
end
section
variable {N:Addr→Prop} {k n m:Nat} {H:Hp} {p:Addr}
mutual
theorem Dt.more (hp:H p=none):∀ {v:V} {d:PyData},Dt N H k v d→Dt (fun b=>N b∨b=p) H k v d
 | _,_,.non=>.non
 | _,_,.bl b=>.bl b
 | _,_,.int h=>.int h
 | _,_,.str x=>.str x
 | _,_,.tup h r=>.tup h (Dts.more hp r)
 | _,_,.lst h n m r=>.lst h (fun z=>z.elim n (fun e=>Zr h hp e)) m (Dts.more hp r)
 | _,_,.dic h=>.dic h
theorem Dts.more (hp:H p=none):∀ {vs:List V} {ds:List PyData},Dts N H k vs ds→Dts (fun b=>N b∨b=p) H k vs ds
 | _,_,.nil=>.nil
 | _,_,.cons r rs=>.cons (Dt.more hp r) (Dts.more hp rs)
end
theorem Dom.more {o:HO} (h:Dom N H) (e:H p=some o):Dom (fun b=>N b∨b=p) H:=fun b z=>z.elim (h b) (fun q=>⟨o,by rw [q];exact e⟩)
end
section
variable {X:Cx}
theorem Znb:MtR X "int.bit_length" (fun x vs H Q=>∃ i:Int,x=.int i∧vs=[]∧Q (.int (Builtin.Int.intBits i)) H):=by
 intro pins s σ H x vs v us Q I rx rv h;obtain ⟨i,rfl,rfl,q⟩:=h;obtain ⟨t,rfl⟩:=rx;cases rv
 exact call_int_bit_length ⟨.int _,H,I.tok _,⟨_,rfl⟩,q⟩
theorem Yw {x:Str} {i:Int} {pos:Pos} (h:∃ t,X.mg x=some (.int i t)) (hg:Gl X x) (hd:(x == ("__debug__" : Str))=false:=by decide):PE X (.Name x pos) (tC (.int i)):=by
 obtain ⟨t,h⟩:=h;exact Z5 hg h ⟨t,rfl⟩ hd
end
section
variable {X:Cx} {pins:List (Addr×Obj)} {σ:List (Option V)} {H:Hp} {s:Shared} {h':Heap}
theorem Inv.turnNew {t':Nat} {ch:List Addr} {a:Addr} {o:HO} (I:Inv X pins σ H s) (k:∀ b u,b∉ch→s.heap.get? b=some u→h'.get? b=some u) (hf:∀ b∈ch,FpOk X pins H b)
 (ha:s.z≤a) (new:ObjOk X.prog X.w (upd H a o) h' a o):Inv X pins σ (upd H a o) { s with heap:=h',toks:=t' }:=by
 have fa:H a=none:=I.hok.fresh ha;have na:∀ b u,H b=some u→b≠a:=fun b u e=>Zr e fa;have nc:∀ b u,H b=some u→b∉ch:=fun b u e z=>by rw [(hf b z).1] at e;cases e
 have la:∀ b u,s.heap.get? b=some u→b≠a:=fun b u e=>n24_ (n9_ (n7_ e) ha)
 refine I.step (g':=s.gens) (d':=s.drawn) (ch:=ch) (fun b hb=>?_) (fun b u _ _ hc e _=>k b u hc e) (fun b u _ _ hc e _=>⟨u.slots,k b u hc e⟩) (fun b u _ e n=>by rw [Zs (la b u e)];exact n)
  (fun b u hc e=>⟨u,k b u hc e⟩) (fun b xs e=>by rw [Zs (na b _ e)];exact e) (fun b u v e=>by rw [Zs (na b _ e)];exact e) (fun b ps e=>⟨#[],by rw [Zs (na b _ e),e];simp⟩) (fun m hm=>?_) (fun b u e=>?_) I.bare
 · obtain ⟨f0,f1,f2,f3,f4,f5⟩:=hf b hb;exact ⟨f3,f1,f4,f5⟩
 · obtain ⟨u,es,ep,hu,r⟩:=hm;exact ⟨u,es,ep,k _ u (fun z=>(hf _ z).2.1 rfl) hu,r⟩
 · by_cases hb:b=a
   · subst hb;rw [Zc] at e;cases e;exact new
   · rw [Zs hb] at e;refine (I.hok b u e).stay (fun c v hc q=>k c v ?_ q) (fun c q=>by rw [Zs (na c _ q)];exact q) fun c xs q=>by rw [Zs (na c _ q)];exact q
     rcases hc with z|z
     · rw [z];exact nc b u e
     · exact nc c _ z
theorem Inv.turnOnly {t':Nat} {ch:List Addr} (I:Inv X pins σ H s) (k:∀ b u,b∉ch→s.heap.get? b=some u→h'.get? b=some u) (hf:∀ b∈ch,FpOk X pins H b):Inv X pins σ H { s with heap:=h',toks:=t' }:=by
 have nc:∀ b u,H b=some u→b∉ch:=fun b u e z=>by rw [(hf b z).1] at e;cases e
 refine I.step (g':=s.gens) (d':=s.drawn) (ch:=ch) (fun b hb=>?_) (fun b u _ _ hc e _=>k b u hc e) (fun b u _ _ hc e _=>⟨u.slots,k b u hc e⟩) (fun _ _ _ _ n=>n)
  (fun b u hc e=>⟨u,k b u hc e⟩) (fun _ _ e=>e) (fun _ _ _ e=>e) (fun b ps e=>⟨#[],by rw [e];simp⟩) (fun m hm=>?_) (fun b u e=>?_) I.bare
 · obtain ⟨f0,f1,f2,f3,f4,f5⟩:=hf b hb;exact ⟨f3,f1,f4,f5⟩
 · obtain ⟨u,es,ep,hu,r⟩:=hm;exact ⟨u,es,ep,k _ u (fun z=>(hf _ z).2.1 rfl) hu,r⟩
 · refine (I.hok b u e).stay (fun c v hc q=>k c v ?_ q) (fun _ q=>q) fun _ _ q=>q
   rcases hc with z|z
   · rw [z];exact nc b u e
   · exact nc c _ z
end
inductive SK where
 | l
 | t
def SK.Sq (K:PySem.W.Frag) (H:Hp) (a:Addr) (xs:List V):SK→Prop
 | .l=>SqL K H a xs
 | .t=>SqT K H a xs
def SK.Is (h:Heap) (a:Addr) (vs:Array Value):SK→Prop
 | .l=>h.IsList a vs
 | .t=>h.IsTuple a vs
def SK.It (h:Heap) (it a:Addr) (i:Nat):SK→Prop
 | .l=>h.IsListIter it a i
 | .t=>h.IsTupleIter it a i
def SK.name:SK→String
 | .l => "list_iterator"
 | .t => "tuple_iterator"
abbrev SK.obj (k:SK) (a:Addr):Obj:={ cls:=.type k.name,data:=.fields #[.ref a,.int 0 0] }
theorem SK.It.ex {k:SK} {h:Heap} {it a:Addr} {i:Nat} (x:k.It h it a i):∃ o,h.get? it=some o∧o.cls=.type k.name∧o.data=.fields #[.ref a,.int i 0]:=by
 cases k<;>exact x
theorem SK.It.of {k:SK} {h:Heap} {it a:Addr} {i:Nat} (x:∃ o,h.get? it=some o∧o.cls=.type k.name∧o.data=.fields #[.ref a,.int i 0]):k.It h it a i:=by
 cases k<;>exact x
theorem SK.It.at {k:SK} {h h':Heap} {it a:Addr} {i:Nat} (x:k.It h it a i) (f:∀ o,h.get? it=some o→h'.get? it=some o):k.It h' it a i:=by
 obtain ⟨o,e,r⟩:=x.ex;exact .of ⟨o,f o e,r⟩
theorem SK.Is.ex {k:SK} {h:Heap} {a:Addr} {vs:Array Value} (x:k.Is h a vs):∃ o n,h.get? a=some o∧o.data=.seq vs n:=by
 cases k with
 | l=>obtain ⟨o,e,_,n,d⟩:=(show h.IsList a vs from x);exact ⟨o,n,e,d⟩
 | t=>obtain ⟨o,e,_,n,d⟩:=(show h.IsTuple a vs from x);exact ⟨o,n,e,d⟩
theorem SK.Is.at {k:SK} {h h':Heap} {a:Addr} {vs:Array Value} (x:k.Is h a vs) (f:∀ o,h.get? a=some o→h'.get? a=some o):k.Is h' a vs:=by
 cases k with
 | l=>obtain ⟨o,e,r⟩:=(show h.IsList a vs from x);exact (⟨o,f o e,r⟩:h'.IsList a vs)
 | t=>obtain ⟨o,e,r⟩:=(show h.IsTuple a vs from x);exact (⟨o,f o e,r⟩:h'.IsTuple a vs)
theorem SK.Sq.is {k:SK} {X:Cx} {pins:List (Addr×Obj)} {σ:St} {H:Hp} {s:Shared} {a:Addr} {xs:List V} (q:k.Sq X.K H a xs) (I:Inv X pins σ H s):∃ its,Vals xs its∧k.Is s.heap a its.toArray:=by
 cases k with
 | l=>obtain ⟨its,rv,p,_⟩:=I.list (show SqL X.K H a xs from q);exact ⟨its,rv,p.isList⟩
 | t=>obtain ⟨its,rv,p,_⟩:=I.tuple (show SqT X.K H a xs from q);exact ⟨its,rv,p⟩
theorem SK.Sq.inj {k:SK} {X:Cx} {pins:List (Addr×Obj)} {σ:St} {H:Hp} {s:Shared} {a:Addr} {xs ys:List V} (q:k.Sq X.K H a xs) (r:k.Sq X.K H a ys) (I:Inv X pins σ H s):xs=ys:=by
 cases k with
 | l=>exact I.list_inj q r
 | t=>exact I.tuple_inj q r
section
variable {prog:Program} {w:World} {A:Around} {E:Value→Shared→Prop} {s:Shared}
theorem SK.draw {k:SK} {it a:Addr} {i:Nat} {vs:Array Value} {x:Value} {Q:Value→Shared→Prop} (hi:k.It s.heap it a i) (ha:k.Is s.heap a vs) (hx:vs[i]? = some x)
 (q:∀ h1,k.It h1 it a (i+1)→Heap.SameBut it s.heap h1→Q x { s with heap:=h1 }):wpAny (model prog w) A (n13_ (.ref it)) Q E s:=by
 cases k with
 | l=>exact wpAny_nextOf_list_item hi ha hx q
 | t =>
   have hi':s.heap.IsTupleIter it a i:=hi;obtain ⟨o,e,c,d⟩:=id hi';obtain ⟨oa,ea,_,n,da⟩:=(show s.heap.IsTuple a vs from ha);unfold n13_;refine n0_ (wpAny_callSpecial?_slot (name:=Str.ofString "__next__") hi'.typeIs F.slot_tuple_iterator_next (wpAny_call_entry F.slot_tuple_iterator_next hi'.typeIs F.entry_tuple_iterator_next ?_ (F.args_tuple_iterator_next_1 _)));refine n0_ (m:=field (.ref it) 0) (wpAny_field e d (x:=.ref a) rfl ?_);show wpAny _ _ (if (Value.ref a == Value.none)=true then _ else _) _ _ s
   rw [if_neg (show ¬ ((Value.ref a == Value.none)=true) from n15_)];refine n0_ (m:=field (.ref it) 1) (wpAny_field e d (x:=.int i 0) rfl ?_);refine n0_ (m:=seqItems? (.ref a)) (wpAny_seqItems ea da ?_);simp only [n62_,hx];refine n0_ (wpAny_setField e d (by simp) (n4_ ⟨x,rfl,n4_ (q _ (SK.It.of ?_) (Heap.SameBut.update ..))⟩));exact ⟨_,Heap.get?_update_self _ e (Obj.isFreed_of_fields (Obj.data_mapFields d _)),(Obj.cls_mapFields ..).trans c,by rw [Obj.data_mapFields d];simp [rawInt]⟩
theorem SK.dry {k:SK} {it a:Addr} {i:Nat} {vs:Array Value} {Q:Value→Shared→Prop} (hh:A.handled=none) (hi:k.It s.heap it a i) (ha:k.Is s.heap a vs) (hx:vs[i]? = none)
 (q:∀ h1 e,Heap.ExtBut it s.heap h1→(∃ o,h1.get? e=some o∧o.cls=.type "StopIteration")→E (.ref e) { s with heap:=h1 }):wpAny (model prog w) A (n13_ (.ref it)) Q E s:=by
 cases k with
 | l=>exact wpAny_nextOf_list_end hh hi ha hx q
 | t =>
   have hi':s.heap.IsTupleIter it a i:=hi;obtain ⟨o,e,c,d⟩:=id hi';obtain ⟨oa,ea,_,n,da⟩:=(show s.heap.IsTuple a vs from ha);unfold n13_;refine n0_ (wpAny_callSpecial?_slot (name:=Str.ofString "__next__") hi'.typeIs F.slot_tuple_iterator_next (wpAny_call_entry F.slot_tuple_iterator_next hi'.typeIs F.entry_tuple_iterator_next ?_ (F.args_tuple_iterator_next_1 _)));refine n0_ (m:=field (.ref it) 0) (wpAny_field e d (x:=.ref a) rfl ?_);show wpAny _ _ (if (Value.ref a == Value.none)=true then _ else _) _ _ s
   rw [if_neg (show ¬ ((Value.ref a == Value.none)=true) from n15_)];refine n0_ (m:=field (.ref it) 1) (wpAny_field e d (x:=.int i 0) rfl ?_);refine n0_ (m:=seqItems? (.ref a)) (wpAny_seqItems ea da ?_);simp only [n62_,hx];refine n0_ (wpAny_rule (n0_ (wpAny_setField e d (by simp) ?_)));refine n0_ (m:=newExc (.type "StopIteration") []) ?_;simp only [newExc,newTuple];refine n0_ (wpAny_newObj_type (n0_ (m:=firstArgMember _ _) (wpAny_of_eq (a:=Value.none) (by first|rfl|(simp only [firstArgMember];rfl)) (wpAny_newObj_type ?_ (by size_fits)))) (by size_fits));simp only [raiseNew];refine n0_ (wpAny_handled ?_)
   first|rw [show A.in1.handled=none from hh]|rw [hh]
   refine n0_ (n4_ (wpAny_throw (q _ _ (((Heap.SameBut.update ..).extBut.push _).push _) ⟨_,n10_ _ rfl,rfl⟩)))
theorem SK.iter {k:SK} {a:Addr} {vs:Array Value} {Q:Value→Shared→Prop} (ha:k.Is s.heap a vs) (q:Q (.ref s.z) { s with heap:=s.heap.push (k.obj a) }):wpAny (model prog w) A (pyIter (.ref a)) Q E s:=by
 cases k with
 | l=>exact wpAny_pyIter_list ha q
 | t=>exact wpAny_pyIter_tuple ha q
end
structure ZP (z t o i j a b:Addr):Prop where
 tz:t≠z
 oz:o≠z
 iz:i≠z
 jz:j≠z
 to:t≠o
 ti:t≠i
 tj:t≠j
 oi:o≠i
 oj:o≠j
 ij:i≠j
 az:a≠z
 ao:a≠o
 ai:a≠i
 aj:a≠j
 bz:b≠z
 bo:b≠o
 bi:b≠i
 bj:b≠j
section
variable {prog:Program} {w:World} {A:Around} {E:Value→Shared→Prop} {s:Shared} {k l:SK}
theorem Zom {z t o i j a b:Addr} {m n:Nat} {xs ys:Array Value} {x y c d:Value} {Q:Value→Shared→Prop} (D:ZP z t o i j a b)
 (hz:IsZip s.heap z t o .none) (ht:IsPair s.heap t (.ref i) (.ref j)) (ho:IsPair s.heap o c d)
 (hi:k.It s.heap i a m) (hj:l.It s.heap j b n) (ha:k.Is s.heap a xs) (hb:l.Is s.heap b ys) (hx:xs[m]? = some x) (hy:ys[n]? = some y)
 (q:∀ h1,IsZip h1 z t o (rawInt s.z)→IsPair h1 o x y→k.It h1 i a (m+1)→l.It h1 j b (n+1)→IsPair h1 s.z x y→h1.objs.size=s.z+1 →
   (∀ e u,e≠z→e≠o→e≠i→e≠j→s.heap.get? e=some u→h1.get? e=some u)→Q (.ref s.z) { s with heap:=h1 }) :
 wpAny (model prog w) A (Builtin.«zip.__next__» ⟨[.ref z],[]⟩) (fun fin s'=>∃ v,fin=.done (.ret v)∧Q v s') E s:=by
 refine n0_ (m:=field (.ref z) 2) (wpAny_field hz rfl (x:=.bool false) rfl ?_);refine n0_ (m:=field (.ref z) 3) (wpAny_field hz rfl (x:=.ref t) rfl (n0_ (wpAny_seqItems ht rfl ?_)));refine n0_ (m:=n26_ (.ref z)) ?_;unfold n26_;refine n0_ (wpAny_field hz rfl (x:=.none) rfl (n4_ ?_));simp only [if_true];refine n0_ (wpAny_rule (n0_ (wpAny_field hz rfl (x:=.ref o) rfl (n0_ (wpAny_setField_rec hz (by simp) fun h1 z1 s1=>?_)))));replace z1:IsZip h1 z t o .ellipsis:=z1;refine n0_ ?_;simp only [List.zipIdx_cons,List.zipIdx_nil,List.forIn_cons,List.forIn_nil];refine n0_ (n0_ (wpAny_onRaise (n0_ (m:=n13_ (.ref i)) ?_)));refine SK.draw (hi.at fun u e=>s1.extBut _ _ D.iz e) (ha.at fun u e=>s1.extBut _ _ D.az e) hx fun h2 i2 s2=>n4_ ?_;have o2:IsPair h2 o c d:=s2.extBut _ _ D.oi (s1.extBut _ _ D.oz ho);refine n0_ (wpAny_seqItems o2 rfl (n0_ (wpAny_updateSeq_pair o2 fun h3 o3 s3=>?_)));replace o3:IsPair h3 o x d:=o3;refine n0_ (wpAny_letGo (n4_ (n0_ (n0_ (wpAny_onRaise (n0_ (m:=n13_ (.ref j)) ?_))))));refine SK.draw (hj.at fun u e=>s3.extBut _ _ D.oj.symm (s2.extBut _ _ D.ij.symm (s1.extBut _ _ D.jz e))) (hb.at fun u e=>s3.extBut _ _ D.bo (s2.extBut _ _ D.bi (s1.extBut _ _ D.bz e))) hy fun h4 j4 s4=>n4_ ?_;have o4:IsPair h4 o x d:=s4.extBut _ _ D.oj o3;refine n0_ (wpAny_seqItems o4 rfl (n0_ (wpAny_updateSeq_pair o4 fun h5 o5 s5=>?_)));replace o5:IsPair h5 o x y:=o5;refine n0_ (wpAny_letGo (n4_ (n4_ (n0_ (wpAny_seqItems o5 rfl (n0_ (wpAny_newTuple ?_)))))));have sz:h5.objs.size=s.z:=by rw [s5.1,s4.1,s3.1,s2.1,s1.1]
 have z5:IsZip h5 z t o .ellipsis:=s5.extBut _ _ D.oz.symm (s4.extBut _ _ D.jz.symm (s3.extBut _ _ D.oz.symm (s2.extBut _ _ D.iz.symm z1)));have k5:∀ e u,e≠z→e≠o→e≠i→e≠j→s.heap.get? e=some u→h5.get? e=some u:=fun e u e1 e2 e3 e4 g=>s5.extBut _ _ e2 (s4.extBut _ _ e4 (s3.extBut _ _ e2 (s2.extBut _ _ e3 (s1.extBut _ _ e1 g))));have i5:k.It h5 i a (m+1):=i2.at fun u e=>s5.extBut _ _ D.oi.symm (s4.extBut _ _ D.ij (s3.extBut _ _ D.oi.symm e));have j5:l.It h5 j b (n+1):=j4.at fun u e=>s5.extBut _ _ D.oj.symm e;have zl:z<h5.objs.size:=n7_ z5;refine n0_ (m:=Builtin.SmallTypes.ownedTupleHandOut (.ref z) (.ref h5.objs.size)) ?_;unfold Builtin.SmallTypes.ownedTupleHandOut;have z6:IsZip (h5.push { cls:=.type "tuple",data:=.seq #[x,y] }) z t o .ellipsis:=n2_ _ z5;refine n0_ (wpAny_setField_rec z6 (by simp) fun h7 z7 s7=>?_);replace z7:IsZip h7 z t o (rawInt h5.objs.size):=z7;refine wpAny_setField_rec z7 (by simp) fun h8 z8 s8=>?_;replace z8:IsZip h8 z t o (rawInt h5.objs.size):=z8;have up:∀ e u,e≠z→h5.get? e=some u→h8.get? e=some u:=fun e u e1 g=>s8.extBut _ _ e1 (s7.extBut _ _ e1 (n2_ _ g));have T8:IsPair h8 h5.objs.size x y:=s8.extBut _ _ (n56_ zl) (s7.extBut _ _ (n56_ zl) (n10_ _ rfl));have l8:h8.objs.size=h5.objs.size+1:=by rw [s8.1,s7.1,n50_]
 rw [sz] at z8 T8 l8;refine n4_ ⟨_,rfl,?_⟩;show Q (.ref h5.objs.size) _
 rw [sz];exact q h8 z8 (up _ _ D.oz o5) (i5.at fun u e=>up _ u D.iz e) (j5.at fun u e=>up _ u D.jz e) T8 l8 fun e u e1 e2 e3 e4 g=>up e u e1 (k5 e u e1 e2 e3 e4 g)
theorem Zrt {z t o i j a b:Addr} {m n:Nat} {xs ys:Array Value} {c d:Value} {Q:Fin→Shared→Prop} (hh:A.handled=none) (D:ZP z t o i j a b)
 (hz:IsZip s.heap z t o .none) (ht:IsPair s.heap t (.ref i) (.ref j)) (ho:IsPair s.heap o c d)
 (hi:k.It s.heap i a m) (hj:l.It s.heap j b n) (ha:k.Is s.heap a xs) (hb:l.Is s.heap b ys) (hx:xs[m]? = none∨ys[n]? = none)
 (q:∀ h1 e,(∀ e u,e≠z→e≠o→e≠i→e≠j→s.heap.get? e=some u→h1.get? e=some u)→(∃ u,h1.get? e=some u∧u.cls=.type "StopIteration")→E (.ref e) { s with heap:=h1 }) :
 wpAny (model prog w) A (Builtin.«zip.__next__» ⟨[.ref z],[]⟩) Q E s:=by
 refine n0_ (m:=field (.ref z) 2) (wpAny_field hz rfl (x:=.bool false) rfl ?_);refine n0_ (m:=field (.ref z) 3) (wpAny_field hz rfl (x:=.ref t) rfl (n0_ (wpAny_seqItems ht rfl ?_)));refine n0_ (m:=n26_ (.ref z)) ?_;unfold n26_;refine n0_ (wpAny_field hz rfl (x:=.none) rfl (n4_ ?_));simp only [if_true];refine n0_ (wpAny_rule (n0_ (wpAny_field hz rfl (x:=.ref o) rfl (n0_ (wpAny_setField_rec hz (by simp) fun h1 z1 s1=>?_)))));replace z1:IsZip h1 z t o .ellipsis:=z1;refine n0_ ?_;simp only [List.zipIdx_cons,List.zipIdx_nil,List.forIn_cons,List.forIn_nil];refine n0_ (n0_ (wpAny_onRaise (n0_ (m:=n13_ (.ref i)) ?_)));cases hm:xs[m]? with
 | none =>
   refine SK.dry hh (hi.at fun u e=>s1.extBut _ _ D.iz e) (ha.at fun u e=>s1.extBut _ _ D.az e) hm fun h2 e s2 ⟨u,g,cu⟩=>?_;have z2:IsZip h2 z t o .ellipsis:=s2 _ _ D.iz.symm z1;have ez:e≠z:=fun r=>by subst r;rw [z2] at g;cases g;simp at cu
   exact wpAny_setField_rec z2 (by simp) fun h3 _ s3=>q h3 e (fun e' u' e1 _ e3 _ r=>s3.extBut _ _ e1 (s2 _ _ e3 (s1.extBut _ _ e1 r))) ⟨u,s3.extBut _ _ ez g,cu⟩
 | some x =>
   have hn:ys[n]? = none:=by rcases hx with r|r;(rw [hm] at r;cases r);exact r
   refine SK.draw (hi.at fun u e=>s1.extBut _ _ D.iz e) (ha.at fun u e=>s1.extBut _ _ D.az e) hm fun h2 i2 s2=>n4_ ?_;have o2:IsPair h2 o c d:=s2.extBut _ _ D.oi (s1.extBut _ _ D.oz ho);refine n0_ (wpAny_seqItems o2 rfl (n0_ (wpAny_updateSeq_pair o2 fun h3 o3 s3=>?_)));refine n0_ (wpAny_letGo (n4_ (n0_ (n0_ (wpAny_onRaise (n0_ (m:=n13_ (.ref j)) ?_))))));refine SK.dry hh (hj.at fun u e=>s3.extBut _ _ D.oj.symm (s2.extBut _ _ D.ij.symm (s1.extBut _ _ D.jz e))) (hb.at fun u e=>s3.extBut _ _ D.bo (s2.extBut _ _ D.bi (s1.extBut _ _ D.bz e))) hn fun h4 e s4 ⟨u,g,cu⟩=>?_;have z4:IsZip h4 z t o .ellipsis:=s4 _ _ D.jz.symm (s3.extBut _ _ D.oz.symm (s2.extBut _ _ D.iz.symm z1));have ez:e≠z:=fun r=>by subst r;rw [z4] at g;cases g;simp at cu
   exact wpAny_setField_rec z4 (by simp) fun h5 _ s5=>q h5 e (fun e' u' e1 e2 e3 e4 r=>s5.extBut _ _ e1 (s4 _ _ e4 (s3.extBut _ _ e2 (s2.extBut _ _ e3 (s1.extBut _ _ e1 r))))) ⟨u,s5.extBut _ _ ez g,cu⟩
theorem Zgv {z t o i j a b:Addr} {m n:Nat} {xs ys:Array Value} {x y c d:Value} {Q:Option Value→Shared→Prop} (D:ZP z t o i j a b)
 (hz:IsZip s.heap z t o .none) (ht:IsPair s.heap t (.ref i) (.ref j)) (ho:IsPair s.heap o c d)
 (hi:k.It s.heap i a m) (hj:l.It s.heap j b n) (ha:k.Is s.heap a xs) (hb:l.Is s.heap b ys) (hx:xs[m]? = some x) (hy:ys[n]? = some y)
 (q:∀ h1,IsZip h1 z t o (rawInt s.z)→IsPair h1 o x y→k.It h1 i a (m+1)→l.It h1 j b (n+1)→IsPair h1 s.z x y→h1.objs.size=s.z+1 →
   (∀ e u,e≠z→e≠o→e≠i→e≠j→s.heap.get? e=some u→h1.get? e=some u)→Q (some (.ref s.z)) { s with heap:=h1 }) :
 wpAny (model prog w) A (pyNext (.ref z)) Q E s:=by
 have hT:s.TypeIs (.ref z) "zip" := ⟨_,hz,rfl⟩;unfold pyNext
 exact n0_ (wpAny_attempt (wpAny_callSpecial?_slot (name:=Str.ofString "__next__") hT F.slot_zip_next (wpAny_call_entry F.slot_zip_next hT F.entry_zip_next
  (Zom D hz ht ho hi hj ha hb hx hy fun h1 r1 r2 r3 r4 r5 r6 r7=>n4_ (q h1 r1 r2 r3 r4 r5 r6 r7)) (F.args_zip_next_1 _))))
theorem Zh3 {z t o i j a b:Addr} {m n:Nat} {xs ys:Array Value} {c d:Value} {Q:Option Value→Shared→Prop} (hh:A.handled=none) (D:ZP z t o i j a b)
 (hz:IsZip s.heap z t o .none) (ht:IsPair s.heap t (.ref i) (.ref j)) (ho:IsPair s.heap o c d)
 (hi:k.It s.heap i a m) (hj:l.It s.heap j b n) (ha:k.Is s.heap a xs) (hb:l.Is s.heap b ys) (hx:xs[m]? = none∨ys[n]? = none)
 (q:∀ h1,(∀ e u,e≠z→e≠o→e≠i→e≠j→s.heap.get? e=some u→h1.get? e=some u)→Q none { s with heap:=h1 }) :
 wpAny (model prog w) A (pyNext (.ref z)) Q E s:=by
 have hT:s.TypeIs (.ref z) "zip" := ⟨_,hz,rfl⟩;unfold pyNext
 refine n0_ (wpAny_attempt (wpAny_callSpecial?_slot (name:=Str.ofString "__next__") hT F.slot_zip_next (wpAny_call_entry F.slot_zip_next hT F.entry_zip_next
  (Zrt hh D hz ht ho hi hj ha hb hx fun h1 e r1 ⟨u,g,cu⟩=>?_) (F.args_zip_next_1 _))))
 exact n0_ (wpAny_isInstance (T := "StopIteration") (b:=true) ⟨u,g,cu⟩ isSubtype_stop (n4_ (q _ r1)))
abbrev zp1 (k:SK) (h:Heap) (a:Addr):Heap:=h.push (k.obj a)
abbrev zp2 (k l:SK) (h:Heap) (a b:Addr):Heap:=(zp1 k h a).push (l.obj b)
abbrev zp3 (k l:SK) (h:Heap) (a b:Addr):Heap:=(zp2 k l h a b).push { cls:=.type "tuple",data:=.seq #[.ref h.objs.size,.ref (zp1 k h a).objs.size] }
abbrev zp4 (k l:SK) (h:Heap) (a b:Addr):Heap:=(zp3 k l h a b).push { cls:=.type "tuple",data:=.seq #[.none,.none] }
abbrev zp5 (k l:SK) (h:Heap) (a b:Addr):Heap:=(zp4 k l h a b).push { cls:=.type "zip",data:=.fields #[.none,.bool false,.bool false,.ref (zp2 k l h a b).objs.size,.ref (zp3 k l h a b).objs.size] }
theorem Zm5 (k l:SK) (a b:Addr) (xs ys:Array Value):Meets (Builtin.«zip.__new__» ⟨[.type "zip",.ref a,.ref b],[]⟩) (fun _ R s=>k.Is s.heap a xs∧l.Is s.heap b ys∧R (.ok (.ret (.ref (zp4 k l s.heap a b).objs.size))) { s with heap:=zp5 k l s.heap a b }) :=
 .of_wp fun prog w A R s h=>by
  obtain ⟨hp,g,d,tk,os⟩:=s;obtain ⟨h1,h2,h⟩:=h;have hsub:=sub_zip;have r1:k.Is (Shared.heap ⟨hp,g,d,tk,os⟩) a xs:=h1;have r2:l.Is (Shared.heap ⟨hp.push (k.obj a),g,d,tk,os⟩) b ys:=SK.Is.at h2 fun o e=>n2_ _ e
  wp_walk using SK.iter r1,SK.iter r2
  exact ⟨_,rfl,h⟩
theorem Zkt {a b:Addr} {xs ys:Array Value} {Q:Value→Shared→Prop} (ha:k.Is s.heap a xs) (hb:l.Is s.heap b ys)
 (q:∀ h1,IsZip h1 (s.z+4) (s.z+2) (s.z+3) .none→IsPair h1 (s.z+2) (.ref s.z) (.ref (s.z+1)) →
   IsPair h1 (s.z+3) .none .none→k.It h1 s.z a 0→l.It h1 (s.z+1) b 0→h1.objs.size=s.z+5 →
   (∀ c o,s.heap.get? c=some o→h1.get? c=some o)→Q (.ref (s.z+4)) { s with heap:=h1 }) :
 wpAny (model prog w) A (call (.type "zip") [.ref a,.ref b]) Q E s:=by
 refine callType_new F.called_zip (by decide) (F.typeCall_zip_2 _ _) (F.newCall_zip_2 _ _) (fun obj=>F.args_object_init_3 obj _ _) F.entry_zip_new (Zm5 k l a b xs ys) ⟨ha,hb,?_⟩;have n1:(zp1 k s.heap a).objs.size=s.z+1:=n50_ ..;have n2:(zp2 k l s.heap a b).objs.size=s.z+2:=by rw [n50_,n1]
 have n3:(zp3 k l s.heap a b).objs.size=s.z+3:=by rw [n50_,n2]
 have n4:(zp4 k l s.heap a b).objs.size=s.z+4:=by rw [n50_,n3]
 have n5:(zp5 k l s.heap a b).objs.size=s.z+5:=by rw [n50_,n4]
 have m5:(zp5 k l s.heap a b).get? (zp4 k l s.heap a b).objs.size=some _:=n10_ _ rfl;have m4:(zp5 k l s.heap a b).get? (zp3 k l s.heap a b).objs.size=some _:=n2_ _ (n10_ _ rfl);have m3:(zp5 k l s.heap a b).get? (zp2 k l s.heap a b).objs.size=some _:=n2_ _ (n2_ _ (n10_ _ rfl));have m2:(zp5 k l s.heap a b).get? (zp1 k s.heap a).objs.size=some _:=n2_ _ (n2_ _ (n2_ _ (n10_ _ rfl)));have m1:(zp5 k l s.heap a b).get? s.z=some _:=n2_ _ (n2_ _ (n2_ _ (n2_ _ (n10_ _ rfl))));show _∧_
 rw [n2,n3,n4] at m5;rw [n1,n2] at m3;rw [n3] at m4;rw [n1] at m2;rw [n4];exact ⟨⟨_,m5,rfl⟩,q _ m5 m3 m4 (.of ⟨_,m1,rfl,rfl⟩) (.of ⟨_,m2,rfl,rfl⟩) n5 fun c o e=>n2_ _ (n2_ _ (n2_ _ (n2_ _ (n2_ _ e))))⟩
end
def Itz (k l:SK) (K:PySem.W.Frag) (a b:Addr):It :=
 ⟨fun i H=>∃ xs ys x y,k.Sq K H a xs∧l.Sq K H b ys∧xs[i]? = some x∧ys[i]? = some y,
  fun i H v H'=>∃ p x y,v=.ref p∧H p=none∧H'=upd H p (.tup [x,y])∧(∀ xs,k.Sq K H a xs→xs[i]? = some x)∧∀ ys,l.Sq K H b ys→ys[i]? = some y,
  fun i H=>∃ xs ys,k.Sq K H a xs∧l.Sq K H b ys∧(xs.length≤i∨ys.length≤i)⟩
theorem Zok {P:Program} {w:World} {K:PySem.W.Frag} {es:List Expr} {x1:Nat} {tp:Pos} {k l:SK} {z t o i j a b:Addr} (D:ZP z t o i j a b) :
 Turn P w K (.Tuple es x1 tp) (Itz k l K a b) [z,t,o,i,j] z (fun n h=>IsZip h z t o .none∧IsPair h t (.ref i) (.ref j)∧(∃ c d,IsPair h o c d)∧k.It h i a n∧l.It h j b n) where
 mem:=by simp
 obj:=fun n h st e he=>by
  obtain ⟨h1,h2,⟨c,d,h3⟩,h4,h5⟩:=st;simp only [n14_,n17_,or_false] at he
  rcases he with rfl|rfl|rfl|rfl|rfl
  · exact ⟨_,h1,fun v q=>by cases (show Data.fields _=Data.cell v from q)⟩
  · exact ⟨_,h2,fun v q=>by cases (show Data.seq _ _=Data.cell v from q)⟩
  · exact ⟨_,h3,fun v q=>by cases (show Data.seq _ _=Data.cell v from q)⟩
  · obtain ⟨u,e,_,q⟩:=h4.ex;exact ⟨u,e,fun v r=>by rw [q] at r;cases r⟩
  · obtain ⟨u,e,_,q⟩:=h5.ex;exact ⟨u,e,fun v r=>by rw [q] at r;cases r⟩
 keep:=fun n h h' st f=>by
  obtain ⟨h1,h2,⟨c,d,h3⟩,h4,h5⟩:=st;exact ⟨f z (by simp) _ h1,f t (by simp) _ h2,⟨c,d,f o (by simp) _ h3⟩,h4.at fun u e=>f i (by simp) u e,h5.at fun u e=>f j (by simp) u e⟩
 item:=by
  intro X hP hw hK hc n pins s σ H E I hf st hg;subst hP hw hK;obtain ⟨h1,h2,⟨c,d,h3⟩,h4,h5⟩:=st;obtain ⟨xs,ys,x,y,q1,q2,hx,hy⟩:=hg;obtain ⟨us,ru,pu⟩:=q1.is I;obtain ⟨vs,rv,pv⟩:=q2.is I;obtain ⟨u,hu,ux⟩:=ru.get hx;obtain ⟨v,hv,vy⟩:=rv.get hy;have lt:∀ {e o'},s.heap.get? e=some o'→e≠s.z:=fun e=>n24_ (n7_ e);refine Zgv D h1 h2 h3 h4 h5 pu pv (x:=u) (y:=v) (by simpa using hu) (by simpa using hv) fun g r1 r2 r3 r4 r5 r6 r7=>?_;refine ⟨_,rfl,wpAny_letOwnedTupleGo_zip r1 fun g2 z2 s2=>?_⟩;have hp:H s.z=none:=I.hok.fresh (n6_ _);have T2:IsPair g2 s.z u v:=s2.extBut _ _ (Ne.symm (lt h1)) r5
  have I2:Inv X pins σ (upd H s.z (.tup [x,y])) { s with heap:=g2,toks:=s.toks }:=by
   refine I.turnNew (ch:=[z,o,i,j]) (fun e o' ne q=>?_) (fun e he=>hf e ?_) (n6_ _) ⟨z2_,[u,v],.cons ux (.cons vy .nil),⟨_,T2,rfl,_,rfl⟩⟩
   · simp only [n14_,n17_,or_false,not_or] at ne;exact s2.extBut _ _ ne.1 (r7 e o' ne.1 ne.2.1 ne.2.2.1 ne.2.2.2 q)
   · simp only [n14_,n17_,or_false] at he ⊢
     rcases he with q|q|q|q<;>simp [q]
  refine ⟨.ref s.z,_,I2,rfl,⟨_,x,y,rfl,hp,rfl,fun xs' q=>by rw [q.inj q1 I];exact hx,fun ys' q=>by rw [q.inj q2 I];exact hy⟩,⟨z2,?_,⟨u,v,s2.extBut _ _ D.oz r2⟩,r3.at fun u' e=>s2.extBut _ _ D.iz e,r4.at fun u' e=>s2.extBut _ _ D.jz e⟩,fun e he=>?_⟩
  · exact s2.extBut _ _ D.tz (r7 _ _ D.tz D.to D.ti D.tj h2)
  · have ne:e≠s.z:=by
     simp only [n14_,n17_,or_false] at he
     rcases he with rfl|rfl|rfl|rfl|rfl
     · exact lt h1
     · exact lt h2
     · exact lt h3
     · obtain ⟨_,q,_⟩:=h4.ex;exact lt q
     · obtain ⟨_,q,_⟩:=h5.ex;exact lt q
    rw [Zs ne];exact (hf e he).1
 done:=by
  intro X hP hw hK hc n pins s σ H E I hf st hg;subst hP hw hK;obtain ⟨h1,h2,⟨c,d,h3⟩,h4,h5⟩:=st;obtain ⟨xs,ys,q1,q2,hl⟩:=hg;obtain ⟨us,ru,pu⟩:=q1.is I;obtain ⟨vs,rv,pv⟩:=q2.is I;have e1:=ru.length;have e2:=rv.length;refine Zh3 (I.ok.hd hc) D h1 h2 h3 h4 h5 pu pv ?_ fun g r=>⟨rfl,?_⟩
  · rcases hl with q|q
    · left;simp;omega
    · right;simp;omega
  · refine I.turnOnly (t':=s.toks) (ch:=[z,o,i,j]) (fun e o' ne q=>?_) (fun e he=>hf e ?_)
    · simp only [n14_,n17_,or_false,not_or] at ne;exact r e o' ne.1 ne.2.1 ne.2.2.1 ne.2.2.2 q
    · simp only [n14_,n17_,or_false] at he ⊢
      rcases he with q|q|q|q<;>simp [q]
 self:=fun _ _ _ _ _ st h=>wpAny_pyIter_zip st.1 h
theorem Zpn {n a b:Addr} (la:a<n) (lb:b<n):ZP (n+4) (n+2) (n+3) n (n+1) a b:=by
 constructor<;>(intro h;have h':@Eq Nat _ _:=h;have la':@LT.lt Nat _ _ _:=la;have lb':@LT.lt Nat _ _ _:=lb;clear h la lb;omega)
theorem Zhf:bootBuiltins "zip" = some (.type "zip"):=by decide +kernel
section
variable {X:Cx} {es:List Expr} {x1:Nat} {tp:Pos}
def iZip (k l:SK) (K:PySem.W.Frag) (ta:TA):TI:=fun σ H R=>ta σ H fun vs H1=>∃ a b,vs=[.ref a,.ref b]∧(∃ xs,k.Sq K H1 a xs)∧(∃ ys,l.Sq K H1 b ys)∧R (Itz k l K a b) H1
theorem Inv.fps {pins:List (Addr×Obj)} {σ:St} {H:Hp} {s:Shared} (I:Inv X pins σ H s) {fp:List Addr} (h:∀ b∈fp,s.z≤b):∀ b∈fp,FpOk X pins H b:=fun b hb=>I.fpOk (h b hb) (I.hok.fresh (h b hb))
theorem Zmy (k l:SK) {a b:Expr} {ta:TA} {p pos:Pos} (hg:Gl X "zip") (hm:X.mg "zip" = none) (ha:PA X [a,b] ta) (hs:starEach [a,b] X.env=[(false,eval a X.env),(false,eval b X.env)]:=by rfl) (hs2:starEach [b] X.env=[(false,eval b X.env)]:=by rfl) :
 PI X (.Tuple es x1 tp) (.Call (.Name "zip" p) [a,b] [] pos) (iZip k l X.K ta):=by
 intro pins s σ H R I h;refine Call_ (Zb6 I hg hm Zhf (n44_ (thn (ha pos pins s σ H _ I h) fun us s1 ⟨vs,H1,I1,r1,q1⟩=>?_) (by rw [hs,hs2]) (by rw [hs2];rfl)));obtain ⟨a,b,e,⟨xs,hx⟩,⟨ys,hy⟩,q⟩:=q1;subst e;cases r1 with
 | cons r rr =>
   cases rr with
   | cons r' rr =>
     cases rr
     cases r
     cases r'
     obtain ⟨us,ru,pu⟩:=hx.is I1;obtain ⟨ws,rw',pw⟩:=hy.is I1;have la:a<s1.z:=by obtain ⟨_,_,e,_⟩:=pu.ex;exact n7_ e
     have lb:b<s1.z:=by obtain ⟨_,_,e,_⟩:=pw.ex;exact n7_ e
     refine Zkt pu pw fun h1 m1 m2 m3 m4 m5 m6 m7=>wpAny_pyIter_zip m1 ?_;have I2:Inv X pins σ H1 { s1 with heap:=h1,toks:=s1.toks }:=I1.kept m7;refine ⟨_,_,_,_,H1,rfl,I2,Zok (z:=s1.z+4) (t:=s1.z+2) (o:=s1.z+3) (i:=s1.z) (j:=s1.z+1) (k:=k) (l:=l) (a:=a) (b:=b) ?_,⟨m1,m2,⟨_,_,m3⟩,m4,m5⟩,?_,q⟩
     · exact Zpn la lb
     · have f1:=I1.fps (fp:=[s1.z+4,s1.z+2,s1.z+3,s1.z,s1.z+1]) (by
        intro e he;simp only [n14_,n17_,or_false] at he
        rcases he with rfl|rfl|rfl|rfl|rfl<;>omega)
       exact f1
end
def Ite (k:SK) (K:PySem.W.Frag) (a:Addr):It :=
 ⟨fun i H=>∃ xs x,k.Sq K H a xs∧xs[i]? = some x,
  fun i H v H'=>∃ p x,v=.ref p∧H p=none∧H'=upd H p (.tup [.int i,x])∧∀ xs,k.Sq K H a xs→xs[i]? = some x,
  fun i H=>∃ xs,k.Sq K H a xs∧xs.length=i⟩
theorem SK.draws {prog:Program} {w:World} {A:Around} {k:SK} (hh:A.handled=none) (it a:Addr) (ne:a≠it) (vs:Array Value):Draws prog w A it [it,a] vs.size (fun i v=>vs[i]? = some v) (fun i h=>k.It h it a i∧k.Is h a vs) where
 live:=fun _ _ st=>let ⟨o,e,_⟩:=st.1.ex;⟨o,e⟩
 frame:=fun _ _ _ st f=>⟨st.1.at fun o e=>f it (by simp) o e,st.2.at fun o e=>f a (by simp) o e⟩
 item:=fun i s Q E hi st q=>SK.draw st.1 st.2 (x:=vs[i]) (by simp [hi]) fun h1 r1 r2=>q _ h1 s.toks (by simp [hi]) ⟨r1,st.2.at fun o e=>r2.extBut _ _ ne e⟩ r2
 done:=fun s Q E st q=>SK.dry hh st.1 st.2 (by simp) q
theorem Zny {P:Program} {w:World} {K:PySem.W.Frag} {es:List Expr} {x1:Nat} {tp:Pos} {k:SK} {e it a:Addr} (n1:e≠it) (n2:a≠e) (n3:a≠it) :
 Turn P w K (.Tuple es x1 tp) (Ite k K a) [e,it] e (fun n h=>(∃ old,IsEnum h e it n old)∧k.It h it a n) where
 mem:=by simp
 obj:=fun n h st b hb=>by
  obtain ⟨⟨old,h1⟩,h2⟩:=st;simp only [n14_,n17_,or_false] at hb
  rcases hb with rfl|rfl
  · exact ⟨_,h1,fun v q=>by cases (show Data.fields _=Data.cell v from q)⟩
  · obtain ⟨u,e,_,q⟩:=h2.ex;exact ⟨u,e,fun v r=>by rw [q] at r;cases r⟩
 keep:=fun n h h' st f=>by
  obtain ⟨⟨old,h1⟩,h2⟩:=st;exact ⟨⟨old,f e (by simp) _ h1⟩,h2.at fun u q=>f it (by simp) u q⟩
 item:=by
  intro X hP hw hK hc n pins s σ H E I hf st hg;subst hP hw hK;obtain ⟨⟨old,h1⟩,h2⟩:=st;obtain ⟨xs,x,q1,hx⟩:=hg;obtain ⟨us,ru,pu⟩:=q1.is I;obtain ⟨u,hu,ux⟩:=ru.get hx;have lt:∀ {b o'},s.heap.get? b=some o'→b≠s.z:=fun e=>n24_ (n7_ e);have hlen:n<us.toArray.size:=by have:=(n21_.mp hu).1;simpa using this
  refine wpAny_pyNext_enum_itemD (SK.draws (k:=k) (show X.A.in1.handled=none from I.ok.hd hc) it a n3 us.toArray) h1 ⟨h2,pu⟩ hlen n1 (by simp [n1,n2.symm]) fun v g tk hv r1 r2 r3 r4 r5=>?_
  have ev:v=u:=by
   have:us[n]? = some v:=by simpa using hv
   rw [hu] at this;exact (Option.some.inj this).symm
  subst ev;refine ⟨_,rfl,wpAny_letOwnedTupleGo_enum r1 fun g2 z2 s2=>?_⟩;have hp:H s.z=none:=I.hok.fresh (n6_ _);have T2:g2.get? s.z=some { cls:=.type "tuple",data:=.seq #[.int n tk,v] }:=s2.extBut _ _ (Ne.symm (lt h1)) r3
  have I2:Inv X pins σ (upd H s.z (.tup [.int n,x])) { s with heap:=g2,toks:=tk+1 }:=by
   refine I.turnNew (ch:=[e,it]) (fun b o' ne q=>?_) (fun b hb=>hf b hb) (n6_ _) ⟨z2_,[.int n tk,v],.cons ⟨tk,rfl⟩ (.cons ux .nil),⟨_,T2,rfl,_,rfl⟩⟩;simp only [n14_,n17_,or_false,not_or] at ne;exact s2.extBut _ _ ne.1 (r5 b o' ne.1 ne.2 q)
  refine ⟨.ref s.z,_,I2,rfl,⟨_,x,rfl,hp,rfl,fun xs' q=>by rw [q.inj q1 I];exact hx⟩,⟨⟨v,by simpa using z2⟩,r2.1.at fun u' q=>s2.extBut _ _ n1.symm q⟩,fun b hb=>?_⟩
  have ne:b≠s.z:=by
   simp only [n14_,n17_,or_false] at hb
   rcases hb with rfl|rfl
   · exact lt h1
   · obtain ⟨_,q,_⟩:=h2.ex;exact lt q
  rw [Zs ne];exact (hf b hb).1
 done:=by
  intro X hP hw hK hc n pins s σ H E I hf st hg;subst hP hw hK;obtain ⟨⟨old,h1⟩,h2⟩:=st;obtain ⟨xs,q1,hl⟩:=hg;obtain ⟨us,ru,pu⟩:=q1.is I;have e1:=ru.length;have en:us.toArray.size=n:=by rw [n5_];omega
  subst en;have D:=SK.draws (prog:=X.prog) (w:=X.w) (k:=k) (show X.A.in1.handled=none from I.ok.hd hc) it a n3 us.toArray;refine wpAny_pyNext_enum_endD D h1 ⟨h2,pu⟩ fun g r=>⟨rfl,?_⟩;exact I.turnOnly (t':=s.toks) (ch:=[it]) (fun b o' ne q=>r b o' (by simpa using ne) q) (fun b hb=>hf b (by simp at hb;simp [hb]))
 self:=fun _ _ _ _ _ st h=>by obtain ⟨⟨old,h1⟩,_⟩:=st;exact wpAny_pyIter_enum h1 h
open AutoSeq1 (wpAny_loadPart')
abbrev Zar (it:Addr):Obj:={ cls:=.type "enumerate",data:=.fields #[.none,.bool false,.ref it,rawInt 0,.none,.none] }
theorem Zle (k:SK) (a:Addr) (vs:Array Value) (o:Obj):Meets (Builtin.«enumerate.__new__» ⟨[.type "enumerate",.ref a],[]⟩) (fun _ R s=>s.heap.get? a=some o∧k.Is s.heap a vs ∧
 R (.ok (.ret (.ref (s.heap.push (k.obj a)).objs.size))) { s with heap:=(s.heap.push (k.obj a)).push (Zar s.z) }) :=
 .of_wp fun prog w A R s h=>by
  obtain ⟨hp,g,d,tk,os⟩:=s;obtain ⟨ho,hk,h⟩:=h;have hsub:=sub_enumerate;have r1:k.Is (Shared.heap ⟨hp,g,d,tk,os⟩) a vs:=hk
  wp_walk using wpAny_loadPart' ho
  refine wpAny_stack_any fun st=>n4_ ?_;split
  · rename_i c _ _ _ _ _
    cases (c == Value.type "enumerate")
    · (wp_walk using wpAny_loadPart' ho,SK.iter r1);exact ⟨_,rfl,h⟩
    · (wp_walk using wpAny_loadPart' ho,SK.iter r1);exact ⟨_,rfl,h⟩
  · (wp_walk using wpAny_loadPart' ho,SK.iter r1);exact ⟨_,rfl,h⟩
section
variable {prog:Program} {w:World} {A:Around} {E:Value→Shared→Prop} {s:Shared} {k:SK}
theorem Zmb {a:Addr} {vs:Array Value} {Q:Value→Shared→Prop} (ha:k.Is s.heap a vs)
 (q:∀ h1,IsEnum h1 (s.z+1) s.z 0 .none→k.It h1 s.z a 0→(∀ b o,s.heap.get? b=some o→h1.get? b=some o)→Q (.ref (s.z+1)) { s with heap:=h1 }) :
 wpAny (model prog w) A (call (.type "enumerate") [.ref a]) Q E s:=by
 obtain ⟨o,n,e,d⟩:=ha.ex;refine callType_new F.called_enumerate (by decide) (F.typeCall_enumerate_1 _) (F.newCall_enumerate_1 _) (fun obj=>F.args_object_init_2 obj _) F.entry_enumerate_new (Zle k a vs o) ⟨e,ha,?_⟩;have n1:(s.heap.push (k.obj a)).objs.size=s.z+1:=n50_ ..;have m2:((s.heap.push (k.obj a)).push (Zar s.z)).get? (s.heap.push (k.obj a)).objs.size=some (Zar s.z):=n10_ _ rfl;have m1:((s.heap.push (k.obj a)).push (Zar s.z)).get? s.z=some (k.obj a):=n2_ _ (n10_ _ rfl);show _∧_
 rw [n1] at m2;rw [n1];exact ⟨⟨_,m2,rfl⟩,q _ m2 (.of ⟨_,m1,rfl,rfl⟩) fun b o' r=>n2_ _ (n2_ _ r)⟩
end
theorem Ze7:bootBuiltins "enumerate" = some (.type "enumerate"):=by decide +kernel
section
variable {X:Cx} {es:List Expr} {x1:Nat} {tp:Pos}
def Zt0 (k:SK) (K:PySem.W.Frag) (ta:TA):TI:=fun σ H R=>ta σ H fun vs H1=>∃ a,vs=[.ref a]∧(∃ xs,k.Sq K H1 a xs)∧R (Ite k K a) H1
theorem ne3 {n a:Addr} (la:a<n):n+1≠n∧a≠n+1∧a≠n:=by
 have la':@LT.lt Nat _ a n:=la;refine ⟨fun h=>?_,fun h=>?_,fun h=>?_⟩<;>(have h':@Eq Nat _ _:=h;clear h la;omega)
theorem Znp (k:SK) {a:Expr} {ta:TA} {p pos:Pos} (hg:Gl X "enumerate") (hm:X.mg "enumerate" = none) (ha:PA X [a] ta) (hs:starEach [a] X.env=[(false,eval a X.env)]:=by rfl) :
 PI X (.Tuple es x1 tp) (.Call (.Name "enumerate" p) [a] [] pos) (Zt0 k X.K ta):=by
 intro pins s σ H R I h;refine Call_ (Zb6 I hg hm Ze7 (n44_ (thn (ha pos pins s σ H _ I h) fun us s1 ⟨vs,H1,I1,r1,q1⟩=>?_) hs rfl));obtain ⟨a,e,⟨xs,hx⟩,q⟩:=q1;subst e;cases r1 with
 | cons r rr =>
   cases rr
   cases r
   obtain ⟨us,ru,pu⟩:=hx.is I1;have la:a<s1.z:=by obtain ⟨_,_,e,_⟩:=pu.ex;exact n7_ e
   refine Zmb pu fun h1 m1 m4 m7=>wpAny_pyIter_enum m1 ?_;have I2:Inv X pins σ H1 { s1 with heap:=h1,toks:=s1.toks }:=I1.kept m7;obtain ⟨z1,z2,z3⟩:=ne3 la;refine ⟨_,_,_,_,H1,rfl,I2,Zny (e:=s1.z+1) (it:=s1.z) (k:=k) (a:=a) z1 z2 z3,⟨⟨_,m1⟩,m4⟩,?_,q⟩
   exact I1.fps (fp:=[s1.z+1,s1.z]) (by
    intro e he;simp only [n14_,n17_,or_false] at he
    rcases he with rfl|rfl
    · exact Nat.le_succ _
    · exact n6_ _)
end
theorem Zj2 {J:It} {n:Nat} {D:Addr} {g:TG} {tt:TT} {te:TE} {σ0:St} {H:Hp} {Q:VK} (Pv:Nat→St→Hp→Prop) (h0:Pv 0 σ0 (upd H D (.lst [])))
 (hx:∀ i σ H,i<n→Pv i σ H→J.go i H) (hz:∀ σ H,Pv n σ H→J.stop n H)
 (hs:∀ i x σ2 H2 H3,i<n→J.yld i H2 x H3→Pv i σ2 H2→g x σ2 H3 fun σ4 H4=>tt σ4 H4 fun b H5=>if b=true then te σ4 H5 fun y H6=>∃ ys,H6 D=some (.lst ys)∧ys.length<sizeLine ∧
   ∃ m',m'<n-i∧LcN n Pv (i+1) m' σ4 (upd H6 D (.lst (ys++[y]))) else ∃ m',m'<n-i∧LcN n Pv (i+1) m' σ4 H5)
 (hd:∀ σ2 H2,Pv n σ2 H2→Q (.ref D) H2):LcGo J g tt te σ0 H D Q:=by
 refine ⟨LcN n Pv,⟨_,n43_ _,rfl,h0⟩,?_⟩;rintro i m σ2 H2 ⟨hi,rfl,p⟩
 by_cases hlt:i<n
 · exact .inr ⟨hx i σ2 H2 hlt p,fun x H3 y=>hs i x σ2 H2 H3 hlt y p⟩
 · have e:i=n:=by omega
   subst e;exact .inl ⟨hz σ2 H2 p,hd σ2 H2 p⟩
theorem Zjd {J:It} {n:Nat} {g:TG} {tb:TS} {D:Ends} {σ:St} {H:Hp} (Pv:Nat→St→Hp→Prop) (h0:Pv 0 σ H)
 (hx:∀ i σ H,i<n→Pv i σ H→J.go i H) (hz:∀ σ H,Pv n σ H→J.stop n H)
 (hs:∀ i x σ H H',i<n→J.yld i H x H'→Pv i σ H→g x σ H' fun σ2 H2=>tb { D with nx:=Pv (i+1),ct:=Pv (i+1),bk:=D.nx } σ2 H2) (hd:∀ σ H,Pv n σ H→D.nx σ H) :
 ∃ W:Nat→Nat→St→Hp→Prop,(∃ m,W 0 m σ H)∧∀ i m σ H,W i m σ H →
   (J.stop i H∧D.nx σ H)∨(J.go i H∧∃ N:St→Hp→Prop,(∀ σ' H',N σ' H'→∃ m',m'<m∧W (i+1) m' σ' H')∧∀ x H',J.yld i H x H'→g x σ H' fun σ2 H2=>tb { D with nx:=N,ct:=N,bk:=D.nx } σ2 H2):=by
 refine ⟨fun i m σ H=>m=n-i∧i≤n∧Pv i σ H,⟨n,by simp,n43_ _,h0⟩,?_⟩;rintro i m σ H ⟨rfl,hi,p⟩
 by_cases hlt:i<n
 · exact .inr ⟨hx i σ H hlt p,Pv (i+1),fun σ' H' p'=>⟨n-(i+1),by omega,rfl,hlt,p'⟩,fun x H' y=>hs i x σ H H' hlt y p⟩
 · have e:i=n:=by omega
   subst e;exact .inl ⟨hz σ H p,hd σ H p⟩
end L2
namespace STb
open PySem
def step (M:Nat) (q:Nat×Nat):Nat×Nat:=SetTable.leap M q.1 q.2
def nth (M:Nat):Nat→Nat×Nat→Nat×Nat
 | 0,q=>q
 | n+1,q=>nth M n (step M q)
theorem Zol (M n:Nat) (q:Nat×Nat):nth M (n+1) q=step M (nth M n q):=by
 induction n generalizing q with
 | zero=>rfl
 | succ n ih=>exact ih (step M q)
theorem Zq8 (M a b:Nat) (q:Nat×Nat):nth M (a+b) q=nth M b (nth M a q):=by
 induction a generalizing q with
 | zero=>rw [Nat.zero_add];rfl
 | succ a ih=>rw [Nat.succ_add];exact ih (step M q)
theorem Zqi (M n:Nat) (q:Nat×Nat):(nth M n q).2=q.2/32^n:=by
 induction n generalizing q with
 | zero=>simp [nth]
 | succ n ih =>
   show (nth M n (step M q)).2=_
   rw [ih];show q.2/32/32^n=_
   rw [Nat.div_div_eq_div_mul,Nat.pow_succ,Nat.mul_comm]
def fz (M:Nat) (i:Nat):Nat:=(i*5+1) % (M+1)
def fzn (M:Nat):Nat→Nat→Nat
 | 0,i=>i
 | n+1,i=>fzn M n (fz M i)
theorem Ztd (M n:Nat) (i:Nat):nth M n (i,0)=(fzn M n i,0):=by
 induction n generalizing i with
 | zero=>rfl
 | succ n ih =>
   show nth M n (step M (i,0))=_
   have e:step M (i,0)=(fz M i,0):=by
    unfold step SetTable.leap fz
    simp
   rw [e,ih];rfl
def masks (M:Nat):Prop:=M=7∨M=31∨M=127
def orb (M:Nat):List Nat:=(List.range (M+1)).map fun n=>fzn M n 0
theorem Ziw (M a b i:Nat):fzn M (a+b) i=fzn M b (fzn M a i):=by
 induction a generalizing i with
 | zero=>rw [Nat.zero_add];rfl
 | succ a ih=>rw [Nat.succ_add];exact ih (fz M i)
def good (M:Nat):Bool:=(List.range (M+1)).all (fun j=>(orb M).contains j)&&fzn M (M+1) 0 == 0
theorem Ztx:good 7=true:=by decide +kernel
theorem Zsd:good 31=true:=by decide +kernel
theorem Zrf:good 127=true:=by decide +kernel
theorem Zqd {M:Nat} (h:masks M):good M=true:=by
 rcases h with rfl|rfl|rfl
 · exact Ztx
 · exact Zsd
 · exact Zrf
theorem Zud {M i j:Nat} (h:masks M) (hi:i≤M) (hj:j≤M):∃ n,n≤M∧fzn M n i=j:=by
 have g:=Zqd h;unfold good at g;rw [n27_,n33_] at g;obtain ⟨g1,g2⟩:=g;have g2':fzn M (M+1) 0=0:=by simpa using g2
 have mem:∀ j,j≤M→∃ a,a≤M∧fzn M a 0=j:=fun j hj=>by
  have:=g1 j (by simpa using Nat.lt_succ_of_le hj)
  have:j∈orb M:=by simpa using this
  unfold orb at this;obtain ⟨a,ha,e⟩:=n42_.mp this;exact ⟨a,Nat.le_of_lt_succ (n35_.mp ha),e⟩
 obtain ⟨a,ha,ea⟩:=mem i hi;obtain ⟨b,hb,eb⟩:=mem j hj
 by_cases hab:a≤b
 · refine ⟨b-a,by omega,?_⟩;rw [← ea,← Ziw,show a+(b-a)=b by omega];exact eb
 · refine ⟨M+1-a+b,by omega,?_⟩;rw [← ea,← Ziw,show a+(M+1-a+b)=(M+1)+b by omega,Ziw,g2'];exact eb
theorem Zqt (M:Nat) (q:Nat×Nat):(step M q).1≤M:=Nat.le_of_lt_succ (Nat.mod_lt _ (Nat.succ_pos _))
theorem Ztf {M n:Nat} {q:Nat×Nat} (h:q.1≤M):(nth M n q).1≤M:=by
 cases n with
 | zero=>exact h
 | succ n=>rw [Zol];exact Zqt M _
theorem Zti {M i p j:Nat} (h:masks M) (hi:i≤M) (hp:p<2^64) (hj:j≤M):∃ n,n≤M+13∧(nth M n (i,p)).1=j:=by
 have z:(nth M 13 (i,p)).2=0:=by
  rw [Zqi];refine Nat.div_eq_of_lt (n9_ hp ?_);decide
 have e:nth M 13 (i,p)=((nth M 13 (i,p)).1,0):=by rw [← z]
 obtain ⟨n,hn,en⟩:=Zud h (Ztf (n:=13) (q:=(i,p)) hi) hj;refine ⟨13+n,by omega,?_⟩;rw [Zq8,e,Ztd];exact en
theorem Zmn (h:Int):SetTable.bits h<2^64:=by
 unfold SetTable.bits;have h1:(0:Int)≤h % 2^64:=Int.emod_nonneg _ (by decide);have h2:h % 2^64<2^64:=Int.emod_lt_of_pos _ (by decide);omega
theorem Zk4 {t:SetTable} {j:Nat} (hd:t.dummies=#[]) (hj:j∉t.place.toList):t.slot j=.empty:=by
 unfold SetTable.slot
 have h1:(t.place[SetTable.below t.place j]? == some j)=false:=by
  rw [beq_eq_false_iff_ne];intro e;exact hj (by simpa using Array.mem_of_getElem? e)
 have h2:SetTable.has t.dummies j=false:=by
  rw [hd];unfold SetTable.has
  simp
 simp only [h1,h2];rfl
theorem Zlo {t:SetTable} {j:Nat} (hd:t.dummies=#[]):t.slot j=.empty∨∃ i,t.slot j=.live i∧t.place[i]? = some j:=by
 by_cases h:t.place[SetTable.below t.place j]? = some j
 · refine .inr ⟨_,?_,h⟩;unfold SetTable.slot;simp only [h,beq_self_eq_true,if_true]
 · left
   have h1:(t.place[SetTable.below t.place j]? == some j)=false:=beq_eq_false_iff_ne.mpr h
   have h2:SetTable.has t.dummies j=false:=by
    rw [hd];unfold SetTable.has
    simp
   unfold SetTable.slot;simp only [h1,h2];rfl
theorem Zi1 (l:List Nat) (n:Nat) (h:l.length<n):∃ j,j<n∧j∉l:=by
 induction n generalizing l with
 | zero=>omega
 | succ n ih =>
   by_cases hm:n∈l
   · obtain ⟨j,hj,hl⟩:=ih (l.filter (·≠n)) (by
      have:(l.filter (·≠n)).length<l.length:=by
       refine List.length_filter_lt_length_iff_exists.mpr ⟨n,hm,by simp⟩
      omega)
     refine ⟨j,by omega,fun z=>hl ?_⟩;rw [List.mem_filter];exact ⟨z,by simp;omega⟩
   · exact ⟨n,Nat.lt_succ_self n,hm⟩
def adv (t:SetTable):Nat→SetTable.Probe→SetTable.Probe
 | 0,p=>p
 | n+1,p=>adv t n (t.advance p)
theorem Zq9 (t:SetTable) (a b:Nat) (p:SetTable.Probe):adv t (a+b) p=adv t b (adv t a p):=by
 induction a generalizing p with
 | zero=>rw [Nat.zero_add];rfl
 | succ a ih=>rw [Nat.succ_add];exact ih (t.advance p)
def start (t:SetTable) (q:Nat×Nat) (d:Option Nat):SetTable.Probe:={ j:=q.1,more:=SetTable.runEnd t.mask q.1-q.1,i:=q.1,perturb:=q.2,dummy:=d }
theorem Zr6 (M i:Nat):SetTable.runEnd M i-i≤9:=by
 unfold SetTable.runEnd;split<;>omega
theorem Zl1 (t:SetTable):∀ (k:Nat) (p:SetTable.Probe),p.more=k→adv t (k+1) p=start t (step t.mask (p.i,p.perturb)) p.dummy
 | 0,p,h=>by
   show t.advance p=_
   unfold SetTable.advance;rw [if_neg (by omega)];rfl
 | k+1,p,h=>by
   show adv t (k+1) (t.advance p)=_
   have e:t.advance p={ p with j:=p.j+1,more:=p.more-1 }:=by
    unfold SetTable.advance;rw [if_pos (by omega)]
   rw [e]
   have:=Zl1 t k { p with j:=p.j+1,more:=p.more-1 } (by show p.more-1=k;omega)
   rw [this]
theorem Zns (t:SetTable) (n:Nat) (q:Nat×Nat) (d:Option Nat):∃ m,m≤10*n∧adv t m (start t q d)=start t (nth t.mask n q) d:=by
 induction n generalizing q with
 | zero=>exact ⟨0,n6_ _,rfl⟩
 | succ n ih =>
   obtain ⟨m,hm,e⟩:=ih (step t.mask q);refine ⟨(SetTable.runEnd t.mask q.1-q.1)+1+m,?_,?_⟩
   · have:=Zr6 t.mask q.1;omega
   · rw [Zq9,Zl1 t (SetTable.runEnd t.mask q.1-q.1) (start t q d) rfl];exact e
def Near (t:SetTable) (n:Nat) (p:SetTable.Probe):Prop:=∃ m,m≤n∧t.slot (adv t m p).j=.empty
theorem near_start {t:SetTable} {h:Int} (hm:masks t.mask) (hd:t.dummies=#[]) (hl:t.place.size<t.mask+1):Near t (10*(t.mask+13)) (t.probeStart h):=by
 obtain ⟨j,hj,hn⟩:=Zi1 t.place.toList (t.mask+1) (by simpa using hl);have hi:SetTable.bits h % (t.mask+1)≤t.mask:=Nat.le_of_lt_succ (Nat.mod_lt _ (Nat.succ_pos _));obtain ⟨n,hn2,e⟩:=Zti hm hi (Zmn h) (Nat.le_of_lt_succ hj);obtain ⟨m,hm2,e2⟩:=Zns t n (SetTable.bits h % (t.mask+1),SetTable.bits h) none;refine ⟨m,by omega,?_⟩
 have:t.probeStart h=start t (SetTable.bits h % (t.mask+1),SetTable.bits h) none:=rfl
 rw [this,e2];show t.slot (nth t.mask n _).1=.empty
 rw [e];exact Zk4 hd hn
theorem Zhy (t:SetTable):∀ (n:Nat) (p:SetTable.Probe),(adv t n p).dummy=p.dummy
 | 0,_=>rfl
 | n+1,p=>by
   show (adv t n (t.advance p)).dummy=_
   rw [Zhy t n];unfold SetTable.advance;split<;>rfl
theorem go_near {t:SetTable} {f:Nat→Int} {h:Int} (hd:t.dummies=#[]):∀ (n:Nat) (fuel:Nat) (p:SetTable.Probe),p.dummy=none→Near t n p→n<fuel →
 (∃ j,SetTable.probe.go t f h fuel p=some (.empty j none)∧t.slot j=.empty) ∨
 (∃ j i q,SetTable.probe.go t f h fuel p=some (.candidate j i q)∧t.slot j=.live i∧t.place[i]? = some j∧q.dummy=none∧∃ n',n'<n∧Near t n' q)
 | n,0,p,_,_,hf=>by omega
 | n,fuel+1,p,hp,⟨m,hm,e⟩,hf=>by
   rcases Zlo (j:=p.j) hd with hs|⟨i,hs,hi⟩
   · left
     refine ⟨p.j,?_,hs⟩;unfold SetTable.probe.go;rw [hs,hp]
   · have hm0:m≠0:=by
      rintro rfl
      have:t.slot p.j=.empty:=e
      rw [hs] at this;cases this
     obtain ⟨k,rfl⟩:∃ k,m=k+1:=⟨m-1,by omega⟩;have e':t.slot (adv t k (t.advance p)).j=.empty:=e
     have hp':(t.advance p).dummy=none:=by
      have:=Zhy t 1 p
      exact this.trans hp
     by_cases hc:(f i == h)=true
     · right
       refine ⟨p.j,i,t.advance p,?_,hs,hi,hp',n-1,by omega,k,by omega,e'⟩;unfold SetTable.probe.go;rw [hs];simp only [hc,if_true]
     · have:=go_near (f:=f) (h:=h) hd (n-1) fuel (t.advance p) hp' ⟨k,by omega,e'⟩ (by omega)
       have eq:SetTable.probe.go t f h (fuel+1) p=SetTable.probe.go t f h fuel (t.advance p):=by
        conv=>lhs;unfold SetTable.probe.go
        rw [hs];simp only [hc,if_false];rfl
       rw [eq]
       rcases this with r|⟨j,i',q,r1,r2,r3,r4,n',r5,r6⟩
       · exact .inl r
       · exact .inr ⟨j,i',q,r1,r2,r3,r4,n',by omega,r6⟩
theorem Zg4 {M:Nat} {owner:Array (Option Nat)}:∀ (n fuel:Nat) (q:Nat×Nat),(∃ m,m≤n∧(owner.getD (nth M m q).1 (some 0)).isNone=true)→n<fuel →
 ∃ j,SetTable.layClean.free M owner fuel q.1 q.2=some j∧(owner.getD j (some 0)).isNone=true
 | n,0,_,_,hf=>by omega
 | n,fuel+1,q,⟨m,hm,e⟩,hf=>by
   unfold SetTable.layClean.free;cases hfi:(List.range (SetTable.runEnd M q.1+1-q.1)).find? fun k=>(owner.getD (q.1+k) (some 0)).isNone with
   | some k =>
     refine ⟨q.1+k,rfl,?_⟩;exact (List.find?_some (p:=fun k=>(owner.getD (q.1+k) (some 0)).isNone) hfi)
   | none =>
     have hm0:m≠0:=by
      rintro rfl
      have e0:(owner.getD q.1 (some 0)).isNone=true:=e
      have:=List.find?_eq_none.mp hfi 0 (by
       rw [n35_];unfold SetTable.runEnd;split<;>omega)
      rw [Nat.add_zero] at this;exact this e0
     obtain ⟨k,rfl⟩:∃ k,m=k+1:=⟨m-1,by omega⟩;exact Zg4 (n-1) fuel (step M q) ⟨k,by omega,e⟩ (by omega)
def cnt (owner:Array (Option Nat)):Nat:=owner.toList.countP (·.isSome)
structure Own (M n:Nat) (owner:Array (Option Nat)):Prop where
 size:owner.size=M+1
 cnt:cnt owner=n
 lt:∀ (j k:Nat),owner[j]? = some (some k)→k<n
theorem Zax {α:Type} (p:α→Bool):∀ (l:List α),l.countP p<l.length→∃ (j:Nat) (x:α),l[j]? = some x∧p x=false
 | [],h=>by simp at h
 | x :: l,h=>by
   by_cases hx:p x=true
   · rw [List.countP_cons,if_pos hx,n16_] at h;obtain ⟨j,y,e,hy⟩:=Zax p l (by omega);exact ⟨j+1,y,by simpa using e,hy⟩
   · exact ⟨0,x,rfl,by simpa using hx⟩
theorem Zex {α:Type} (p:α→Bool):∀ (l:List α) (j:Nat) (x y:α),l[j]? = some x→p x=false→p y=true→(l.set j y).countP p=l.countP p+1
 | [],j,x,y,h,_,_=>by simp at h
 | z :: l,0,x,y,h,hx,hy=>by
   have:z=x:=by simpa using h
   subst this;simp [List.countP_cons,hx,hy]
 | z :: l,j+1,x,y,h,hx,hy=>by
   have:=Zex p l j x y (by simpa using h) hx hy
   simp only [List.set_cons_succ,List.countP_cons,this];omega
theorem Own.free {M n:Nat} {owner:Array (Option Nat)} (o:Own M n owner) (hm:masks M) (hn:n<M+1) (h:Int):∃ j,SetTable.layClean.free M owner (SetTable.turns M) (SetTable.bits h % (M+1)) (SetTable.bits h)=some j∧owner[j]? = some none:=by
 obtain ⟨j,x,e,hx⟩:=Zax (fun x:Option Nat=>x.isSome) owner.toList (by
  have:owner.toList.countP (fun x:Option Nat=>x.isSome)=n:=o.cnt
  rw [this,Array.length_toList,o.size];exact hn)
 have hj:j≤M:=by
  have:=(n21_.mp e).1
  rw [Array.length_toList,o.size] at this;omega
 have e':owner[j]? = some x:=by simpa using e
 obtain ⟨m,hm2,em⟩:=Zti hm (Nat.le_of_lt_succ (Nat.mod_lt (SetTable.bits h) (Nat.succ_pos M))) (Zmn h) hj
 obtain ⟨j',r1,r2⟩:=Zg4 (M:=M) (owner:=owner) (M+13) (SetTable.turns M) (SetTable.bits h % (M+1),SetTable.bits h) ⟨m,hm2,by
  rw [em,Array.getD_eq_getD_getElem?,e'];cases x with
  | none=>rfl
  | some _=>cases hx⟩ (by unfold SetTable.turns;omega)
 refine ⟨j',r1,?_⟩;rw [Array.getD_eq_getD_getElem?] at r2;cases q:owner[j']? with
 | none=>rw [q] at r2;cases r2
 | some y =>
   rw [q] at r2;cases y with
   | none=>rfl
   | some _=>cases r2
theorem Own.put {M n:Nat} {owner:Array (Option Nat)} (o:Own M n owner) {j:Nat} (hj:owner[j]? = some none):Own M (n+1) (owner.setIfInBounds j (some n)) where
 size:=by rw [Array.size_setIfInBounds];exact o.size
 cnt:=by
  unfold STb.cnt;rw [Array.toList_setIfInBounds];rw [Zex (fun x:Option Nat=>x.isSome) owner.toList j none (some n) (by simpa using hj) rfl rfl]
  have:owner.toList.countP (fun x:Option Nat=>x.isSome)=n:=o.cnt
  rw [this]
 lt:=fun i k e=>by
  rw [Array.getElem?_setIfInBounds] at e;split at e
  · split at e
    · have:n=k:=by simpa using e
      omega
    · cases e
  · have:=o.lt i k e;omega
def Zd7 (M:Nat) (acc:Option (Array (Option Nat)×Nat)) (h:Int):Option (Array (Option Nat)×Nat):=do
 let (owner,k) ← acc
 let j ← SetTable.layClean.free M owner (SetTable.turns M) (SetTable.bits h % (M+1)) (SetTable.bits h)
 pure (owner.setIfInBounds j (some k),k+1)
theorem Zkc {M:Nat} (hm:masks M):∀ (hs:List Int) (n:Nat) (owner:Array (Option Nat)),Own M n owner→n+hs.length<M+1→∃ owner',hs.foldl (Zd7 M) (some (owner,n))=some (owner',n+hs.length)∧Own M (n+hs.length) owner'
 | [],n,owner,o,_=>⟨owner,rfl,o⟩
 | h :: hs,n,owner,o,hl=>by
   rw [n16_] at hl;obtain ⟨j,r1,r2⟩:=o.free hm (by omega) h
   have e:Zd7 M (some (owner,n)) h=some (owner.setIfInBounds j (some n),n+1):=by
    unfold Zd7;show (SetTable.layClean.free M owner (SetTable.turns M) (SetTable.bits h % (M+1)) (SetTable.bits h)).bind _=_
    rw [r1];rfl
   obtain ⟨owner',e2,o2⟩:=Zkc hm hs (n+1) _ (o.put r2) (by omega);refine ⟨owner',?_,?_⟩
   · rw [List.foldl_cons,e,e2,n16_];congr 2;omega
   · rw [n16_,show n+(hs.length+1)=n+1+hs.length by omega];exact o2
theorem own0 (M:Nat):Own M 0 (Array.replicate (M+1) none) where
 size:=by simp
 cnt:=by
  unfold STb.cnt;rw [Array.toList_replicate,List.countP_replicate];rfl
 lt:=fun j k e=>by
  rw [Array.getElem?_replicate] at e;split at e<;>cases e
theorem Zi3 {M:Nat} (hm:masks M) (hs:Array Int) (hl:hs.size<M+1):∃ owner,SetTable.layClean M hs=some owner∧Own M hs.size owner:=by
 obtain ⟨owner,e,o⟩:=Zkc hm hs.toList 0 _ (own0 M) (by simpa using hl);refine ⟨owner,?_,by simpa using o⟩;unfold SetTable.layClean;rw [← Array.foldl_toList]
 have:(hs.toList.foldl (Zd7 M) (some (Array.replicate (M+1) none,0)))=some (owner,0+hs.toList.length):=e
 show (List.foldl (Zd7 M) (some (Array.replicate (M+1) none,0)) hs.toList).map (·.1)=some owner
 rw [this];rfl
theorem Xq {α β:Type} (f:α→Option β):∀ l:List α,(l.filterMap f).length=l.countP (fun x=>(f x).isSome)
 | []=>rfl
 | x :: l=>by
   rw [List.countP_cons];cases h:f x with
   | none=>rw [List.filterMap_cons_none h,Xq f l];simp
   | some y=>rw [List.filterMap_cons_some h,n16_,Xq f l];simp
theorem Zjl {M n:Nat} {owner:Array (Option Nat)} (o:Own M n owner):((List.range (M+1)).filterMap fun j=>(owner.getD j none).map (j,·)).length=n:=by
 rw [Xq]
 have e:(List.range (M+1)).countP (fun j=>((owner.getD j none).map (j,·)).isSome)=(List.range owner.size).countP (fun j=>(owner.getD j none).isSome):=by
  rw [o.size];refine List.countP_congr fun j _=>?_;cases owner.getD j none<;>simp
 rw [e]
 have e2:owner.toList=(List.range owner.size).map (fun j=>owner.getD j none):=by
  refine List.ext_getElem (by simp) fun i h1 h2=>?_;have hi:i<owner.size:=by simpa using h1
  simp [Array.getD,hi]
 have:=o.cnt
 unfold STb.cnt at this;rw [e2,List.countP_map] at this;exact this
theorem Zra {M n:Nat} {owner:Array (Option Nat)} (o:Own M n owner):∀ q∈((List.range (M+1)).filterMap fun j=>(owner.getD j none).map (j,·)),q.2<n:=fun q hq=>by
 obtain ⟨j,_,e⟩:=List.mem_filterMap.mp hq;cases h:owner.getD j none with
 | none=>rw [h] at e;cases e
 | some k =>
   rw [h] at e;have e':(j,k)=q:=by simpa using e
   rw [← e'];refine o.lt j k ?_;rw [Array.getD_eq_getD_getElem?] at h;cases g:owner[j]? with
   | none=>rw [g] at h;cases h
   | some y=>rw [g] at h;exact congrArg some h
theorem relaid_ok {t:SetTable} {hs:Array Int} {wanted M:Nat} (hM:SetTable.sizeAbove wanted-1=M) (hm:masks M) (hl:hs.size<M+1):∃ (t':SetTable) (order:Array Nat),t.relaid hs wanted=some (t',order) ∧
 t'.mask=M∧t'.dummies=#[]∧t'.place.size=hs.size∧order.size=hs.size∧∀ k∈order.toList,k<hs.size:=by
 obtain ⟨owner,e,o⟩:=Zi3 hm hs hl;unfold SetTable.relaid SetTable.laid;rw [hM,e];refine ⟨_,_,rfl,rfl,rfl,?_,?_,fun k hk=>?_⟩
 · simp only [n5_,n23_];exact Zjl o
 · simp only [n5_,n23_];exact Zjl o
 · have hk':k∈List.map (fun q:Nat×Nat=>q.2) ((List.range (M+1)).filterMap fun j=>(owner.getD j none).map (j,·)):=hk;obtain ⟨q,hq,rfl⟩:=n42_.mp hk';exact Zra o q hq
theorem pick_size {α:Type} {es:Array α} {order:Array Nat} (h1:order.size=es.size) (h2:∀ k∈order.toList,k<es.size):(order.filterMap (es[·]?)).size=es.size∧∀ x∈(order.filterMap (es[·]?)).toList,x∈es.toList:=by
 constructor
 · rw [← Array.length_toList,Array.toList_filterMap,Xq,← h1,← Array.length_toList];rw [List.countP_eq_length];intro k hk
   have:k<es.size:=h2 k hk
   simp [this]
 · intro x hx;rw [Array.toList_filterMap] at hx;obtain ⟨k,_,e⟩:=List.mem_filterMap.mp hx;exact by simpa using Array.mem_of_getElem? e
theorem insertAt_size {α:Type} (xs:Array α) (p:Nat) (x:α):(SetTable.insertAt xs p x).size=xs.size+1:=by
 unfold SetTable.insertAt;simp only [Array.size_append,Array.size_push,Array.size_extract];omega
theorem insertAt_mem {α:Type} {xs:Array α} {p:Nat} {x y:α} (h:y∈(SetTable.insertAt xs p x).toList):y=x∨y∈xs.toList:=by
 unfold SetTable.insertAt at h;rw [Array.toList_append,Array.toList_push,n57_,n57_] at h
 rcases h with (h|h)|h
 · right;rw [Array.toList_extract] at h;exact List.mem_of_mem_drop (List.mem_of_mem_take h)
 · left;simpa using h
 · right;rw [Array.toList_extract] at h;exact List.mem_of_mem_drop (List.mem_of_mem_take h)
end STb
namespace L2
open PySem PySem.Spec PyProof.Rows
section
variable {prog:Program} {w:World} {A:Around} {E:Value→Shared→Prop} {s:Shared} {K:Type} [DecidableEq K] {knd:KeyKind prog w K}
structure TupSet (knd:KeyKind prog w K) (h:Heap) (S:Addr) (ks:List (List K)) (es:Array (Int×Value)) (t:SetTable) (ep:Nat) (o:Obj):Prop where
 get:h.get? S=some o
 ex:o.ExactSet
 dat:o.data=.set es ep t
 mem:∀ e∈es.toList,∃ a k,e.2=.ref a∧k∈ks∧IsTupleKey knd h k a
 len:es.size=ks.length
 pl:t.place.size=es.size
 dum:t.dummies=#[]
 msk:STb.masks t.mask
 few:es.size*5<t.mask*3
theorem TupSet.fits {h:Heap} {S:Addr} {ks:List (List K)} {es:Array (Int×Value)} {t:SetTable} {ep:Nat} {o:Obj} (T:TupSet knd h S ks es t ep o):t.fits es.size=true:=by
 unfold SetTable.fits SetTable.fill;rw [T.dum,T.pl]
 have:=T.few
 have:es.size+(#[]:Array Nat).size≤t.mask:=by show es.size+0≤t.mask;omega
 simp
 show es.size≤t.mask
 exact this
theorem TupSet.way {h:Heap} {S:Addr} {ks:List (List K)} {es:Array (Int×Value)} {t:SetTable} {ep:Nat} {o:Obj} (T:TupSet knd h S ks es t ep o):t.gaveWay=false:=by
 unfold SetTable.gaveWay
 rcases T.msk with e|e|e<;>rw [e]<;>rfl
theorem Zea {ks:List K} {a:Addr} {n:Nat} {Q:Bool→Shared→Prop} (hk:IsTupleKey knd s.heap ks a) (h:Q false s):wpAny (model prog w) A (ofAClassStatement (n+1) (.ref a)) Q E s:=by
 have hT:=hk.typeIs;obtain ⟨o,items,m,ho,_,hd,hi⟩:=hk;unfold ofAClassStatement;refine n0_ (wpAny_typeOf hT ?_);simp only [beq_self_eq_true,if_true];refine n0_ (n4_ ?_);simp only [Bool.not_true,n22_,if_false];refine n0_ (wpAny_seqItems ho hd ?_);refine n0_ ?_;show wpAny _ _ (forIn items _ _) _ _ s
 rw [← Array.forIn_toList];refine wpAny_forIn_list _ (fun rest r s'=>r.1=none∧s'=s∧∀ v∈rest,carriedByValue v=true) _ ?_ ?_ _ _ ⟨rfl,rfl,hi.byValue⟩
 · rintro v rest r s' ⟨hr,rfl,hall⟩
   have hv:=hall v n34_
   have e:ofAClassStatement n v=pure false:=by
    cases v<;>first|(unfold ofAClassStatement;rfl)|(cases hv)
   rw [e];refine n0_ (n4_ ?_);simp only [n22_,if_false];exact n4_ ⟨rfl,rfl,fun u hu'=>hall u (n18_ _ hu')⟩
 · rintro ⟨r1,r2⟩ s' ⟨hr,rfl,_⟩
   simp only at hr;subst hr;exact n4_ h
theorem Ztl {k:List K} {a:Addr} {Q:Bool→Shared→Prop} (hk:IsTupleKey knd s.heap k a) (l:List Value) (hl:∀ y∈l,∃ b k',y=.ref b∧IsTupleKey knd s.heap k' b) (h:Q false s) :
 wpAny (model prog w) A (searchCouldBeSeen (.ref a) l) Q E s:=by
 unfold searchCouldBeSeen;refine n0_ ?_;refine wpAny_forIn_list _ (fun rest r s'=>r.1=none∧s'=s∧∀ y∈rest,∃ b k',y=.ref b∧IsTupleKey knd s.heap k' b) _ ?_ ?_ _ _ ⟨rfl,rfl,hl⟩
 · rintro y rest r s' ⟨hr,rfl,hall⟩
   obtain ⟨b,k',rfl,hb⟩:=hall y n34_;have rest':∀ y∈rest,∃ b k',y=.ref b∧IsTupleKey knd s'.heap k' b:=fun u hu=>hall u (n18_ _ hu);dsimp only;split
   · exact n4_ ⟨rfl,rfl,rest'⟩
   · refine n0_ (wpAny_eqIsQuiet_tuple hk ?_);simp only [Bool.not_true,n22_,if_false];refine n0_ (wpAny_eqIsQuiet_tuple hb ?_);simp only [Bool.not_true,n22_,if_false];refine n0_ (Zea hk ?_);simp only [n22_,if_false];refine n0_ (Zea hb ?_);simp only [n22_,if_false];exact n4_ ⟨rfl,rfl,rest'⟩
 · rintro ⟨r1,r2⟩ s' ⟨hr,rfl,_⟩
   simp only at hr;subst hr;exact n4_ h
theorem Zdn {F:Nat→Int} {t:SetTable} {h:Int} {p:SetTable.Probe} {n:Nat} {met:Option SetTable.Met} (e:t.probe F h p=met) (hd:t.dummies=#[]) (hp:p.dummy=none) (hN:STb.Near t n p) (hn:n<10*SetTable.turns t.mask) :
 (∃ j,met=some (.empty j none)∧t.slot j=.empty)∨(∃ j i q,met=some (.candidate j i q)∧t.slot j=.live i∧t.place[i]? = some j∧q.dummy=none∧∃ n',n'<n∧STb.Near t n' q):=by
 subst e;exact STb.go_near hd n _ p hp hN hn
theorem Zs9 {S a:Addr} {ks:List (List K)} {es:Array (Int×Value)} {t:SetTable} {ep:Nat} {o:Obj} {k:List K} {h:Int} {Q:SetFound→Shared→Prop} (hu:A.units<cLine) (T:TupSet knd s.heap S ks es t ep o) (hk:IsTupleKey knd s.heap k a) (hn:k∉ks)
 (q:∀ j,t.slot j=.empty→Q (.free j false) s):∀ (n fuel:Nat) (stand:Option SetTable.Probe),n<fuel→n<10*SetTable.turns t.mask→(stand.getD (t.probeStart h)).dummy=none→STb.Near t n (stand.getD (t.probeStart h)) →
 wpAny (model prog w) A (setSearchFrom S (.ref a) h true fuel stand) Q E s:=by
 intro n
 induction n using Nat.strongRecOn with
 | ind n ih =>
   intro fuel stand hf hn2 hd hN;obtain ⟨f,rfl⟩:∃ f,fuel=f+1:=⟨fuel-1,by omega⟩;unfold setSearchFrom;refine n0_ (wpAny_setState_of T.get T.dat T.fits ?_);dsimp only;rw [T.way];simp only [n22_,if_false];split
   rotate_left
   · rename_i heq
     exact ((Zdn rfl T.dum hd hN hn2).elim (fun ⟨j,e,_⟩=>heq _ e) (fun ⟨j,i,p,e,_⟩=>heq _ e)).elim
   rename_i met heq
   rcases Zdn heq T.dum hd hN hn2 with ⟨j,e,hj⟩|⟨j,i,p,e,hs,hi,hp,n',hn',hN'⟩
   · cases e
     exact n4_ (q j hj)
   · cases e
     dsimp only;have hi2:i<es.size:=by rw [← T.pl];exact (Array.getElem?_eq_some_iff.mp hi).1
     obtain ⟨y,hy⟩:∃ y,es[i]? = some y:=⟨_,Array.getElem?_eq_getElem hi2⟩;obtain ⟨h0,y⟩:=y;obtain ⟨b,k',rfl,hk',hb⟩:=(by simpa using T.mem (h0,y) (by simpa using Array.mem_of_getElem? hy):∃ b k',y=.ref b∧k'∈ks∧IsTupleKey knd s.heap k' b)
     have core:wpAny (model prog w) A (do
      let some (_,y):=es[i]? | unsupported "internal:set-entry"
      let equal ← holding [y] (eqBool y (.ref a))
      let (es',_,t') ← setState S
      if true&&equal then return SetFound.there none
      let some same:=t'.sameMemory t.moves t.mask|unsupported "set.changed-during-lookup:is-the-new-block-at-the-old-address"
      let still ← match (if same then t'.slot j else .empty) with
       | .live i'=>match es'[i']? with
         | some (_,y')=>do pure (if ← isSame y' y then some i' else none)
         | none=>pure none
       | _=>pure none
      match still with
      | none=>rule "set.search.anew";setSearchFrom S (.ref a) h true f none
      | some i'=>if equal then return .there (some i') else setSearchFrom S (.ref a) h true f (some p)) Q E s:=by
      rw [hy];dsimp only;refine n0_ (n37_ (wpAny_eqBool_tuple hu hb hk ?_));have ne:decide (k'=k)=false:=n8_ (fun z=>hn (z ▸ hk'));rw [ne];refine n0_ (wpAny_setState_of T.get T.dat T.fits ?_);dsimp only;simp only [Bool.and_false,n22_,if_false];have sm:t.sameMemory t.moves t.mask=some true:=by unfold SetTable.sameMemory;simp
      rw [sm];dsimp only;simp only [if_true,hs,hy];refine n0_ (wpAny_isSame_ref_self ?_);simp only [if_true];refine n0_ (n4_ ?_);dsimp only;exact ih n' hn' f (some p) (by omega) (by omega) hp hN'
     by_cases hl:t.led=true
     · rw [hl];simp only [Bool.not_true,n22_,if_false];exact core
     · have hl':t.led=false:=by simpa using hl
       rw [hl'];simp only [Bool.not_false,if_true];refine n0_ (Ztl hk _ (fun y hy=>?_) ?_)
       · obtain ⟨z,hz,rfl⟩:=n42_.mp hy
         obtain ⟨b,k',e1,_,e3⟩:=T.mem z (by
          have hz':z∈es∧z.1=h:=by simpa using hz
          simpa using hz'.1)
         exact ⟨b,k',e1,e3⟩
       · simp only [n22_,if_false];exact core
end
section
variable {prog:Program} {w:World} {A:Around} {E:Value→Shared→Prop} {s:Shared} {K:Type} [DecidableEq K] {knd:KeyKind prog w K}
theorem Zi2 {ks:List K} {a:Addr} {n:Nat} {Q:Bool→Shared→Prop} (hk:IsTupleKey knd s.heap ks a) (h:∀ b,Q b s):wpAny (model prog w) A (hashByValue (n+1) (.ref a)) Q E s:=by
 have hT:=hk.typeIs;obtain ⟨o,items,m,ho,_,hd,hi⟩:=hk;unfold hashByValue;refine n0_ (wpAny_specialOf hT F.slot_tuple_hash.lookup ?_);dsimp only;refine n0_ (wpAny_seqItems ho hd ?_);refine n0_ ?_;show wpAny _ _ (forIn items _ _) _ _ s
 rw [← Array.forIn_toList];refine wpAny_forIn_list _ (fun rest r s'=>s'=s∧∀ v∈rest,carriedByValue v=true) _ ?_ ?_ _ _ ⟨rfl,hi.byValue⟩
 · rintro v rest r s' ⟨rfl,hall⟩
   have hv:=hall v n34_;have rest':∀ u∈rest,carriedByValue u=true:=fun u hu'=>hall u (n18_ _ hu')
   have e:∃ b,hashByValue n v=pure b:=by
    cases v<;>first|exact ⟨_,by unfold hashByValue;rfl⟩|(cases hv)
   obtain ⟨b,e⟩:=e;rw [e];refine n0_ (n4_ ?_);cases b
   · simp only [Bool.not_false,if_true];exact n4_ (n4_ (h _))
   · simp only [Bool.not_true,n22_,if_false];exact n4_ ⟨rfl,rest'⟩
 · rintro ⟨r1,r2⟩ s' ⟨rfl,_⟩
   cases r1 with
   | none=>exact n4_ (h _)
   | some b=>exact n4_ (h _)
theorem TupSet.store {h:Heap} {S:Addr} {ks':List (List K)} {es es':Array (Int×Value)} {t t':SetTable} {ep:Nat} {o:Obj} (get:h.get? S=some o) (ex:o.ExactSet) (dat:o.data=.set es ep t) (mem:∀ e∈es'.toList,∃ a k,e.2=.ref a∧k∈ks'∧IsTupleKey knd h k a)
 (len:es'.size=ks'.length) (pl:t'.place.size=es'.size) (dum:t'.dummies=#[]) (msk:STb.masks t'.mask) (few:es'.size*5<t'.mask*3) :
 TupSet knd (h.update S (Obj.putSet es' t')) S ks' es' t' (ep+1) { o with data:=.set es' (ep+1) t' }:=by
 have hg:(h.update S (Obj.putSet es' t')).get? S=some { o with data:=.set es' (ep+1) t' }:=by
  have:=Heap.get?_update_self (Obj.putSet es' t') get (by rw [putSet_of es' t' dat];rfl)
  rw [putSet_of es' t' dat] at this;exact this
 refine ⟨hg,ex,rfl,fun e he=>?_,len,pl,dum,msk,few⟩;obtain ⟨a,k,e1,e2,oa,items,n,e3,e4,e5,e6⟩:=mem e he
 have ne:a≠S:=by
  rintro rfl
  rw [get] at e3;cases e3;rw [dat] at e5;cases e5
 exact ⟨a,k,e1,e2,oa,items,n,((Heap.SameBut.update h S _).2 a ne).trans e3,e4,e5,e6⟩
theorem Zqp {n M:Nat} (hn:n≤30) (hm:STb.masks M) (h:n*5 ≥ M*3) (h2:(n-1)*5<M*3):STb.masks (SetTable.sizeAbove (SetTable.grown n)-1)∧n<SetTable.sizeAbove (SetTable.grown n)-1+1∧n*5<(SetTable.sizeAbove (SetTable.grown n)-1)*3∧¬ SetTable.sizeAbove (SetTable.grown n)>sizeLine:=by
 rcases hm with rfl|rfl|rfl
 · have:n=5:=by omega
   subst this;exact ⟨.inr (.inl (by decide +kernel)),by decide +kernel,by decide +kernel,by decide +kernel⟩
 · have:n=19:=by omega
   subst this;exact ⟨.inr (.inr (by decide +kernel)),by decide +kernel,by decide +kernel,by decide +kernel⟩
 · omega
theorem Zul {S:Addr} {ks:List (List K)} {es:Array (Int×Value)} {t:SetTable} {ep:Nat} {o:Obj} {Q:Unit→Shared→Prop}
 (get:s.heap.get? S=some o) (ex:o.ExactSet) (dat:o.data=.set es ep t) (mem:∀ e∈es.toList,∃ a k,e.2=.ref a∧k∈ks∧IsTupleKey knd s.heap k a) (len:es.size=ks.length) (pl:t.place.size=es.size) (dum:t.dummies=#[]) (msk:STb.masks t.mask)
 (hn:ks.length≤30) (full:es.size*5 ≥ t.mask*3) (h2:(es.size-1)*5<t.mask*3)
 (q:∀ h' es' t' ep' o',Heap.SameBut S s.heap h'→TupSet knd h' S ks es' t' ep' o'→Q () { s with heap:=h' }):wpAny (model prog w) A (setRelay S (SetTable.grown es.size)) Q E s:=by
 have fit:t.fits es.size=true:=by
  unfold SetTable.fits SetTable.fill;rw [dum,pl]
  simp
  show es.size≤t.mask
  rcases msk with e|e|e<;>rw [e] at h2 ⊢<;>omega
 obtain ⟨g1,g2,g3,g4⟩:=Zqp (by omega) msk full h2;obtain ⟨t',order,e,r1,r2,r3,r4,r5⟩:=STb.relaid_ok (t:=t) (hs:=es.map (·.1)) (wanted:=SetTable.grown es.size) rfl g1 (by simpa using g2);have z:(es.map (·.1)).size=es.size:=by simp
 rw [z] at r3 r4 r5;obtain ⟨p1,p2⟩:=STb.pick_size r4 r5;unfold setRelay;refine n0_ (wpAny_setState_of get dat fit ?_);dsimp only;rw [if_neg g4];rw [e];have hb:((order.filterMap (es[·]?)).size != es.size)=false:=by rw [p1];simp
 refine n0_ ?_
 have red:wpAny (model prog w) A (if ((order.filterMap (es[·]?)).size != es.size)=true then (unsupported "internal:set-table-lost-an-element" : Sem (Array (Int×Value)×SetTable)) else pure (order.filterMap (es[·]?),t')) (fun r s'=>wpAny (model prog w) A (storeSet S r.1 r.2) Q E s') E s:=by
  rw [hb,if_neg (by decide)];refine n4_ ?_;refine wpAny_storeSet_of get dat (q _ _ _ _ _ (Heap.SameBut.update ..) (TupSet.store get ex dat (fun x hx=>mem x (p2 x hx)) (p1.trans len) (r3.trans p1.symm) r2 (by rw [r1];exact g1) (by rw [r1,p1];exact g3))) (by rw [p1,sizeLine_eq];omega)
 first
  | exact red
  | (refine n0_ ?_;exact red)
  | trace_state
theorem Zl8 (t:SetTable) (j:Nat):(t.put j).1.place.size=t.place.size+1∧(t.dummies=#[]→(t.put j).1.dummies=#[])∧(t.put j).1.mask=t.mask:=by
 unfold SetTable.put;refine ⟨STb.insertAt_size _ _ _,fun hd=>?_,rfl⟩
 have h2:SetTable.has t.dummies j=false:=by
  rw [hd];unfold SetTable.has
  simp
 simp only [h2];exact hd
theorem Zk5 {S a:Addr} {ks:List (List K)} {es:Array (Int×Value)} {t:SetTable} {ep:Nat} {o:Obj} {k:List K} {h:Int} {Q:Bool→Shared→Prop} (hu:A.units<cLine) (T:TupSet knd s.heap S ks es t ep o) (hk:IsTupleKey knd s.heap k a) (hn:k∉ks) (hl:ks.length<30)
 (q:∀ h' es' t' ep' o',Heap.SameBut S s.heap h'→TupSet knd h' S (k :: ks) es' t' ep' o'→Q true { s with heap:=h' }):wpAny (model prog w) A (setAddHashed S (.ref a) h) Q E s:=by
 unfold setAddHashed setAddHashedIn;refine n37_ (n0_ (wpAny_setState_of T.get T.dat T.fits ?_));dsimp only;rw [show byScan (.ref a) es=false from rfl];simp only [n22_,if_false];have few:=T.few;have lt:t.place.size<t.mask+1:=by rw [T.pl];omega
 refine n0_ (Zs9 hu T hk hn (fun j hj=>?_) (10*(t.mask+13)) 100000 none (by rcases T.msk with e|e|e<;>rw [e]<;>decide) (by unfold SetTable.turns;omega) rfl (STb.near_start T.msk T.dum lt));dsimp only;refine n0_ (wpAny_setState_of T.get T.dat T.fits ?_);dsimp only;obtain ⟨u1,u2,u3⟩:=Zl8 t j;generalize hput:t.put j=tp at u1 u2 u3;obtain ⟨t1,p⟩:=tp;dsimp only at u1 u2 u3 ⊢;have u2:=u2 T.dum
 have mem1:∀ e∈(SetTable.insertAt es p (h,Value.ref a)).toList,∃ b k',e.2=.ref b∧k'∈k :: ks∧IsTupleKey knd s.heap k' b:=fun e he=>by
  rcases STb.insertAt_mem he with rfl|he
  · exact ⟨a,k,rfl,n34_,hk⟩
  · obtain ⟨b,k',e1,e2,e3⟩:=T.mem e he;exact ⟨b,k',e1,n18_ _ e2,e3⟩
 have sz1:(SetTable.insertAt es p (h,Value.ref a)).size=es.size+1:=STb.insertAt_size _ _ _
 have key:∀ t2:SetTable,t2.place=t1.place→t2.dummies=t1.dummies→t2.mask=t1.mask→wpAny (model prog w) A (do
  storeSet S (SetTable.insertAt es p (h,Value.ref a)) t2
  if (!false&&t2.tooFull)=true then setRelay S (SetTable.grown (es.size+1))
  return true) Q E s:=by
  intro t2 e1 e2 e3
  have full:t2.tooFull=decide ((es.size+1)*5 ≥ t.mask*3):=by
   unfold SetTable.tooFull SetTable.fill;rw [e1,e2,e3,u1,u2,u3,T.pl];rfl
  refine n0_ (wpAny_storeSet_of T.get T.dat ?_ (by rw [sz1,sizeLine_eq,T.len];omega))
  have hg:(s.heap.update S (Obj.putSet (SetTable.insertAt es p (h,Value.ref a)) t2)).get? S=some { o with data:=.set (SetTable.insertAt es p (h,Value.ref a)) (ep+1) t2 }:=by
   have:=Heap.get?_update_self (Obj.putSet (SetTable.insertAt es p (h,Value.ref a)) t2) T.get (by rw [putSet_of _ t2 T.dat];rfl)
   rw [putSet_of _ t2 T.dat] at this;exact this
  have sb:=Heap.SameBut.update s.heap S (Obj.putSet (SetTable.insertAt es p (h,Value.ref a)) t2)
  by_cases hf:(es.size+1)*5 ≥ t.mask*3
  · rw [full,n19_ hf];simp only [Bool.not_false,Bool.true_and,if_true]
    have mem2:∀ e∈(SetTable.insertAt es p (h,Value.ref a)).toList,∃ b k',e.2=.ref b∧k'∈k :: ks∧IsTupleKey knd (s.heap.update S (Obj.putSet (SetTable.insertAt es p (h,Value.ref a)) t2)) k' b:=fun e he=>by
     obtain ⟨b,k',f1,f2,ob,items,n,f3,f4,f5,f6⟩:=mem1 e he
     have ne:b≠S:=by
      rintro rfl
      rw [T.get] at f3;cases f3;rw [T.dat] at f5;cases f5
     exact ⟨b,k',f1,f2,ob,items,n,(sb.2 b ne).trans f3,f4,f5,f6⟩
    rw [show es.size+1=(SetTable.insertAt es p (h,Value.ref a)).size from sz1.symm];refine n0_ (Zul (s:={ s with heap:=s.heap.update S (Obj.putSet (SetTable.insertAt es p (h,Value.ref a)) t2) }) hg T.ex rfl mem2 (by rw [sz1,T.len];rfl) (by rw [e1,u1,T.pl,sz1]) (by rw [e2];exact u2) (by rw [e3,u3];exact T.msk) (by simp;omega) (by rw [sz1,e3,u3];exact hf) (by rw [sz1,e3,u3];simpa using few) fun h' es' t' ep' o' r1 r2=>?_);exact n4_ (q h' es' t' ep' o' (sb.trans r1) r2)
  · rw [full,n8_ hf];simp only [Bool.not_false,Bool.true_and,n22_,if_false];have T2:=TupSet.store (es':=SetTable.insertAt es p (h,Value.ref a)) (t':=t2) (ks':=k :: ks) T.get T.ex T.dat mem1 (by rw [sz1,T.len];rfl) (by rw [e1,u1,T.pl,sz1]) (by rw [e2];exact u2) (by rw [e3,u3];exact T.msk) (by rw [sz1,e3,u3];omega);exact n4_ (q _ _ _ _ _ sb T2)
 cases hpl:t1.plain with
 | true =>
   simp only [if_true];refine n0_ (Zi2 hk fun b=>?_);cases b
   · exact key _ rfl rfl rfl
   · exact key _ rfl rfl rfl
 | false =>
   simp only [n22_,if_false];refine n0_ (n4_ ?_);exact key _ rfl rfl rfl
theorem Zmo {S a:Addr} {ks:List (List K)} {es:Array (Int×Value)} {t:SetTable} {ep:Nat} {o:Obj} {k:List K} {Q:Bool→Shared→Prop} (hu:A.units<cLine) (T:TupSet knd s.heap S ks es t ep o) (hk:IsTupleKey knd s.heap k a) (hn:k∉ks) (hl:ks.length<30)
 (q:∀ h' es' t' ep' o' tk,Heap.SameBut S s.heap h'→TupSet knd h' S (k :: ks) es' t' ep' o'→Q true { s with heap:=h',toks:=tk }):wpAny (model prog w) A (setAdd S (.ref a)) Q E s:=by
 unfold setAdd;refine n37_ (n0_ (wpAny_pyHash_tuple hu hk ?_));exact Zk5 (s:={ s with toks:=s.toks+(k.length+1) }) hu T hk hn hl fun h' es' t' ep' o' r1 r2=>q h' es' t' ep' o' _ r1 r2
end
section
variable {prog:Program} {w:World} {A:Around} {s:Shared} {K:Type} [DecidableEq K] {knd:KeyKind prog w K}
def TupKeys (knd:KeyKind prog w K) (h:Heap) (items:Array Value) (kl:List (List K)):Prop:=∀ (j:Nat) (v:Value),items[j]? = some v→∃ a k,v=.ref a∧kl[j]? = some k∧IsTupleKey knd h k a
theorem TupKeys.keep {h h':Heap} {items:Array Value} {kl:List (List K)} {bad:List Addr} (t:TupKeys knd h items kl) (k:∀ b o,b∉bad→h.get? b=some o→h'.get? b=some o) (hb:∀ b∈bad,∀ o items n,h.get? b=some o→o.cls=.type "tuple" → o.data=.seq items n→False):TupKeys knd h' items kl:=fun j v e=>by
 obtain ⟨a,ke,e1,e2,o,its,n,e3,e4,e5,e6⟩:=t j v e;exact ⟨a,ke,e1,e2,o,its,n,k a o (fun z=>hb a z o its n e3 e4 e5) e3,e4,e5,e6⟩
theorem TupSet.kept {h h':Heap} {S:Addr} {ks:List (List K)} {es:Array (Int×Value)} {t:SetTable} {ep:Nat} {o:Obj} {bad:List Addr} (T:TupSet knd h S ks es t ep o) (hS:S∉bad) (k:∀ b o,b∉bad→h.get? b=some o→h'.get? b=some o) (hb:∀ b∈bad,∀ o items n,h.get? b=some o→o.cls=.type "tuple" → o.data=.seq items n→False):TupSet knd h' S ks es t ep o :=
 ⟨k _ _ hS T.get,T.ex,T.dat,fun e he=>by
  obtain ⟨a,ke,e1,e2,o,its,n,e3,e4,e5,e6⟩:=T.mem e he;exact ⟨a,ke,e1,e2,o,its,n,k a o (fun z=>hb a z o its n e3 e4 e5) e3,e4,e5,e6⟩,T.len,T.pl,T.dum,T.msk,T.few⟩
theorem Zog {S I t:Addr} {items:Array Value} {kl:List (List K)} {R:Result→Shared→Prop} (hh:A.in1.handled=none) (hu:A.in1.units<cLine) (hI:t≠I) (hSI:S≠I) (hSt:S≠t) (nd:kl.Nodup) (hl:kl.length=items.size) (h30:kl.length≤30) :
 ∀ (m i:Nat) (s:Shared) (es:Array (Int×Value)) (tb:SetTable) (ep:Nat) (o:Obj),items.size-i=m→i≤items.size→s.heap.IsTupleIter I t i→s.heap.IsTuple t items→TupKeys knd s.heap items kl→TupSet knd s.heap S (kl.take i).reverse es tb ep o →
   (∀ h' tk es' tb' ep' o',(∀ b u,b∉[S,I]→s.heap.get? b=some u→h'.get? b=some u)→TupSet knd h' S kl.reverse es' tb' ep' o'→R (.ok (.ret .none)) { s with heap:=h',toks:=tk }) →
   codeAny (model prog w) A (.builtin "set.update.loop" ⟨[.ref S,.ref I],[]⟩) R s:=by
 intro m
 induction m with
 | zero =>
   intro i s es tb ep o hm hi st ht tk T q;have e:i=items.size:=by omega
   subst e;refine codeAny_builtin F.entry_set_update_loop ?_;rw [Around.under_plainId F.plain_set_update_loop _];refine n0_ (m:=pyNext (.ref I)) (wpAny_pyNext_tuple_end hh st ht (by simp) fun h' k=>?_);obtain ⟨oi,gi,ci,di⟩:=st
   have T':TupSet knd h' S (kl.take items.size).reverse es tb ep o:=T.kept (bad:=[I]) (by simpa using hSI) (fun b u nb e=>k b u (by simpa using nb) e) (fun b hb u its n e c _=>by
    have:b=I:=by simpa using hb
    subst this;rw [gi] at e;cases e;rw [ci] at c;exact absurd c (by decide))
   rw [n55_ (by omega)] at T';exact n4_ (q h' s.toks es tb ep o (fun b u nb e=>k b u (fun z=>nb (by simp [z])) e) T')
 | succ m ih =>
   intro i s es tb ep o hm hi st ht tk T q;have hlt:i<items.size:=by omega
   refine codeAny_builtin F.entry_set_update_loop ?_;rw [Around.under_plainId F.plain_set_update_loop _];refine n0_ (m:=pyNext (.ref I)) (wpAny_pyNext_tuple_item st ht (x:=items[i]) (by simp [hlt]) fun h1 st1 sb1=>?_);obtain ⟨oi,gi,ci,di⟩:=st
   have badI:∀ b∈[I],∀ (u:Obj) (its:Array Value) (n:Nat),s.heap.get? b=some u→u.cls=.type "tuple" → u.data=.seq its n→False:=fun b hb u its n e c _=>by
    have:b=I:=by simpa using hb
    subst this;rw [gi] at e;cases e;rw [ci] at c;exact absurd c (by decide)
   have k1:∀ b u,b∉[I]→s.heap.get? b=some u→h1.get? b=some u:=fun b u nb e=>sb1.extBut b u (by simpa using nb) e;have T1:=T.kept (by simpa using hSI) k1 badI;have tk1:=tk.keep k1 badI;have ht1:h1.IsTuple t items:=ht.extBut sb1.extBut hI;obtain ⟨a,k,ea,ek,hk⟩:=tk1 i items[i] (by simp [hlt]);rw [ea];refine n0_ (m:=holding [Value.ref a] (setAdd S (.ref a))) (n37_ ?_);have hkl:i<kl.length:=by omega
   have ek':kl[i]=k:=by rw [n1_ hkl] at ek;exact Option.some.inj ek
   have hn:k∉(kl.take i).reverse:=by
    rw [List.mem_reverse,← ek'];intro z;obtain ⟨j,hj,e⟩:=n40_ z;rw [List.getElem_take] at e;have hj':j<i:=by rw [n61_] at hj;omega
    have:=(List.getElem_inj nd).mp e
    omega
   refine Zmo (s:={ s with heap:=h1 }) hu T1 hk hn (by rw [List.length_reverse,n61_];omega) fun h2 es' tb' ep' o' tk' sb2 T2=>?_;have oS:=T1.get
   have badS:∀ b∈[S],∀ (u:Obj) (its:Array Value) (n:Nat),h1.get? b=some u→u.cls=.type "tuple" → u.data=.seq its n→False:=fun b hb u its n e _ d=>by
    have:b=S:=by simpa using hb
    subst this;rw [oS] at e;cases e;rw [T1.dat] at d;cases d
   have k2:∀ b u,b∉[S]→h1.get? b=some u→h2.get? b=some u:=fun b u nb e=>(sb2.2 b (by simpa using nb)).trans e
   have T2':TupSet knd h2 S (kl.take (i+1)).reverse es' tb' ep' o':=by
    have:(kl.take (i+1)).reverse=k :: (kl.take i).reverse:=by
     rw [List.take_succ_eq_append_getElem hkl,List.reverse_append,ek'];rfl
    rw [this];exact T2
   refine n4_ ⟨plainId_quiet F.plain_set_update_loop _,ih (i+1) { s with heap:=h2,toks:=tk' } es' tb' ep' o' (by omega) hlt (st1.extBut sb2.extBut (Ne.symm hSI)) (ht1.extBut sb2.extBut (Ne.symm hSt)) (tk1.keep k2 badS) T2' fun h3 tk3 es3 tb3 ep3 o3 k3 T3=>?_⟩;refine q h3 tk3 es3 tb3 ep3 o3 (fun b u nb e=>k3 b u nb (k2 b u (fun z=>nb (by simp at z;simp [z])) (k1 b u (fun z=>nb (by simp at z;simp [z])) e))) T3
theorem Zf7 (led:Bool) {h:Heap} {S:Addr} (hS:h.get? S=some { cls:=.type "set",dict:=none,data:=.set #[] 0 (.fresh 0 0 led) }):TupSet knd h S [] #[] (.fresh 0 0 led) 0 { cls:=.type "set",dict:=none,data:=.set #[] 0 (.fresh 0 0 led) } :=
 ⟨hS,⟨rfl,rfl,rfl⟩,rfl,fun e he=>by simp at he,rfl,rfl,rfl,.inl rfl,by show 0*5<7*3;decide⟩
theorem Zgb:isSubtype (.type "tuple") (.type "set")=pure false:=by rw [isSubtype_type];kernel_rfl
theorem Zbj:isSubtype (.type "tuple") (.type "frozenset")=pure false:=by rw [isSubtype_type];kernel_rfl
abbrev Y7 (led:Bool):Obj:={ cls:=.type "set",dict:=none,data:=.set #[] 0 (.fresh 0 0 led) }
set_option maxHeartbeats 3200000 in
theorem Zhc {E:Value→Shared→Prop} {t:Addr} {items:Array Value} {kl:List (List K)} {Q:Value→Shared→Prop} (hh:A.handled=none) (hu:A.units+8<cLine) (ht:s.heap.IsTuple t items) (tk:TupKeys knd s.heap items kl) (nd:kl.Nodup) (hl:kl.length=items.size) (h30:kl.length≤30)
 (q:∀ h' tk es' tb' ep' o',TupSet knd h' s.z kl.reverse es' tb' ep' o'→(∀ b u,s.heap.get? b=some u→h'.get? b=some u)→Q (.ref s.z) { s with heap:=h',toks:=tk }) :
 wpAny (model prog w) A (call (.type "set") [.ref t]) Q E s:=by
 obtain ⟨c,tl,hmro⟩:=F.called_set.mro;have hmade:=F.called_set.made;have hsub:=F.called_set.sub;refine wpAny_call (codeAny_of_tree (n4_ (a:=_) ⟨Code.quiet_builtin _ (by decide +kernel),codeAny_builtin F.entry_type_call ?_⟩));rw [Around.under_plain (weight_type_call_type "set" [.ref t] []) rfl];have h1:=F.called_set.notType;have h2:=F.called_set.canCreate;have hct:=F.typeCall_set_1 (.ref t)
 repeat (any_goals (first|assumption|wp_step))
 refine codeAny_mono (code_set_new_1 (.ref t) (E:=E) (Q₁:=fun v s1=>∃ led:Bool,v=.ref s.z∧s1={ s with heap:=s.heap.push (Y7 led) }) fun led=>⟨led,rfl,rfl⟩) fun r s1 hr=>?_;cases r with
 | error e=>exact hr
 | ok fl =>
   cases fl with
   | ret obj =>
     obtain ⟨led,rfl,rfl⟩:=hr;have hS:(s.heap.push (Y7 led)).get? s.z=some (Y7 led):=n10_ _ rfl;have hT:Shared.TypeIs { s with heap:=s.heap.push (Y7 led) } (.ref s.z) "set" := ⟨_,hS,rfl⟩;have hli:=F.called_set.init.lookup;have hbi:=F.called_set.init.bind (.ref s.z)
     repeat (any_goals (first|assumption|wp_step))
     refine codeAny_mono (codeAny_call_builtin (R:=wants (fun r s2=>r=.none∧∃ h' tk es' tb' ep' o',s2={ s with heap:=h',toks:=tk }∧TupSet knd h' s.z kl.reverse es' tb' ep' o'∧(∀ b u,s.heap.get? b=some u→h'.get? b=some u)) E) F.called_set.init.plain F.entry_set_init (check_set_init_1 hT ?_)) fun r2 s2 hr2=>?_
     · obtain ⟨⟨c0,d0,dd,sl0⟩,hol,hcl,nl,hdl⟩:=ht;simp only at hcl hdl;subst hcl;subst hdl;have hol':(s.heap.push (Y7 led)).get? t=some { cls:=.type "tuple",dict:=d0,data:=.seq items nl,slots:=sl0 }:=n2_ _ hol;have hsls:=Zgb;have hslf:=Zbj;have hne:(Value.type "tuple" == Value.type "dict")=false:=by decide
       have ht1:(s.heap.push (Y7 led)).IsTuple t items:=⟨_,hol',rfl,nl,rfl⟩;unfold Builtin.«set.__init__» noKeywords Builtin.Frozenset.updateFrom;generalize hPI:pyIter=PI
       wp_walk
       subst hPI;refine wpAny_pyIter_tuple ht1 (n0_ (wpAny_runValue ?_));have tS:t<s.z:=n7_ hol;have n1:(s.heap.push (Y7 led)).objs.size=s.z+1:=n50_ ..;have k1:∀ b u,s.heap.get? b=some u→((s.heap.push (Y7 led)).push { cls:=.type "tuple_iterator",data:=.fields #[.ref t,.int 0 0] }).get? b=some u:=fun b u e=>n2_ _ (n2_ _ e);have e1:t≠(s.heap.push (Y7 led)).objs.size:=by rw [n1];exact n24_ (Nat.lt_succ_of_lt tS)
       have e2:s.z≠(s.heap.push (Y7 led)).objs.size:=by rw [n1];exact n24_ (Nat.lt_succ_self _)
       refine Zog (knd:=knd) (S:=s.z) (I:=(s.heap.push (Y7 led)).objs.size) (t:=t) (items:=items) (kl:=kl) (by first|exact hh|simp [hh]) (by simp;omega) e1 e2 (n56_ tS) nd hl h30 (items.size-0) 0 _ #[] (.fresh 0 0 led) 0 _ (by omega) (n43_ _) ⟨_,n10_ _ rfl,rfl,rfl⟩ (ht1.push _)
        (tk.keep (bad:=[]) (fun b u _ e=>k1 b u e) (fun b hb=>by simp at hb)) (Zf7 led (n2_ _ hS)) fun h' tk' es' tb' ep' o' k' T'=>?_
       show wpAny _ _ _ _ _ _
       refine n4_ ?_;show wpAny _ _ (ret Value.none) _ _ _
       refine n4_ ⟨rfl,h',tk',es',tb',ep',o',rfl,T',fun b u e=>k' b u ?_ (k1 b u e)⟩;have lb:b<s.z:=n7_ e;simp only [n14_,n17_,or_false,not_or,n1];exact ⟨n24_ lb,n24_ (Nat.lt_succ_of_lt lb)⟩
     · cases r2 with
       | error e=>exact hr2
       | ok fl2 =>
         cases fl2 with
         | ret r =>
           obtain ⟨rfl,h',tk',es',tb',ep',o',rfl,T',k'⟩:=hr2
           repeat (any_goals (first|assumption|wp_step))
           exact q _ _ _ _ _ _ T' k'
         | _=>exact hr2.elim
   | _=>exact hr.elim
end
def Zfa (S:Addr) (n:Nat) (h:Heap):Prop:=∃ o es ep t,h.get? S=some o∧o.ExactSet∧o.data=.set es ep t∧t.fits es.size=true∧es.size=n
section
variable {X:Cx}
theorem Zm7 {P:Program} {w:World} {H:Hp} {h:Heap} {S:Addr} {n:Nat} (q:Zfa S n h):ObjOk P w H h S (.ext (Zfa S n)):=by
 refine ⟨q,?_,fun h1 h2 r k=>?_⟩
 · obtain ⟨o,_,_,_,e,_⟩:=q;exact ⟨o,e⟩
 · obtain ⟨o,es,ep,t,e,r⟩:=r;exact ⟨o,es,ep,t,k o e,r⟩
theorem items_int {prog:Program} {w:World}:∀ {ns:List Int} {us:List Value},Vals (ns.map V.int) us→ItemsAre (PySem.intKind prog w) ns us
 | [],_,.nil=>.nil
 | n :: ns,_,.cons r rs=>by
   obtain ⟨t,rfl⟩:=r;exact .cons (intKind_is _ _ _ _) (items_int rs)
theorem Zg3 {j:Nat} (hc:X.calm=true) (hr:Room j X.A):Xz X (.type "set") (fun xs H Q=>∃ (a:Addr) (vs:List V) (kl:List (List Int)),xs=[.ref a]∧SqT X.K H a vs∧vs.length=kl.length∧(∀ (i:Nat) (v:V),vs[i]? = some v→∃ (b:Addr) (k:List Int),v=.ref b∧kl[i]? = some k∧SqT X.K H b (k.map V.int))∧kl.Nodup∧kl.length≤30 ∧
 ∀ S,H S=none→Q (.ref S) (upd H S (.ext (Zfa S kl.length)))):=by
 intro pins s σ H xs us Q I r h;obtain ⟨a,vs,kl,rfl,hq,hl,hk,nd,h30,q⟩:=h;cases r with
 | cons rx r =>
   cases r
   cases (show _=Value.ref a from rx)
   obtain ⟨its,rv,pl,hz⟩:=I.tuple hq;have hlen:=rv.length;have hs:H s.z=none:=I.hok.fresh (n6_ _);refine Zhc (knd:=PySem.intKind X.prog X.w) (kl:=kl) (items:=its.toArray) (I.ok.hd hc) (by have:=hr.un;omega) pl (fun i v e=>?_) nd (by simp;omega) h30 fun h' tk es' tb' ep' o' T k=>?_
   · have e':its[i]? = some v:=by simpa using e
     have hi:i<vs.length:=by rw [hlen];exact (n21_.mp e').1
     obtain ⟨x,hx⟩:∃ x,vs[i]? = some x:=⟨_,n1_ hi⟩;obtain ⟨b,k,rfl,ek,hb⟩:=hk i x hx;obtain ⟨u,eu,ru⟩:=rv.get hx;rw [eu] at e';cases e'
     cases ru
     obtain ⟨its2,rv2,⟨o2,g2,c2,n2,d2⟩,_⟩:=I.tuple hb;exact ⟨b,k,rfl,ek,o2,its2.toArray,n2,g2,c2,d2,by simpa using items_int rv2⟩
   · refine ⟨.ref s.z,_,I.laid (t':=tk) k (n6_ _) (Zm7 (n:=kl.length) ⟨o',es',ep',tb',T.get,T.ex,T.dat,T.fits,by rw [T.len,List.length_reverse]⟩),rfl,q _ hs⟩
theorem Zih:Xz X (.builtin "len") (fun xs H Q=>∃ S n,xs=[.ref S]∧H S=some (.ext (Zfa S n))∧n≤sizeLine∧Q (.int n) H):=by
 intro pins s σ H xs us Q I r h;obtain ⟨S,n,rfl,hS,hn,q⟩:=h;cases r with
 | cons rx r =>
   cases r
   cases (show _=Value.ref S from rx)
   obtain ⟨⟨o,es,ep,t,e,ex,d,f,en⟩,_,_⟩:=(show ObjOk X.prog X.w H s.heap S (.ext (Zfa S n)) from I.hok S _ hS);have hl:=Zdy;have hz:sizeLine=16777216:=sizeLine_eq;refine call_len_set e ex d f (by omega) ⟨.int n,H,I.tok _,⟨_,by rw [en]⟩,q⟩
theorem Zfn:∀ (bs:List Bool),((List.range bs.length).any fun i=>(bs[i]?).getD true)=bs.any id
 | []=>rfl
 | b :: bs=>by
   rw [n16_,List.range_succ_eq_map,List.any_cons,List.any_map,List.any_cons,← Zfn bs];rfl
theorem Zmr (hc:X.calm=true):Xz X (.builtin "any") (fun xs H Q=>∃ (p:Addr) (bs:List Bool),xs=[.ref p]∧SqL X.K H p (bs.map V.bl)∧Q (.bl (bs.any id)) H):=by
 intro pins s σ H xs us Q I r h;obtain ⟨p,bs,rfl,hq,q⟩:=h;cases r with
 | cons rx r =>
   cases r
   cases (show _=Value.ref p from rx)
   obtain ⟨its,rv,pl,hz⟩:=I.list hq;have hl:=pl.isList;have hlt:p<s.z:=by obtain ⟨_,e,_⟩:=hl;exact n7_ e
   have hh:X.A.handled=none:=I.ok.hd hc;refine call_any_walk (wpAny_pyIter_list hl ⟨s.z,[s.z,p],[s.z],its.toArray.size,_,_,fun i=>(bs[i]?).getD true,rfl,Walks.list (A:=X.A.in1) hh _ p (n24_ hlt) its.toArray,⟨⟨_,n10_ _ rfl,rfl,rfl⟩,hl.push _⟩,fun i v s' Q' E' hP hQ=>?_,fun h' tk hk=>?_⟩)
   · obtain ⟨b,e,rfl⟩:=Zcp rv (show its[i]? = some v by simpa using hP);simp only [e,Option.getD_some] at hQ;exact wpAny_truthy_bool hQ
   · have e:((List.range its.toArray.size).any fun i=>(bs[i]?).getD true)=bs.any id:=by
      rw [n5_,← rv.length,n23_];exact Zfn bs
     rw [e];exact ⟨.bl _,H,I.kept (Zl3 hk),rfl,q⟩
end
section
variable {prog:Program} {w:World} {A:Around} {E:Value→Shared→Prop} {s:Shared}
theorem Zp2 {it l:Addr} {items:Array Value} (ne:l≠it):∀ (n i:Nat) (s:Shared) (Q:List Value→Shared→Prop),s.heap.IsListIter it l i→s.heap.IsList l items→i+n≤items.size →
 (∀ h',h'.IsListIter it l (i+n)→Heap.SameBut it s.heap h'→Q ((items.toList.drop i).take n) { s with heap:=h' })→wpAny (model prog w) A (draw (.ref it) n) Q E s
 | 0,i,s,Q,hit,_,_,q=>by
   show wpAny _ _ (pure []) Q E s
   exact n4_ (by simpa using q s.heap hit (Heap.SameBut.refl ..))
 | n+1,i,s,Q,hit,hl,hle,q=>by
   have hlt:i<items.size:=by omega
   refine n0_ (m:=pyNext (.ref it)) (wpAny_pyNext_list_item hit hl (x:=items[i]) (by simp [hlt]) fun h1 it1 s1=>?_);refine n0_ (n37_ (Zp2 ne n (i+1) _ _ it1 (hl.extBut s1.extBut ne) (by omega) fun h2 it2 s2=>n4_ ?_));have e:items.toList.drop i=items[i] :: items.toList.drop (i+1):=by simp [List.drop_eq_getElem_cons,hlt]
   have z:=q h2 (by rw [show i+(n+1)=i+1+n by omega];exact it2) (s1.trans s2);rw [e,List.take_succ_cons] at z;exact z
theorem Zgn {l:Addr} {items:Array Value} {Q:List Value→Shared→Prop} (hh:A.handled=none) (hl:s.heap.IsList l items)
 (q:∀ h',Heap.ExtBut s.z s.heap h'→Q items.toList { s with heap:=h' }):wpAny (model prog w) A (unpackItems (.ref l) items.size none) Q E s:=by
 have ne:l≠s.z:=by obtain ⟨o,ho,_⟩:=hl;exact n24_ (n7_ ho)
 unfold unpackItems;refine n0_ ?_
 · unfold notIterableAtAll;refine n0_ (wpAny_specialOf hl.typeIs F.slot_list_iter.lookup (n4_ ?_));simp only [n22_,if_false];refine n0_ (n37_ (wpAny_pyIter_list hl ?_));refine n0_ (n37_ (Zp2 ne items.size 0 _ _ ⟨_,n10_ _ rfl,rfl,rfl⟩ (hl.push _) (by omega) fun h1 it1 s1=>?_));rw [show List.take items.size (List.drop 0 items.toList)=items.toList by rw [List.drop_zero];exact n55_ (by simp),if_neg (by simp)];refine n0_ (n37_ (wpAny_pyNext_list_end hh it1 ((hl.push _).extBut s1.extBut ne) (by simp) fun h2 e2=>?_));simp only [Option.isSome_none,n22_,if_false];refine n4_ (q h2 fun b o hb e=>e2 b o hb (s1.extBut b o hb (n2_ _ e)))
theorem Zoe {env:Env} {elts:List Expr} {x1} {pos:Pos} {l:Addr} {items:Array Value} {Q:Unit→Shared→Prop} (hh:A.handled=none) (hl:s.heap.IsList l items)
 (hn:(assignEach elts env).length=items.size) (hs:(assignEach elts env).findIdx? (·.1)=none)
 (h:∀ h',Heap.ExtBut s.z s.heap h'→wpAny (model prog w) A (assignInOrder ((assignEach elts env).map (·.2)) items.toList) Q E { s with heap:=h' }) :
 wpAny (model prog w) A (assign (.Tuple elts x1 pos) env (.ref l)) Q E s:=by
 rw [assign_Tuple];refine n0_ (wpAny_standAt ?_);unfold unpack;rw [hn,hs];exact n0_ (n37_ (Zgn hh hl h))
end
section
variable {X:Cx} {pos:Pos}
def gLst (K:PySem.W.Frag) (n:Nat) (t:TGs):TG:=fun v σ H Q=>∃ a xs,v=.ref a∧SqL K H a xs∧xs.length=n∧t xs σ H Q
theorem Zso {es:List Expr} {k:Nat} {t:TGs} {n:Nat} (hc:X.calm=true) (h:PGs X es t) (hn:(assignEach es X.env).length=n:=by rfl) (hst:(assignEach es X.env).findIdx? (·.1)=none:=by rfl):PG X (.Tuple es k pos) (gLst X.K n t):=by
 intro pins s σ H v u Q I r hw;obtain ⟨a,xs,e1,hq,hl,hw⟩:=hw;subst e1;cases r
 obtain ⟨its,rv,pl,hz⟩:=I.list hq;refine Zoe (I.ok.hd hc) pl.isList (by simp [hn,← hl,rv.length]) hst fun h' hx=>?_;have I1:Inv X pins σ H { s with heap:=h' }:=I.kept (t':=s.toks) fun b o e=>hx b o (n24_ (n7_ e)) e;exact h pins _ σ H xs _ Q I1 (by simpa using rv) hw
theorem Zcz:∀ {us:List Value} {ns:List Int},IntsAre us ns→Vals (ns.map V.int) us
 | _,_,.nil=>.nil
 | _,_,.cons n t r=>.cons ⟨t,rfl⟩ (Zcz r)
theorem Zh2:Xz X (.builtin "sorted") (fun xs H Q=>∃ (p:Addr) (ns:List Int),xs=[.ref p]∧SqL X.K H p (ns.map V.int)∧ns.length<64∧∀ (l:Addr) (ns':List Int),H l=none→ns'.Perm ns→ns'.Pairwise (·≤·)→Q (.ref l) (upd H l (.lst (ns'.map V.int)))):=by
 intro pins s σ H xs us Q I r h;obtain ⟨p,ns,rfl,hq,h64,q⟩:=h;cases r with
 | cons rx r =>
   cases r
   cases (show _=Value.ref p from rx)
   obtain ⟨its,rv,pl,hz⟩:=I.list hq;have hlen:=rv.length;rw [n23_] at hlen;refine sorted_ints pl.isList (Zbd rv) (by omega) fun out ns' a1 a2 a3=>?_;obtain ⟨e,he⟩:=sortedAll_at s.heap its out;have fr:H (s.z+1)=none:=I.hok.fresh (Nat.le_succ _);refine ⟨.ref (s.z+1),_,I.laid (o:=.lst (ns'.map V.int)) (t':=s.toks) (fun b u e=>sortedAll_old e) (Nat.le_succ _) ⟨?_,out.toList,e,Zcz a1,by simpa using he⟩,rfl,q _ ns' fr a2 a3⟩;rw [n23_,a2.length_eq,sizeLine_eq];omega
theorem Zik {n:Nat}:∀ {l:List Value} (k:Nat),l.length=n→(∀ (j:Nat) (v:Value),l[j]? = some v→∃ t,v=.int ((k:Int)+j) t)→Vals ((List.range' k n).map fun i:Nat=>V.int i) l:=by
 induction n with
 | zero=>intro l k hl _;cases l with
   | nil=>exact .nil
   | cons _ _=>simp at hl
 | succ n ih =>
   intro l k hl h;cases l with
   | nil=>simp at hl
   | cons x l =>
     obtain ⟨t,rfl⟩:=h 0 x rfl;refine .cons ⟨t,by simp⟩ (ih (k+1) (by simpa using hl) fun j v e=>?_);obtain ⟨t',e'⟩:=h (j+1) v (by simpa using e);exact ⟨t',by rw [e'];congr 1;omega⟩
theorem Zsl {a:Expr} {ta:TA} {p2 q2:Pos} (hg2:Gl X "range") (hm2:X.mg "range" = none) (ha:PA X [a] ta) (he:starEach [a] X.env=[(false,eval a X.env)]:=by rfl) :
 PE X (.Call (.Name "range" p2) [a] [] q2) (fun σ H Q=>ta σ H fun vs H1=>∃ n:Nat,vs=[.int n]∧∀ r,H1 r=none→Q (.ref r) (upd H1 r (.rng 0 n))):=by
 intro pins s σ H Q I h;refine Call_ (Zb6 I hg2 hm2 boot_range (n44_ (thn (ha q2 pins s σ H _ I h) fun us s1 ⟨vs,H1,I1,r1,q1⟩=>?_) he rfl));obtain ⟨n,rfl,q⟩:=q1;cases r1 with
 | cons r rr =>
   cases rr
   obtain ⟨t,rfl⟩:=r;refine call_range_1 ?_;have fr:H1 s1.z=none:=I1.hok.fresh (n6_ _);exact ⟨.ref s1.z,_,I1.laid (o:=.rng 0 n) (fun b o e=>n2_ _ e) (n6_ _) ⟨_,_,_,n10_ _ rfl⟩,rfl,q _ fr⟩
theorem Zkw (hc:X.calm=true):Xz X (.type "list") (fun xs H Q=>∃ (r:Addr) (n:Nat),xs=[.ref r]∧H r=some (.rng 0 n)∧n≤1000∧∀ l,H l=none→Q (.ref l) (upd H l (.lst ((List.range n).map fun i:Nat=>V.int i)))):=by
 intro pins s σ H xs us Q I r h;obtain ⟨a,n,rfl,hr,hn,q⟩:=h;cases r with
 | cons rx r =>
   cases r
   cases (show _=Value.ref a from rx)
   obtain ⟨t,u,v,e⟩:=(show ObjOk X.prog X.w H s.heap a (.rng 0 n) from I.hok a _ hr);have fr:H s.z=none:=I.hok.fresh (n6_ _);refine call_list_range (n:=n) (I.ok.hd hc) e (small_one (by omega) (by omega) (by omega) (by omega)) (by rw [rangeSize_one];split<;>omega) (by omega) fun h' tk acc c k hS it=>?_;refine ⟨.ref s.z,_,I.laid (o:=.lst ((List.range n).map fun i:Nat=>V.int i)) (t':=tk) k (n6_ _) ⟨?_,acc.toList,c,?_,by simpa using hS⟩,rfl,q _ fr⟩
   · rw [n23_,List.length_range,sizeLine_eq];omega
   · rw [List.range_eq_range'];refine Zik 0 (by rw [Array.length_toList];exact it.1) fun j v e=>?_;obtain ⟨t',e'⟩:=it.2 j v (by simpa using e);exact ⟨t',by rw [e'];congr 1;omega⟩
end
def Zsx (c t0 i0 i1:Expr) (it acc:Value) (env:Env):Sem Fin:=do
 standAt i0.pos
 match ← pyNext it with
 | none=>pure (.done .next)
 | some v =>
   letOwnedTupleGo t0 it v
   assign t0 env v
   let mut ok:=true
   for c in ([]:List Expr) do
    if ok then ok ← isTrue c env (eval c env)
   if ok then do
    let x ← eval i1 env
    standAt i1.pos
    let x ← foldedSetIterable i1 env x
    let _ ← runOwn (.compStart c 1 (← holding [x] (pyIter x)) acc env) env
    again (.compLoop c 0 it acc env)
   else again (.compLoop c 0 it acc env)
def Zry (c t1 i1 elt:Expr) (add:Value→Sem PUnit) (it acc:Value) (env:Env):Sem Fin:=do
 standAt i1.pos
 match ← pyNext it with
 | none=>pure (.done .next)
 | some v =>
   letOwnedTupleGo t1 it v
   assign t1 env v
   let mut ok:=true
   for c in ([]:List Expr) do
    if ok then ok ← isTrue c env (eval c env)
   if ok then
    (do let v ← eval elt env;add v)
   again (.compLoop c 1 it acc env)
structure C2Ok (prog:Program) (w:World) (c t0 i0 t1 i1 elt:Expr) (id:String) (add:Value→Value→Sem PUnit):Prop where
 un:∀ (A:Around) (k:Nat) (it acc:Value) (env:Env),A.under (.compLoop c k it acc env)=A
 den:∀ (k:Nat) (it acc:Value) (env:Env),(model prog w).den (.compLoop c k it acc env)=(compTurn c k it acc env).onRaise (fun x=>do noteFrame x env;theTreesLotGoes x)
 qu:∀ (k:Nat) (it acc:Value) (env:Env),(Code.compLoop c k it acc env).quiet=true
 e0:∀ it acc env,compTurn c 0 it acc env=Zsx c t0 i0 i1 it acc env
 e1:∀ it acc env,compTurn c 1 it acc env=Zry c t1 i1 elt (add acc) it acc env
 ha:∀ (A:Around) acc x s (P:Shared→Prop) E,wpAny (model prog w) A (call (.builtin id) [acc,x]) (fun _ s5=>P s5) NoX s→wpAny (model prog w) A (add acc x) (fun _ s5=>P s5) E s
 start:∀ (A:Around) k,k<2→∀ it acc env R s4,codeAny (model prog w) A (.compLoop c k it acc env) R s4→(∀ E,wpAny (model prog w) A (pyIter it) (fun it' s'=>codeAny (model prog w) A (.compLoop c k it' acc env) R s') E s4)→codeAny (model prog w) A (.compStart c k it acc env) R s4
section
variable {prog:Program} {w:World} {A:Around} {R:Result→Shared→Prop} {s:Shared} {c elt t0 i0 t1 i1:Expr} {it acc:Value} {env:Env} {add:Value→Value→Sem PUnit} {id:String} (c2:C2Ok prog w c t0 i0 t1 i1 elt id add)
include c2
theorem Zov (I:Nat→Shared→Prop)
 (turn:∀ n s,I n s→Zni (model prog w) A t1 it env R (fun n s3=>wpAny (model prog w) A (eval elt env) (fun x s4=>wpAny (model prog w) A (call (.builtin id) [acc,x]) (fun _ s5=>∃ m,m<n∧I m s5) NoX s4) NoX s3) n s)
 (n:Nat) (h:I n s):codeAny (model prog w) A (.compLoop c 1 it acc env) R s:=by
 refine codeAny_loop (c2.qu _ _ _ _) I (fun n s hI=>?_) n h;rw [c2.un,c2.den];refine wpAny_noted ?_;rw [c2.e1];unfold Zry;refine n0_ (wpAny_standAt (n0_ (n36_ (turn n s hI) (fun r s1 h1=>?_) fun _ _ h'=>h'.elim)));cases r with
 | none=>exact n4_ h1
 | some v =>
   refine n0_ (n36_ h1 (fun _ s2 h2=>n0_ (n36_ h2 (fun _ s3 h3=>n0_ (n4_ ?_)) fun _ _ h'=>h'.elim)) fun _ _ h'=>h'.elim);simp only [if_true];exact n0_ (n0_ (n36_ h3 (fun x s4 h4=>n36_ (c2.ha _ _ x s4 _ _ h4) (fun _ s5 h5=>n4_ ⟨rfl,h5⟩) fun _ _ h'=>h') fun _ _ h'=>h'.elim))
theorem Zod (hs1:∀ x,foldedSetIterable i1 env x=pure x) (I:Nat→Shared→Prop)
 (turn:∀ n s,I n s→Zni (model prog w) A t0 it env R (fun n s3=>wpAny (model prog w) A (eval i1 env) (fun x s4=>wpAny (model prog w) A (pyIter x) (fun itv s5 =>
   codeAny (model prog w) A (.compStart c 1 itv acc env) (fun r s6=>match r with|.ok _=>∃ m,m<n∧I m s6|.error _=>False) s5) NoX s4) NoX s3) n s)
 (n:Nat) (h:I n s):codeAny (model prog w) A (.compLoop c 0 it acc env) R s:=by
 refine codeAny_loop (c2.qu _ _ _ _) I (fun n s hI=>?_) n h;rw [c2.un,c2.den];refine wpAny_noted ?_;rw [c2.e0];unfold Zsx;refine n0_ (wpAny_standAt (n0_ (n36_ (turn n s hI) (fun r s1 h1=>?_) fun _ _ h'=>h'.elim)));cases r with
 | none=>exact n4_ h1
 | some v =>
   refine n0_ (n36_ h1 (fun _ s2 h2=>n0_ (n36_ h2 (fun _ s3 h3=>n0_ (n4_ ?_)) fun _ _ h'=>h'.elim)) fun _ _ h'=>h'.elim);simp only [if_true];refine n0_ (n36_ h3 (fun x s4 h4=>n0_ (wpAny_standAt (n0_ (wpAny_of_eq (hs1 x) (n0_ (n37_ (n36_ h4 (fun itv s5 h5=>n0_ (wpAny_runOwn ?_)) fun _ _ h'=>h'.elim))))))) fun _ _ h'=>h'.elim);refine codeAny_mono h5 fun r s6 h6=>?_;cases r with
   | ok f=>exact n4_ ⟨rfl,h6⟩
   | error e=>exact h6.elim
end
abbrev TAd:=V→Addr→Hp→(Hp→Prop)→Prop
abbrev adS:TAd:=fun v D H C=>∃ (k:Int) (S:Int→Bool) (n:Nat),v=.int k∧H D=some (.set S n)∧n+1<scanBound∧C (upd H D (.set (fun k'=>S k'||decide (k'=k)) (if S k then n else n+1)))
def PAd (id:String) (ad:TAd):Prop:=∀ (X:Cx) (pins:List (Addr×Obj)) (s:Shared) (σ:St) (H:Hp) (v:V) (u:Value) (D:Addr) (C:Hp→Prop),Inv X pins σ H s→RelV v u→ad v D H C→wpAny (model X.prog X.w) X.A (call (.builtin id) [.ref D,u]) (fun _ s'=>∃ H',Inv X pins σ H' s'∧C H') X.xe s
def C2In (ad:TAd) (J1:It) (g1:TG) (te:TE) (D:Addr) (σ4:St) (H5:Hp) (fin:St→Hp→Prop):Prop:=∃ W1:Nat→Nat→St→Hp→Prop,(∃ m1,W1 0 m1 σ4 H5)∧∀ i1 m1 σ6 H6,W1 i1 m1 σ6 H6 →
 (J1.stop i1 H6∧fin σ6 H6)∨(J1.go i1 H6∧∀ y H7,J1.yld i1 H6 y H7→g1 y σ6 H7 fun σ8 H8=>te σ8 H8 fun v H9=>ad v D H9 fun Hn=>∃ m1',m1'<m1∧W1 (i1+1) m1' σ8 Hn)
def C2Go (ad:TAd) (ac:HO) (J:It) (g0:TG) (wi1:TI) (g1:TG) (te:TE) (σ0:St) (H1:Hp) (D:Addr) (Q:VK):Prop:=∃ W:Nat→Nat→St→Hp→Prop,(∃ m,W 0 m σ0 (upd H1 D ac)) ∧
 ∀ i m σ2 H2,W i m σ2 H2→(J.stop i H2∧Q (.ref D) H2)∨(J.go i H2∧∀ x H3,J.yld i H2 x H3→g0 x σ2 H3 fun σ4 H4=>wi1 σ4 H4 fun J1 H5=>C2In ad J1 g1 te D σ4 H5 fun σ6 H6=>∃ m',m'<m∧W (i+1) m' σ6 H6)
theorem Zrn {X:Cx} {pins:List (Addr×Obj)} {σ:St} {H2:Hp} {s2 s3:Shared} {scope:Scope} {cl:List (Str×Addr)} {N:List Str} {fr:List (Option Nat)} {t0 i0 t1 i1 elt:Expr} {g0 g1:TG} {wi1:TI} {te:TE} {J:It} {fp:List Addr} {it:Addr} {tn:Nat→Heap→Prop} {ac:HO} {ad:TAd} {id:String} {o0:Obj} {c:Expr} {Q:VK} {add:Value→Value→Sem PUnit}
 (hs3:s3={ s2 with heap:=s2.heap.push o0 }) (hc:X.calm=true) (L:LcO X scope cl N fr) (hg:∀ C s3 H3 fp,PG (blk X scope cl C N s3 H3 fp) t0 g0) (hi1:∀ C s3 H3 fp,PI (blk X scope cl C N s3 H3 fp) t1 i1 wi1) (hg1:∀ C s3 H3 fp,PG (blk X scope cl C N s3 H3 fp) t1 g1) (he:∀ C s3 H3 fp,PE (blk X scope cl C N s3 H3 fp) elt te) (hA:PAd id ad)
 (I2:Inv X pins σ H2 s2) (T:Turn X.prog X.w X.K t0 J fp it tn) (st2:tn 0 s2.heap) (f2:∀ b∈fp,FpOk X pins H2 b)
 (ok0:ObjOk X.prog X.w (upd H2 s2.z ac) (s2.heap.push o0) s2.z ac) (h:C2Go ad ac J g0 wi1 g1 te (Zbv fr σ) H2 s2.z Q) (hs1:∀ env x,foldedSetIterable i1 env x=pure x)
 (c2:C2Ok X.prog X.w c t0 i0 t1 i1 elt id add) :
 wpAny (model X.prog X.w) X.A (newFunctionEnv scope X.env.globals cl [] X.env.qual none .none (some X.env)) (fun cenv s4=>codeAny (model X.prog X.w) X.A (.compStart c 0 (.ref it) (.ref s2.z) { cenv with scope:=relabel scope X.env }) (compPost (model X.prog X.w) X.A X.xe none (EP X pins σ Q) (.ref s2.z) cenv.locals) s4) X.xe s3:=by
 obtain ⟨W,⟨m0,w0⟩,turn⟩:=h;refine Zgd (R:=fun C=>compPost (model X.prog X.w) X.A X.xe none (EP X pins σ Q) (.ref s2.z) C) hs3 hc L hg I2 T st2 f2 ok0 w0 turn (fun env s4 a b=>c2.start _ 0 (by decide) _ _ _ _ _ a b) (fun LI s4 t n h=>Zod c2 (hs1 _) LI t n h) (fun H7 s7 qn _ _ c=>Zm9 qn c) fun LI n i σ9 H9 s9 ps I9 q9 again=>?_;refine thn (hi1 _ _ _ _ ps s9 σ9 H9 _ I9 q9) fun xv s10 h10=>thn h10 fun itv s11 h11=>?_;obtain ⟨it1,fp1,tn1,J1,H11,e,I11,T1,st11,f11,W1,⟨m1,w1⟩,turn1⟩:=h11;subst e;have fpC:∀ {H':Hp} (b:Addr),b∈fp1→H' b=none→FpOk (blk X scope cl s3.z N s3 (upd H2 s2.z ac) fp) ps H' b:=fun b hb hn=>⟨hn,(f11 b hb).2⟩
 have lp:codeAny (model X.prog X.w) X.A (.compLoop c 1 (.ref it1) (.ref s2.z) (blk X scope cl s3.z N s3 (upd H2 s2.z ac) fp).env) (fun r s6=>match r with|.ok _=>∃ m,m<n∧LI m s6|.error _=>False) s11:=by
  refine Zov c2 (fun n1 s'=>∃ j σ' H',Inv (blk X scope cl s3.z N s3 (upd H2 s2.z ac) fp) ps σ' H' s'∧tn1 j s'.heap∧(∀ b∈fp1,H' b=none)∧W1 j n1 σ' H') ?_ m1 ⟨0,_,_,I11,st11,fun b hb=>(f11 b hb).1,w1⟩;rintro n1 s13 ⟨j,σ13,H13,I13,st13,fr13,w13⟩
  unfold Zni
  rcases turn1 j n1 σ13 H13 w13 with ⟨stop,m',hm',qn⟩|⟨go1,step1⟩
  · refine thn (T1.done (blk X scope cl s3.z N s3 (upd H2 s2.z ac) fp) rfl rfl rfl hc j _ s13 σ13 H13 (fun _ _=>False) I13 (fun b hb=>fpC b hb (fr13 b hb)) st13 stop) fun r s14 ⟨hr,I14⟩=>?_;subst hr;exact again I14 hm' qn
  · refine thn (T1.item (blk X scope cl s3.z N s3 (upd H2 s2.z ac) fp) rfl rfl rfl hc j _ s13 σ13 H13 (fun _ _=>False) I13 (fun b hb=>fpC b hb (fr13 b hb)) st13 go1) fun r s14 ⟨u1,hr,h14⟩=>?_;subst hr;refine thn h14 fun _ s15 ⟨y,H15,I15,r15,y15,st15,fr15⟩=>?_;have I15':=I15.pinned (fun b hb=>fpC b hb (fr15 b hb)) (T1.obj _ _ st15);refine thn (hg1 _ _ _ _ _ s15 σ13 H15 y u1 _ I15' r15 (step1 y H15 y15)) fun _ s16 ⟨σ16,H16,I16,q16⟩=>?_;refine thn (he _ _ _ _ _ s16 σ16 H16 _ I16 q16) fun vv s17 ⟨vk,H17,I17,r17,q17⟩=>?_;refine thn (hA _ _ s17 σ16 H17 vk vv _ _ I17 r17 q17) fun _ s18 ⟨H18,I18,m',hm',w18⟩=>?_;refine ⟨m',hm',j+1,σ16,_,I18.unpinned,T1.keep _ _ _ st15 fun b hb o e=>(I18.pin (b,o) (n29_ _ (n29_ _ (Xi hb e)))).1,fun b hb=>?_,w18⟩;obtain ⟨o,e,d⟩:=T1.obj _ _ st15 b hb;exact (I18.pin (b,o) (n29_ _ (n29_ _ (Xi hb e)))).2.1
 exact c2.start _ 1 (by decide) _ _ _ _ _ lp fun E=>T1.self _ 0 _ _ _ st11 lp
abbrev sc2 (elt t0 i0 t1 i1:Expr) (scope:Scope) (pos:Pos):Expr:=.SetComp elt [⟨t0,i0,[],0⟩,⟨t1,i1,[],0⟩] scope pos
theorem Ztb {prog:Program} {w:World} {elt t0 i0 t1 i1:Expr} {scope:Scope} {pos:Pos}:C2Ok prog w (sc2 elt t0 i0 t1 i1 scope pos) t0 i0 t1 i1 elt "set.add" (fun acc v=>do standAt elt.pos;let _ ← call (.builtin "set.add") [acc,v]):=by
 refine ⟨fun _ _ _ _ _=>rfl,fun _ _ _ _=>rfl,fun _ _ _ _=>rfl,fun _ _ _=>rfl,fun _ _ _=>rfl,fun A acc x s P E h=>n0_ (wpAny_standAt (n0_ (n36_ h (fun _ s5 h5=>n4_ h5) fun _ _ h'=>h'.elim))),fun A k hk it acc env R s4 h0 h=>?_⟩;refine codeAny_of_tree ?_;show wpAny _ _ ((compStart (sc2 elt t0 i0 t1 i1 scope pos) k it acc env).onRaise (fun x=>do noteFrame x env;standAt theWindowsPlace)) _ _ s4
 refine wpAny_notedAt ?_;have hk':k=0∨k=1:=by omega
 rcases hk' with rfl|rfl <;>
 · unfold compStart;show wpAny _ _ (ask >>= _) _ _ s4
   refine n0_ (wpAny_askSetting (wpAny_ite ?_));split
   · first
      | exact n0_ (n4_ (n4_ (And.intro rfl h0)))
      | exact n4_ (And.intro rfl h0)
   · first
      | exact n0_ (wpAny_rule (n0_ (wpAny_standAt (n0_ (n36_ (h NoX) (fun it' s' h'=>n4_ (And.intro rfl h')) fun _ _ x=>x.elim)))))
      | (refine n0_ (wpAny_rule ?_);show wpAny _ _ (standAt _ >>= _) _ _ s4;exact n0_ (wpAny_standAt (n0_ (n36_ (h NoX) (fun it' s' h'=>n4_ (And.intro rfl h')) fun _ _ x=>x.elim))))
theorem Zuo:PAd "set.add" adS:=fun X pins s σ H v u D C I r ⟨k,S,nn,e,hS,hroom,q⟩=>by
 subst e;obtain ⟨tk,rfl⟩:=r;have hset:s.heap.SetOf (PySem.intKind X.prog X.w) D S nn:=I.hok _ _ hS;refine call_set_add (knd:=PySem.intKind X.prog X.w) (k:=k) (intKind_is _ _ _ _) rfl hset hroom fun h18 sb18 hset'=>⟨_,?_,q⟩;refine I.write (e:=D) (by rw [hS];trivial) (.inl rfl) (fun b o hb e=>(sb18.2 b hb).trans e) ?_ hset';obtain ⟨o,_,_,_,e,_⟩:=hset';exact ⟨o,e⟩
abbrev ScGo:=C2Go adS (.set (fun _=>false) 0)
def tSC (wi:TI) (g0:TG) (wi1:TI) (g1:TG) (te:TE) (fr:List (Option Nat)):TE:=fun σ H Q=>wi σ H fun J H1=>∀ D,H1 D=none→ScGo J g0 wi1 g1 te (Zbv fr σ) H1 D Q
theorem Zpv {X:Cx} {t0 i0 t1 i1 elt:Expr} {scope:Scope} {cl:List (Str×Addr)} {N:List Str} {fr:List (Option Nat)} {pos:Pos} {wi wi1:TI} {g0 g1:TG} {te:TE}
 (hc:X.calm=true) (L:LcO X scope cl N fr) (hi:PI X t0 i0 wi) (hg:∀ C s3 H3 fp,PG (blk X scope cl C N s3 H3 fp) t0 g0) (hi1:∀ C s3 H3 fp,PI (blk X scope cl C N s3 H3 fp) t1 i1 wi1) (hg1:∀ C s3 H3 fp,PG (blk X scope cl C N s3 H3 fp) t1 g1)
 (he:∀ C s3 H3 fp,PE (blk X scope cl C N s3 H3 fp) elt te)
 (hs:∀ x,foldedSetIterable i0 X.env x=pure x:=by intro _;rfl) (hs1:∀ env x,foldedSetIterable i1 env x=pure x:=by intro _ _;rfl):PE X (sc2 elt t0 i0 t1 i1 scope pos) (tSC wi g0 wi1 g1 te fr):=by
 intro pins s σ H Q I h;rw [arm_eval_SetComp];dsimp only;refine wpAny_comprehension_free (use:=none) rfl hs L.clos L.kind L.names (thn (hi pins s σ H _ I h) fun v s1 h1=>thn h1 fun itv s2 h2=>?_);obtain ⟨it,fp,tn,J,H2,e,I2,T,st2,f2,h⟩:=h2;subst e;refine wpAny_newSet_of (knd:=PySem.intKind X.prog X.w) fun led setOf=>?_;exact Zrn (ac:=.set (fun _=>false) 0) rfl hc L hg hi1 hg1 he Zuo I2 T st2 f2 setOf (h _ (I2.hok.fresh (n6_ _))) hs1 Ztb
end L2
namespace L2
open PySem PySem.Spec PyProof.Rows PySem.W
def krun {α:Type} (f:Nat→Nat→Bool):KasT α→α
 | .ret a=>a
 | .ask i j k=>krun f (k (f i j))
def kin {α:Type} (n:Nat) (f:Nat→Nat→Bool):KasT α→Bool
 | .ret _=>true
 | .ask i j k=>decide (i<n)&&decide (j<n)&&kin n f (k (f i j))
theorem Znm {α:Type} {n:Nat} {f:Nat→Nat→Bool} {cmp:Nat→Nat→(Bool→Shared→Prop)→Shared→Prop} {Q:α→Shared→Prop} {s:Shared} (hc:∀ i j C,i<n→j<n→C (f i j) s→cmp i j C s) :
 ∀ (t:KasT α),kin n f t=true→Q (krun f t) s→t.kasWp cmp Q s
 | .ret a,_,h=>h
 | .ask i j k,hk,h=>by
   unfold kin at hk;rw [n27_,n27_] at hk;exact hc i j _ (n31_ hk.1.1) (n31_ hk.1.2) (Znm hc (k (f i j)) hk.2 h)
def fB (b:Nat→Nat→Bool) (i j:Nat):Bool:=if i<j then b i j else if j<i then !b j i else false
def tot (n:Nat) (f:Nat→Nat→Bool):Bool:=(List.range n).all fun i=>(List.range n).all fun j=>(List.range n).all fun k=>!(f i j&&f j k)||f i k
def srt (f:Nat→Nat→Bool):List Nat→Bool
 | []=>true
 | [_]=>true
 | i :: j :: r=>f i j&&srt f (j :: r)
def fine (n:Nat) (f:Nat→Nat→Bool):Bool:=!tot n f||(kin n f (kas_sort n)&&(krun f (kas_sort n)).toList.isPerm (List.range n)&&srt f (krun f (kas_sort n)).toList)
def g2 (a:Bool):Nat→Nat→Bool:=fun _ _=>a
def g3 (a b c:Bool):Nat→Nat→Bool:=fun i j=>if i=0 then (if j=1 then a else b) else c
def g4 (a b c d e g:Bool):Nat→Nat→Bool:=fun i j=>if i=0 then (if j=1 then a else if j=2 then b else c) else if i=1 then (if j=2 then d else e) else g
theorem Zup:∀ a,fine 2 (fB (g2 a))=true:=by decide +kernel
theorem Ztu:∀ a b c,fine 3 (fB (g3 a b c))=true:=by decide +kernel
theorem Zt3:∀ a b c d e g,fine 4 (fB (g4 a b c d e g))=true:=by decide +kernel
theorem Znf {α:Type} {n:Nat} {f f':Nat→Nat→Bool} (h:∀ i j,i<n→j<n→f i j=f' i j):∀ (t:KasT α),kin n f' t=true→kin n f t=true∧krun f t=krun f' t
 | .ret a,_=>⟨rfl,rfl⟩
 | .ask i j k,hk=>by
   unfold kin at hk;rw [n27_,n27_] at hk;obtain ⟨⟨h1,h2⟩,h3⟩:=hk;have e:=h i j (n31_ h1) (n31_ h2);obtain ⟨r1,r2⟩:=Znf h (k (f' i j)) h3;refine ⟨?_,?_⟩
   · unfold kin;rw [e,h1,h2,r1];rfl
   · show krun f (k (f i j))=krun f' (k (f' i j))
     rw [e];exact r2
structure Ord (n:Nat) (f:Nat→Nat→Bool):Prop where
 irr:∀ i,i<n→f i i=false
 ant:∀ i j,i<n→j<n→i≠j→f j i = !f i j
 tr:∀ i j k,i<n→j<n→k<n→f i j=true→f j k=true→f i k=true
theorem Zg5 {n:Nat} {f f':Nat→Nat→Bool} (h:∀ i j,i<n→j<n→f i j=f' i j):∀ (l:List Nat),(∀ i∈l,i<n)→srt f l=srt f' l
 | [],_=>rfl
 | [_],_=>rfl
 | i :: j :: r,hl=>by
   show (f i j&&srt f (j :: r))=(f' i j&&srt f' (j :: r))
   rw [h i j (hl i (by simp)) (hl j (by simp)),Zg5 h (j :: r) fun k hk=>hl k (n18_ _ hk)]
theorem Zgh {n:Nat} {f f':Nat→Nat→Bool} (o:Ord n f) (h:∀ i j,i<n→j<n→f i j=f' i j) (hf:fine n f'=true):kin n f (kas_sort n)=true∧(krun f (kas_sort n)).toList.Perm (List.range n)∧srt f (krun f (kas_sort n)).toList=true:=by
 have ht:tot n f'=true:=by
  unfold tot;simp only [n33_,n35_];intro i hi j hj k hk;rw [← h i j hi hj,← h j k hj hk,← h i k hi hk];cases a:f i j<;>cases b:f j k<;>simp
  exact o.tr i j k hi hj hk a b
 unfold fine at hf;rw [ht] at hf;simp only [Bool.not_true,Bool.false_or,n27_] at hf;obtain ⟨⟨h1,h2⟩,h3⟩:=hf;obtain ⟨r1,r2⟩:=Znf h (kas_sort n) h1;have hp:(krun f' (kas_sort n)).toList.Perm (List.range n):=List.isPerm_iff.mp h2;refine ⟨r1,by rw [r2];exact hp,?_⟩;rw [r2,Zg5 h _ fun i hi=>n35_.mp (hp.mem_iff.mp hi)];exact h3
theorem Zpa {n:Nat} {f:Nat→Nat→Bool} (o:Ord n f) (h1:2≤n) (h2:n≤4):kin n f (kas_sort n)=true∧(krun f (kas_sort n)).toList.Perm (List.range n)∧srt f (krun f (kas_sort n)).toList=true:=by
 have cases3:n=2∨n=3∨n=4:=by omega
 have key:∀ (g:Nat→Nat→Bool),(∀ i j,i<j→j<n→f i j=g i j)→∀ i j,i<n→j<n→f i j=fB g i j:=fun g hg i j hi hj=>by
  unfold fB
  by_cases a:i<j
  · rw [if_pos a];exact hg i j a hj
  · rw [if_neg a]
    by_cases b:j<i
    · rw [if_pos b,← hg j i b hi];exact o.ant j i hj hi (by omega)
    · rw [if_neg b]
      have:i=j:=by omega
      subst this;exact o.irr i hi
 rcases cases3 with rfl|rfl|rfl
 · refine Zgh o (key (g2 (f 0 1)) fun i j a b=>?_) (Zup _)
   have:i=0∧j=1:=by omega
   obtain ⟨rfl,rfl⟩:=this;rfl
 · refine Zgh o (key (g3 (f 0 1) (f 0 2) (f 1 2)) fun i j a b=>?_) (Ztu _ _ _)
   have:(i=0∧j=1)∨(i=0∧j=2)∨(i=1∧j=2):=by omega
   rcases this with ⟨rfl,rfl⟩|⟨rfl,rfl⟩|⟨rfl,rfl⟩<;>rfl
 · refine Zgh o (key (g4 (f 0 1) (f 0 2) (f 0 3) (f 1 2) (f 1 3) (f 2 3)) fun i j a b=>?_) (Zt3 _ _ _ _ _ _)
   have:(i=0∧j=1)∨(i=0∧j=2)∨(i=0∧j=3)∨(i=1∧j=2)∨(i=1∧j=3)∨(i=2∧j=3):=by omega
   rcases this with ⟨rfl,rfl⟩|⟨rfl,rfl⟩|⟨rfl,rfl⟩|⟨rfl,rfl⟩|⟨rfl,rfl⟩|⟨rfl,rfl⟩<;>rfl
section
variable {prog:Program} {w:World} {A:Around} {E:Value→Shared→Prop} {s:Shared}
theorem Zqe {a:Addr} {vs:List Value} {n:Nat} {P:PySem.Fin→Shared→Prop} (good:List Nat→Prop) (g1:vs.length<2→good (List.range vs.length)) (ho:s.heap.get? a=some (seqObj "list" vs.toArray n)) (h64:vs.length<64)
 (ask:2≤vs.length→∀ h1,(∀ b u,b≠a→s.heap.get? b=some u→h1.get? b=some u)→wpAny (model prog w) A (keyKind' vs.toArray) (fun κ s1=>s1={ s with heap:=h1 }∧(kas_sort vs.length).kasWp (kas_ask prog w A κ vs) (fun p s2=>s2={ s with heap:=h1 }∧good p.toList) s1) (fun _ _=>False) { s with heap:=h1 })
 (h:∀ p:List Nat,good p→P (.done (.ret .none)) { s with heap:=sortedHeap s.heap a vs (p.map fun i=>vs.getD i Value.none).toArray }) :
 wpAny (model prog w) A (Builtin.«list.sort» ⟨[.ref a],[]⟩) P E s:=by
 have ha:a<s.z:=n7_ ho;obtain ⟨e1,o1⟩:∃ e1,(s.heap.update a (Obj.mapSeq fun _=>(#[]:Array Value))).get? a=some (seqObj "list" #[] e1):=⟨_,get?_update_seq ho fun _=>#[]⟩;have s1:=Heap.SameBut.update s.heap a (Obj.mapSeq fun _=>(#[]:Array Value));have k6:∀ b u,b≠a→s.heap.get? b=some u→(((s.heap.update a (Obj.mapSeq fun _=>#[])).push (seqObj "tuple" vs.toArray 0)).push (seqObj "list" #[] 0)).get? b=some u:=fun b u nb e=>n2_ _ (n2_ _ ((s1.2 b nb).trans e));have o6:(((s.heap.update a (Obj.mapSeq fun _=>#[])).push (seqObj "tuple" vs.toArray 0)).push (seqObj "list" #[] 0)).get? a=some (seqObj "list" #[] e1):=n2_ _ (n2_ _ o1);rw [list_sort_plain];refine n0_ (listItems_at ho rfl (n0_ (listUpdate_at ho rfl (n0_ (seqEpoch_at o1 rfl (n0_ (wpAny_newTuple (n0_ (wpAny_newList (n37_ ?_) (n43_ _))) (by show vs.length≤_;rw [sizeLine_eq];omega))))) (by rw [n5_,sizeLine_eq];omega) (n43_ _))));show wpAny (model prog w) A _ P E { s with heap:=((s.heap.update a (Obj.mapSeq fun _=>#[])).push (seqObj "tuple" vs.toArray 0)).push (seqObj "list" #[] 0) }
 dsimp only
 by_cases h2:vs.toArray.size<2
 · rw [if_pos h2,if_pos h2];refine n0_ (n4_ ?_);rw [StateT.run_pure];refine n0_ (n4_ ?_);dsimp only;have z:=h _ (g1 (by simpa using h2))
   have ev:((List.range vs.length).map fun i=>vs.getD i Value.none)=vs:=by
    refine List.ext_getElem (by simp) fun i a1 a2=>?_;simp [n3_,a2]
   rw [ev] at z;refine n0_ (seqEpoch_at o6 rfl (n0_ (listUpdate_at o6 rfl ?_ (hsz2:=by rw [Array.size_map];show (vs.toArray.zip vs.toArray).size≤_;rw [Array.size_zip,n5_,sizeLine_eq];omega))));simp only [bne_self_eq_false,n22_,if_false];refine n4_ ?_
   have em:((vs.toArray.zip vs.toArray).map (·.2))=vs.toArray:=by
    apply Array.ext (by simp)
    intro i a1 a2
    simp
   unfold sortedHeap at z;show P _ { s with heap:=(((s.heap.update a (Obj.mapSeq fun _=>#[])).push (seqObj "tuple" vs.toArray 0)).push (seqObj "list" #[] 0)).update a (Obj.mapSeq fun _=>(vs.toArray.zip vs.toArray).map (·.2)) }
   rw [em];exact z
 · have hn:2≤vs.length:=by simp at h2;omega
   rw [if_neg h2,if_neg h2];refine n0_ (n36_ (ask hn _ k6) (fun κ s0 hk=>?_) fun _ _ x=>x.elim);obtain ⟨rfl,hk⟩:=hk
   refine n0_ (n36_ (kat_run (Q:=fun st' s2=>∃ p:Array Nat,arrOf st'=p.map (kas_item (vs.toArray.zip vs.toArray))∧failedOf st'=none∧p.size=vs.length∧s2={ s with heap:=((s.heap.update a (Obj.mapSeq fun _=>#[])).push (seqObj "tuple" vs.toArray 0)).push (seqObj "list" #[] 0) }∧good p.toList)
    rfl hn h64 (fun p st' s2 a1 a2 a3 a4=>⟨p,a2,a3,a1,a4.1,a4.2⟩) hk) ?_ fun _ _ e=>e)
   rintro ⟨⟨⟩,st'⟩ s2 ⟨p,har,hf,hp,rfl,gp⟩
   dsimp only;rw [kat_snds rfl har];refine n0_ (seqEpoch_at o6 rfl (n0_ (listUpdate_at o6 rfl ?_ (n43_ _) (by rw [n5_,n23_,Array.length_toList,hp,sizeLine_eq];omega))));rw [hf];simp only [bne_self_eq_false,n22_,if_false];exact n4_ (h p.toList gp)
theorem Zm3 {l:Addr} {vs:List Value} {Q:Value→Shared→Prop} (good:List Nat→Prop) (g1:vs.length<2→good (List.range vs.length)) (hl:s.heap.IsList l vs.toArray) (h64:vs.length<64)
 (ask:2≤vs.length→∀ h1,(∀ b u,s.heap.get? b=some u→h1.get? b=some u)→wpAny (model prog w) A.in1.in1 (keyKind' vs.toArray) (fun κ s1=>s1={ s with heap:=h1 }∧(kas_sort vs.length).kasWp (kas_ask prog w A.in1.in1 κ vs) (fun p s2=>s2={ s with heap:=h1 }∧good p.toList) s1) (fun _ _=>False) { s with heap:=h1 })
 (h:∀ p:List Nat,good p→Q (.ref (s.z+1)) { s with heap:=sortedAll s.heap vs (p.map fun i=>vs.getD i Value.none).toArray }) :
 wpAny (model prog w) A (call (.builtin "sorted") [.ref l]) Q E s:=by
 refine Calls.call_function_entry kind_sorted plain_sorted entry_sorted (args_sorted1 _) ?_;unfold Builtin.«sorted»;refine n0_ (m:=checkCount "sorted" 1 1 _) (n4_ (n0_ (collect_list hl (n0_ (wpAny_newList ?_ (by rw [sizeLine_eq];omega))) (by rw [sizeLine_eq];omega))));have n1:((s.heap.push (seqObj "list" #[] 0)).update s.z (Obj.mapSeq (·++vs.toArray))).objs.size=s.z+1:=by rw [Heap.size_update,size_push']
 have oL:(((s.heap.push (seqObj "list" #[] 0)).update s.z (Obj.mapSeq (·++vs.toArray))).push (seqObj "list" vs.toArray 0)).get? (s.z+1)=some (seqObj "list" vs.toArray 0):=by rw [← n1];exact n10_ _ rfl
 have kL:∀ b u,s.heap.get? b=some u→(((s.heap.push (seqObj "list" #[] 0)).update s.z (Obj.mapSeq (·++vs.toArray))).push (seqObj "list" vs.toArray 0)).get? b=some u:=fun b u e=>by
  have lt:b<s.z:=n7_ e;refine n2_ _ ?_;rw [Heap.get?_update_ne _ _ _ _ (n24_ lt)];exact n2_ _ e
 show wpAny _ _ _ _ _ { s with heap:=((s.heap.push (seqObj "list" #[] 0)).update s.z (Obj.mapSeq (·++vs.toArray))).push (seqObj "list" vs.toArray 0) }
 rw [n1];refine n0_ (n37_ (wpAny_call_entry slot_list_sort ⟨_,oL,rfl⟩ entry_list_sort (Zqe (s:={ s with heap:=((s.heap.push (seqObj "list" #[] 0)).update s.z (Obj.mapSeq (·++vs.toArray))).push (seqObj "list" vs.toArray 0) }) good g1 oL h64 (fun h2 h1 k1=>ask h2 h1 fun b u e=>k1 b u (n24_ (Nat.lt_succ_of_lt (n7_ e))) (kL b u e)) fun p gp=>⟨_,rfl,?_⟩) (args_list_sort _)));exact n4_ ⟨_,rfl,h p gp⟩
end
end L2
namespace L2
open PySem PySem.Spec PyProof.Rows PySem.W
section
variable {prog:Program} {w:World} {A:Around} {E:Value→Shared→Prop} {s:Shared}
theorem Zsk {b:Bool} {x y:Int} {t u:Tok} {Q:Bool→Shared→Prop} (h:Q (decide (x<y)) s):wpAny (model prog w) A (oneLt' b (.int x t) (.int y u)) Q E s:=by
 cases b
 · refine kat_one _ _ (lt_int ?_);exact h
 · exact kat_lt_int h
theorem Zkm {b:Bool} {Q:Bool→Shared→Prop}:∀ {ns ms:List Int} {us ws:List Value} (i:Nat),IntsAre us ns→IntsAre ws ms→ns.length=ms.length→Q (HT.lexLt ns ms) s→KatLex prog w A b false Q (us.zip ws) i s
 | [],[],_,_,i,.nil,.nil,_,h=>kat_nil h
 | [],_ :: _,_,_,i,_,_,hl,_=>by simp at hl
 | _ :: _,[],_,_,i,_,_,hl,_=>by simp at hl
 | x :: ns,y :: ms,_,_,i,.cons _ t hu,.cons _ u hw,hl,h=>by
   refine kat_cons (wpAny_eqBool_int ?_);rw [HT.lexLt_cons] at h
   by_cases e:x=y
   · subst e;rw [if_pos rfl] at h;rw [beq_self_eq_true];exact kat_yes (Zkm (i+1) hu hw (by simpa using hl) h)
   · rw [if_neg e] at h;rw [show (x == y)=false by simpa using e];exact kat_no (Zsk h)
end
theorem Zgs:∀ (a:List Int),HT.lexLt a a=false
 | []=>rfl
 | x :: a=>by rw [HT.lexLt_cons,if_pos rfl];exact Zgs a
theorem Zix:∀ (a b:List Int),a.length=b.length→a≠b→HT.lexLt b a = !HT.lexLt a b
 | [],[],_,h=>absurd rfl h
 | [],_ :: _,h,_=>by simp at h
 | _ :: _,[],h,_=>by simp at h
 | x :: a,y :: b,hl,hn=>by
   rw [HT.lexLt_cons,HT.lexLt_cons]
   by_cases e:x=y
   · subst e;rw [if_pos rfl,if_pos rfl];exact Zix a b (by simpa using hl) (fun z=>hn (by rw [z]))
   · rw [if_neg e,if_neg (Ne.symm e)]
     by_cases h:x<y
     · rw [n19_ h,n8_ (by omega)];rfl
     · rw [n8_ h,n19_ (by omega)];rfl
theorem Zm0:∀ (a b c:List Int),a.length=b.length→b.length=c.length→HT.lexLt a b=true→HT.lexLt b c=true→HT.lexLt a c=true
 | [],[],_,_,_,h,_=>by cases h
 | [],_ :: _,_,h,_,_,_=>by simp at h
 | _ :: _,[],_,h,_,_,_=>by simp at h
 | _ :: _,_ :: _,[],_,h,_,_=>by simp at h
 | x :: a,y :: b,z :: c,h1,h2,h3,h4=>by
   rw [HT.lexLt_cons] at h3 h4 ⊢
   by_cases e1:x=y
   · subst e1;rw [if_pos rfl] at h3
     by_cases e2:x=z
     · subst e2;rw [if_pos rfl] at h4 ⊢;exact Zm0 a b c (by simpa using h1) (by simpa using h2) h3 h4
     · rw [if_neg e2] at h4 ⊢;exact h4
   · rw [if_neg e1] at h3;have l1:x<y:=n31_ h3
     by_cases e2:y=z
     · subst e2;rw [if_neg e1];exact h3
     · rw [if_neg e2] at h4;have l2:y<z:=n31_ h4;rw [if_neg (by omega)];exact n19_ (by omega)
theorem Zki {n:Nat} {f:Nat→Nat→Bool} (o:Ord n f):∀ (l:List Nat),(∀ i∈l,i<n)→srt f l=true→l.Pairwise (fun i j=>f i j=true)
 | [],_,_=>.nil
 | [i],_,_=>.cons (by simp) .nil
 | i :: j :: r,hl,h=>by
   have h':(f i j&&srt f (j :: r))=true:=h;rw [n27_] at h';have ih:=Zki o (j :: r) (fun k hk=>hl k (n18_ _ hk)) h'.2;refine .cons (fun k hk=>?_) ih
   rcases n14_.mp hk with rfl|hk'
   · exact h'.1
   · exact o.tr i j k (hl i (by simp)) (hl j (by simp)) (hl k (n18_ _ hk)) h'.1 ((List.pairwise_cons.mp ih).1 k hk')
section
variable {X:Cx}
theorem Zee {h:Heap}:∀ {vs:List Value} {kl:List (List Int)},Paired (fun v k=>∃ b o its n,v=Value.ref b∧h.get? b=some o∧o.cls=.type "tuple" ∧ o.data=.seq its n∧IntsAre its.toList k∧0<k.length) vs kl→∃ fs:List Value,KatTups h vs fs∧fs.length=vs.length∧∀ v∈fs,∃ x t,v=Value.int x t
 | [],[],.nil=>⟨[],.nil,rfl,fun v hv=>by simp at hv⟩
 | v :: vs,k :: kl,.cons r rs=>by
   obtain ⟨fs,h1,h2,h3⟩:=Zee rs;obtain ⟨b,o,its,n,rfl,g,c,d,hi,hk⟩:=r;cases k with
   | nil=>simp at hk
   | cons x k =>
     have:∃ t,its[0]? = some (Value.int x t):=by
      cases hi':its.toList with
      | nil=>rw [hi'] at hi;cases hi
      | cons u us =>
        rw [hi'] at hi;cases hi with
        | cons _ t _=>exact ⟨t,by rw [← Array.getElem?_toList,hi'];rfl⟩
     obtain ⟨t,e⟩:=this;refine ⟨_ :: fs,.cons g c d e h1,by rw [n16_,n16_,h2],fun v hv=>?_⟩
     rcases n14_.mp hv with rfl|hv
     · exact ⟨_,_,rfl⟩
     · exact h3 v hv
end
end L2
namespace L2
open PySem PySem.Spec PyProof.Rows PySem.W
abbrev lexF (kl:List (List Int)) (i j:Nat):Bool:=HT.lexLt (kl.getD i []) (kl.getD j [])
theorem Zrh {kl:List (List Int)} {m:Nat} (nd:kl.Nodup) (hm:∀ k∈kl,k.length=m):Ord kl.length (lexF kl) where
 irr:=fun i _=>Zgs _
 ant:=fun i j hi hj ne=>by
  have e1:kl.getD i []=kl[i]:=by simp [n3_,hi]
  have e2:kl.getD j []=kl[j]:=by simp [n3_,hj]
  show HT.lexLt _ _ = !HT.lexLt _ _
  rw [e1,e2];exact Zix _ _ (by rw [hm _ (n39_ hi),hm _ (n39_ hj)]) fun z=>ne ((List.getElem_inj nd).mp z)
 tr:=fun i j k hi hj hk h1 h2=>by
  have e:∀ i (h:i<kl.length),(kl.getD i []).length=m:=fun i h=>by
   have:kl.getD i []=kl[i]:=by simp [n3_,h]
   rw [this];exact hm _ (n39_ h)
  exact Zm0 _ _ _ (by rw [e i hi,e j hj]) (by rw [e j hj,e k hk]) h1 h2
theorem Zkp {vs:List V} {us:List Value} (r:Vals vs us):∀ (p:List Nat),(∀ i∈p,i<vs.length)→Vals (p.map fun i=>vs.getD i .non) (p.map fun i=>us.getD i Value.none)
 | [],_=>.nil
 | i :: p,h=>by
   have hi:i<vs.length:=h i (by simp);obtain ⟨u,e,ru⟩:=r.get (n1_ hi);refine .cons ?_ (Zkp r p fun j hj=>h j (n18_ _ hj));show RelV (vs.getD i .non) (us.getD i Value.none)
   rw [show vs.getD i .non=vs[i] by simp [n3_,hi],show us.getD i Value.none=u by simp [n3_,e]];exact ru
section
variable {X:Cx}
theorem Zgy:Xz X (.builtin "sorted") (fun xs H Q=>∃ (p:Addr) (vs:List V) (kl:List (List Int)) (m:Nat),xs=[.ref p]∧SqL X.K H p vs∧vs.length=kl.length∧(∀ (i:Nat) (v:V),vs[i]? = some v→∃ (b:Addr) (k:List Int),v=.ref b∧kl[i]? = some k∧SqT X.K H b (k.map V.int))∧kl.Nodup∧kl.length≤4∧(∀ k∈kl,k.length=m)∧0<m ∧
 ∀ (l:Addr) (q:List Nat),H l=none→q.Perm (List.range kl.length)→(q.map fun i=>kl.getD i []).Pairwise (fun a b=>HT.lexLt a b=true)→Q (.ref l) (upd H l (.lst (q.map fun i=>vs.getD i .non)))):=by
 intro pins s σ H xs us Q I r h;obtain ⟨p,vs,kl,m,rfl,hq,hl,hk,nd,h4,hm,m0,q⟩:=h;cases r with
 | cons rx r =>
   cases r
   cases (show _=Value.ref p from rx)
   obtain ⟨its,rv,pl,hz⟩:=I.list hq;have hlen:=rv.length;have o:=Zrh nd hm
   have tup:∀ i,i<kl.length→∃ b ob jt n,its.getD i Value.none=.ref b∧s.heap.get? b=some ob∧ob.cls=.type "tuple" ∧ ob.data=.seq jt n∧IntsAre jt.toList (kl.getD i [])∧(kl.getD i []).length=m:=fun i hi=>by
    have hv:i<vs.length:=by omega
    obtain ⟨b,k,e1,e2,hb⟩:=hk i vs[i] (n1_ hv);obtain ⟨u,eu,ru⟩:=rv.get (n1_ hv);rw [e1] at ru;cases ru
    obtain ⟨jt,rj,⟨ob,g,c,n,d⟩,_⟩:=I.tuple hb;have ek:kl.getD i []=k:=by simp [n3_,e2]
    refine ⟨b,ob,jt.toArray,n,by simp [n3_,eu],g,c,d,by rw [ek];simpa using Zbd rj,?_⟩;rw [ek];exact hm k (n12_ e2)
   refine Zm3 (fun q=>q.Perm (List.range kl.length)∧(q.map fun i=>kl.getD i []).Pairwise (fun a b=>HT.lexLt a b=true)) (fun h2=>?_) pl.isList (by omega) (fun h2 h1 k1=>?_) fun p' gp=>?_
   · have:its.length=kl.length:=by omega
     rw [this];refine ⟨.refl _,?_⟩
     have:kl.length=0∨kl.length=1:=by omega
     rcases this with e|e<;>rw [e]
     · exact .nil
     · exact .cons (by simp) .nil
   · have en:its.length=kl.length:=by omega
     have keep:∀ i,i<kl.length→∃ b ob jt n,its.getD i Value.none=.ref b∧h1.get? b=some ob∧ob.cls=.type "tuple" ∧ ob.data=.seq jt n∧IntsAre jt.toList (kl.getD i [])∧(kl.getD i []).length=m:=fun i hi=>by
      obtain ⟨b,ob,jt,n,e1,e2,e3⟩:=tup i hi;exact ⟨b,ob,jt,n,e1,k1 b ob e2,e3⟩
     have prd:∀ (us:List Value) (ks:List (List Int)),us.length=ks.length→(∀ i,i<ks.length→∃ b ob jt n,us.getD i Value.none=.ref b∧h1.get? b=some ob∧ob.cls=.type "tuple" ∧ ob.data=.seq jt n∧IntsAre jt.toList (ks.getD i [])∧(ks.getD i []).length=m)→Paired (fun v k=>∃ b o its n,v=Value.ref b∧h1.get? b=some o∧o.cls=.type "tuple" ∧ o.data=.seq its n∧IntsAre its.toList k∧0<k.length) us ks:=by
      intro us
      induction us with
      | nil=>intro ks e _;cases ks with
        | nil=>exact .nil
        | cons _ _=>simp at e
      | cons u us ih =>
        intro ks e hh;cases ks with
        | nil=>simp at e
        | cons k ks =>
          refine .cons ?_ (ih ks (by simpa using e) fun i hi=>by simpa using hh (i+1) (by simpa using hi));obtain ⟨b,ob,jt,n,e1,e2,e3,e4,e5,e6⟩:=hh 0 (by simp);exact ⟨b,ob,jt,n,by simpa using e1,e2,e3,e4,by simpa using e5,(by have e7:k.length=m:=(by simpa using e6);omega)⟩
     obtain ⟨fs,f1,f2,f3⟩:=Zee (prd its kl en keep);refine kat_kind (T:=.type "int") f1 (by omega) (fun v hv=>?_) rfl ⟨rfl,?_⟩
     · obtain ⟨x,t,rfl⟩:=f3 v hv;exact Looks.of_pure rfl
     · obtain ⟨r1,r2,r3⟩:=Zpa o (by omega) h4;rw [en];refine Znm (n:=kl.length) (f:=lexF kl) (fun i j C hi hj hC=>?_) _ r1 ⟨rfl,r2,?_⟩
       · obtain ⟨b,ob,jt,n,e1,e2,e3,e4,e5,e6⟩:=keep i hi;obtain ⟨b',ob',jt',n',e1',e2',e3',e4',e5',e6'⟩:=keep j hj;unfold kas_ask;rw [e1,e1']
         have z:jt.size=jt'.size:=by
          have a1:=IntsAre.length e5;have a2:=IntsAre.length e5';rw [Array.length_toList] at a1 a2;omega
         refine kat_lt e2 e4 e2' e4' ?_;rw [n8_ (by omega)];exact Zkm 0 e5 e5' (by rw [e6,e6']) hC
       · have pw:=Zki o _ (fun i hi=>n35_.mp (r2.mem_iff.mp hi)) r3;exact List.pairwise_map.mpr pw
   · obtain ⟨e,he⟩:=sortedAll_at s.heap its (p'.map fun i=>its.getD i Value.none).toArray;have fr:H (s.z+1)=none:=I.hok.fresh (Nat.le_succ _);have lt:∀ i∈p',i<vs.length:=fun i hi=>by rw [hl];exact n35_.mp (gp.1.mem_iff.mp hi)
     refine ⟨.ref (s.z+1),_,I.laid (o:=.lst (p'.map fun i=>vs.getD i .non)) (t':=s.toks) (fun b u e=>sortedAll_old e) (Nat.le_succ _) ⟨?_,p'.map fun i=>its.getD i Value.none,e,Zkp rv p' lt,he⟩,rfl,q _ p' fr gp.1 gp.2⟩;rw [n23_,gp.1.length_eq,List.length_range,sizeLine_eq];omega
end
abbrev ZR (h:Heap) (z t o:Addr) (f0:Value) (f1:Bool):Prop:=h.get? z=some { cls:=.type "zip",dict:=none,data:=.fields #[f0,.bool f1,.bool false,.ref t,.ref o],slots:=#[] }
def ZSt (h:Heap) (z t o:Addr):Prop:=∃ f0 f1,ZR h z t o f0 f1∧(f0=.none∨∃ T,f0=rawInt T)
section
variable {prog:Program} {w:World} {A:Around} {E:Value→Shared→Prop} {s:Shared} {k l:SK}
theorem Ziu {M:Model} {a:Addr} {Q:Option Obj→Shared→Prop} (h:Q (s.heap.get? a) s):wpAny M A (loadIfAlive a) Q E s:=fun _ _ _=>h
theorem Zkl {z t o:Addr} {Q:Bool→Shared→Prop} (hz:ZSt s.heap z t o) (q:∀ (b:Bool) (h1:Heap),ZSt h1 z t o→Heap.SameBut z s.heap h1→Q b { s with heap:=h1 }):wpAny (model prog w) A (n26_ (.ref z)) Q E s:=by
 obtain ⟨f0,f1,hz,hf⟩:=hz;unfold n26_;refine n0_ (wpAny_field hz rfl (x:=f0) rfl ?_)
 rcases hf with rfl|⟨T,rfl⟩
 · exact n4_ (q true s.heap ⟨_,_,hz,.inl rfl⟩ (Heap.SameBut.refl ..))
 · show wpAny _ _ (loadIfAlive _ >>= _) _ _ s
   refine n0_ (Ziu ?_);split
   · exact n4_ (q true s.heap ⟨_,_,hz,.inr ⟨T,rfl⟩⟩ (Heap.SameBut.refl ..))
   · refine n0_ (wpAny_field hz rfl (x:=.bool f1) rfl ?_);split
     · refine n0_ (wpAny_setField_rec hz (by simp) fun h1 z1 s1=>n4_ (q false h1 ⟨_,true,z1,.inr ⟨T,rfl⟩⟩ s1))
     · exact n4_ (q false s.heap ⟨_,_,hz,.inr ⟨T,rfl⟩⟩ (Heap.SameBut.refl ..))
theorem Znl {z t o i j a b:Addr} {m n:Nat} {xs ys:Array Value} {x y c d:Value} {Q:Value→Shared→Prop} (D:ZP z t o i j a b)
 (hz:ZSt s.heap z t o) (ht:IsPair s.heap t (.ref i) (.ref j)) (ho:IsPair s.heap o c d)
 (hi:k.It s.heap i a m) (hj:l.It s.heap j b n) (ha:k.Is s.heap a xs) (hb:l.Is s.heap b ys) (hx:xs[m]? = some x) (hy:ys[n]? = some y)
 (q:∀ h1,ZSt h1 z t o→(∃ c d,IsPair h1 o c d)→k.It h1 i a (m+1)→l.It h1 j b (n+1)→IsPair h1 s.z x y→h1.objs.size=s.z+1 →
   (∀ e u,e≠z→e≠o→e≠i→e≠j→s.heap.get? e=some u→h1.get? e=some u)→Q (.ref s.z) { s with heap:=h1 }) :
 wpAny (model prog w) A (Builtin.«zip.__next__» ⟨[.ref z],[]⟩) (fun fin s'=>∃ v,fin=.done (.ret v)∧Q v s') E s:=by
 obtain ⟨f0,f1,hz0,hf⟩:=id hz;refine n0_ (m:=field (.ref z) 2) (wpAny_field hz0 rfl (x:=.bool false) rfl ?_);refine n0_ (m:=field (.ref z) 3) (wpAny_field hz0 rfl (x:=.ref t) rfl (n0_ (wpAny_seqItems ht rfl ?_)));refine n0_ (m:=n26_ (.ref z)) (Zkl hz fun fr h0 hz' s0=>?_);have ho0:IsPair h0 o c d:=s0.extBut _ _ D.oz ho;have hi0:k.It h0 i a m:=hi.at fun u e=>s0.extBut _ _ D.iz e;have hj0:l.It h0 j b n:=hj.at fun u e=>s0.extBut _ _ D.jz e;have ha0:k.Is h0 a xs:=ha.at fun u e=>s0.extBut _ _ D.az e;have hb0:l.Is h0 b ys:=hb.at fun u e=>s0.extBut _ _ D.bz e;have n0:h0.objs.size=s.z:=s0.1;obtain ⟨g0,g1,hz0,hg⟩:=hz';cases fr with
 | true =>
   simp only [if_true];refine n0_ (wpAny_rule (n0_ (wpAny_field hz0 rfl (x:=.ref o) rfl (n0_ (wpAny_setField_rec hz0 (by simp) fun h1 z1 s1=>?_)))));replace z1:ZR h1 z t o .ellipsis g1:=z1;refine n0_ ?_;simp only [List.zipIdx_cons,List.zipIdx_nil,List.forIn_cons,List.forIn_nil];refine n0_ (n0_ (wpAny_onRaise (n0_ (m:=n13_ (.ref i)) ?_)));refine SK.draw (hi0.at fun u e=>s1.extBut _ _ D.iz e) (ha0.at fun u e=>s1.extBut _ _ D.az e) hx fun h2 i2 s2=>n4_ ?_;have o2:IsPair h2 o c d:=s2.extBut _ _ D.oi (s1.extBut _ _ D.oz ho0);refine n0_ (wpAny_seqItems o2 rfl (n0_ (wpAny_updateSeq_pair o2 fun h3 o3 s3=>?_)));replace o3:IsPair h3 o x d:=o3;refine n0_ (wpAny_letGo (n4_ (n0_ (n0_ (wpAny_onRaise (n0_ (m:=n13_ (.ref j)) ?_))))));refine SK.draw (hj0.at fun u e=>s3.extBut _ _ D.oj.symm (s2.extBut _ _ D.ij.symm (s1.extBut _ _ D.jz e))) (hb0.at fun u e=>s3.extBut _ _ D.bo (s2.extBut _ _ D.bi (s1.extBut _ _ D.bz e))) hy fun h4 j4 s4=>n4_ ?_;have o4:IsPair h4 o x d:=s4.extBut _ _ D.oj o3;refine n0_ (wpAny_seqItems o4 rfl (n0_ (wpAny_updateSeq_pair o4 fun h5 o5 s5=>?_)));replace o5:IsPair h5 o x y:=o5;refine n0_ (wpAny_letGo (n4_ (n4_ (n0_ (wpAny_seqItems o5 rfl (n0_ (wpAny_newTuple ?_)))))));have sz:h5.objs.size=s.z:=by rw [s5.1,s4.1,s3.1,s2.1,s1.1,n0]
   have z5:ZR h5 z t o .ellipsis g1:=s5.extBut _ _ D.oz.symm (s4.extBut _ _ D.jz.symm (s3.extBut _ _ D.oz.symm (s2.extBut _ _ D.iz.symm z1)));have k5:∀ e u,e≠z→e≠o→e≠i→e≠j→s.heap.get? e=some u→h5.get? e=some u:=fun e u e1 e2 e3 e4 g=>s5.extBut _ _ e2 (s4.extBut _ _ e4 (s3.extBut _ _ e2 (s2.extBut _ _ e3 (s1.extBut _ _ e1 (s0.extBut _ _ e1 g)))));have i5:k.It h5 i a (m+1):=i2.at fun u e=>s5.extBut _ _ D.oi.symm (s4.extBut _ _ D.ij (s3.extBut _ _ D.oi.symm e));have j5:l.It h5 j b (n+1):=j4.at fun u e=>s5.extBut _ _ D.oj.symm e;have zl:z<h5.objs.size:=n7_ z5;refine n0_ (m:=Builtin.SmallTypes.ownedTupleHandOut (.ref z) (.ref h5.objs.size)) ?_;unfold Builtin.SmallTypes.ownedTupleHandOut;have z6:ZR (h5.push { cls:=.type "tuple",data:=.seq #[x,y] }) z t o .ellipsis g1:=n2_ _ z5;refine n0_ (wpAny_setField_rec z6 (by simp) fun h7 z7 s7=>?_);replace z7:ZR h7 z t o (rawInt h5.objs.size) g1:=z7;refine wpAny_setField_rec z7 (by simp) fun h8 z8 s8=>?_;replace z8:ZR h8 z t o (rawInt h5.objs.size) false:=z8;have up:∀ e u,e≠z→h5.get? e=some u→h8.get? e=some u:=fun e u e1 g=>s8.extBut _ _ e1 (s7.extBut _ _ e1 (n2_ _ g));have T8:IsPair h8 h5.objs.size x y:=s8.extBut _ _ (n56_ zl) (s7.extBut _ _ (n56_ zl) (n10_ _ rfl));have l8:h8.objs.size=h5.objs.size+1:=by rw [s8.1,s7.1,n50_]
   rw [sz] at T8 l8;refine n4_ ⟨_,rfl,?_⟩;show Q (.ref h5.objs.size) _
   rw [sz];exact q h8 ⟨_,_,z8,.inr ⟨_,rfl⟩⟩ ⟨x,y,up _ _ D.oz o5⟩ (i5.at fun u e=>up _ u D.iz e) (j5.at fun u e=>up _ u D.jz e) T8 l8 fun e u e1 e2 e3 e4 g=>up e u e1 (k5 e u e1 e2 e3 e4 g)
 | false =>
   simp only [n22_,if_false];refine n0_ ?_;rw [← Array.forIn_toList];simp only [List.forIn_cons,List.forIn_nil];refine n0_ (n0_ (n37_ (n0_ (m:=n13_ (.ref i)) (SK.draw hi0 ha0 hx fun h2 i2 s2=>n4_ (n4_ ?_)))));refine n0_ (n0_ (n37_ (n0_ (m:=n13_ (.ref j)) (SK.draw (hj0.at fun u e=>s2.extBut _ _ D.ij.symm e) (hb0.at fun u e=>s2.extBut _ _ D.bi e) hy fun h4 j4 s4=>n4_ (n4_ ?_)))));refine n4_ ?_;have sz:h4.objs.size=s.z:=by rw [s4.1,s2.1,n0]
   have z4:ZR h4 z t o g0 g1:=s4.extBut _ _ D.jz.symm (s2.extBut _ _ D.iz.symm hz0);refine n0_ (wpAny_newTuple (n4_ ⟨_,rfl,?_⟩) (z2_));show Q (.ref h4.objs.size) _
   have up:∀ e u,h4.get? e=some u→(h4.push { cls:=.type "tuple",data:=.seq #[x,y] }).get? e=some u:=fun e u g=>n2_ _ g;have T4:IsPair (h4.push { cls:=.type "tuple",data:=.seq #[x,y] }) h4.objs.size x y:=n10_ _ rfl;rw [sz] at T4 ⊢;refine q _ ⟨_,_,up _ _ z4,hg⟩ ⟨c,d,up _ _ (s4.extBut _ _ D.oj (s2.extBut _ _ D.oi ho0))⟩ (i2.at fun u e=>up _ u (s4.extBut _ _ D.ij e)) (j4.at fun u e=>up _ u e) T4 (by rw [n50_,sz]) fun e u e1 e2 e3 e4 g=>up e u (s4.extBut _ _ e4 (s2.extBut _ _ e3 (s0.extBut _ _ e1 g)))
theorem Zoz {z t o i j a b:Addr} {m n:Nat} {xs ys:Array Value} {c d:Value} {Q:Fin→Shared→Prop} (hh:A.handled=none) (D:ZP z t o i j a b)
 (hz:ZSt s.heap z t o) (ht:IsPair s.heap t (.ref i) (.ref j)) (ho:IsPair s.heap o c d)
 (hi:k.It s.heap i a m) (hj:l.It s.heap j b n) (ha:k.Is s.heap a xs) (hb:l.Is s.heap b ys) (hx:xs[m]? = none∨ys[n]? = none)
 (q:∀ h1 e,(∀ e u,e≠z→e≠o→e≠i→e≠j→s.heap.get? e=some u→h1.get? e=some u)→(∃ u,h1.get? e=some u∧u.cls=.type "StopIteration")→E (.ref e) { s with heap:=h1 }) :
 wpAny (model prog w) A (Builtin.«zip.__next__» ⟨[.ref z],[]⟩) Q E s:=by
 obtain ⟨f0,f1,hz0,hf⟩:=id hz;refine n0_ (m:=field (.ref z) 2) (wpAny_field hz0 rfl (x:=.bool false) rfl ?_);refine n0_ (m:=field (.ref z) 3) (wpAny_field hz0 rfl (x:=.ref t) rfl (n0_ (wpAny_seqItems ht rfl ?_)));refine n0_ (m:=n26_ (.ref z)) (Zkl hz fun fr h0 hz' s0=>?_);have ho0:IsPair h0 o c d:=s0.extBut _ _ D.oz ho;have hi0:k.It h0 i a m:=hi.at fun u e=>s0.extBut _ _ D.iz e;have hj0:l.It h0 j b n:=hj.at fun u e=>s0.extBut _ _ D.jz e;have ha0:k.Is h0 a xs:=ha.at fun u e=>s0.extBut _ _ D.az e;have hb0:l.Is h0 b ys:=hb.at fun u e=>s0.extBut _ _ D.bz e;obtain ⟨g0,g1,hz0,hg⟩:=hz';cases fr with
 | true =>
   simp only [if_true];refine n0_ (wpAny_rule (n0_ (wpAny_field hz0 rfl (x:=.ref o) rfl (n0_ (wpAny_setField_rec hz0 (by simp) fun h1 z1 s1=>?_)))));replace z1:ZR h1 z t o .ellipsis g1:=z1;refine n0_ ?_;simp only [List.zipIdx_cons,List.zipIdx_nil,List.forIn_cons,List.forIn_nil];refine n0_ (n0_ (wpAny_onRaise (n0_ (m:=n13_ (.ref i)) ?_)));cases hm:xs[m]? with
   | none =>
     refine SK.dry hh (hi0.at fun u e=>s1.extBut _ _ D.iz e) (ha0.at fun u e=>s1.extBut _ _ D.az e) hm fun h2 e s2 ⟨u,g,cu⟩=>?_;have z2:ZR h2 z t o .ellipsis g1:=s2 _ _ D.iz.symm z1;have ez:e≠z:=fun r=>by subst r;rw [z2] at g;cases g;simp at cu
     exact wpAny_setField_rec z2 (by simp) fun h3 _ s3=>q h3 e (fun e' u' e1 _ e3 _ r=>s3.extBut _ _ e1 (s2 _ _ e3 (s1.extBut _ _ e1 (s0.extBut _ _ e1 r)))) ⟨u,s3.extBut _ _ ez g,cu⟩
   | some x =>
     have hn:ys[n]? = none:=by rcases hx with r|r;(rw [hm] at r;cases r);exact r
     refine SK.draw (hi0.at fun u e=>s1.extBut _ _ D.iz e) (ha0.at fun u e=>s1.extBut _ _ D.az e) hm fun h2 i2 s2=>n4_ ?_;have o2:IsPair h2 o c d:=s2.extBut _ _ D.oi (s1.extBut _ _ D.oz ho0);refine n0_ (wpAny_seqItems o2 rfl (n0_ (wpAny_updateSeq_pair o2 fun h3 o3 s3=>?_)));refine n0_ (wpAny_letGo (n4_ (n0_ (n0_ (wpAny_onRaise (n0_ (m:=n13_ (.ref j)) ?_))))));refine SK.dry hh (hj0.at fun u e=>s3.extBut _ _ D.oj.symm (s2.extBut _ _ D.ij.symm (s1.extBut _ _ D.jz e))) (hb0.at fun u e=>s3.extBut _ _ D.bo (s2.extBut _ _ D.bi (s1.extBut _ _ D.bz e))) hn fun h4 e s4 ⟨u,g,cu⟩=>?_;have z4:ZR h4 z t o .ellipsis g1:=s4 _ _ D.jz.symm (s3.extBut _ _ D.oz.symm (s2.extBut _ _ D.iz.symm z1));have ez:e≠z:=fun r=>by subst r;rw [z4] at g;cases g;simp at cu
     exact wpAny_setField_rec z4 (by simp) fun h5 _ s5=>q h5 e (fun e' u' e1 e2 e3 e4 r=>s5.extBut _ _ e1 (s4 _ _ e4 (s3.extBut _ _ e2 (s2.extBut _ _ e3 (s1.extBut _ _ e1 (s0.extBut _ _ e1 r)))))) ⟨u,s5.extBut _ _ ez g,cu⟩
 | false =>
   simp only [n22_,if_false];refine n0_ ?_;rw [← Array.forIn_toList];simp only [List.forIn_cons,List.forIn_nil];refine n0_ (n0_ (n37_ (n0_ (m:=n13_ (.ref i)) ?_)));cases hm:xs[m]? with
   | none=>exact SK.dry hh hi0 ha0 hm fun h2 e s2 hu=>q h2 e (fun e' u' e1 _ e3 _ r=>s2 _ _ e3 (s0.extBut _ _ e1 r)) hu
   | some x =>
     have hn:ys[n]? = none:=by rcases hx with r|r;(rw [hm] at r;cases r);exact r
     refine SK.draw hi0 ha0 hm fun h2 i2 s2=>n4_ (n4_ ?_);refine n0_ (n0_ (n37_ (n0_ (m:=n13_ (.ref j)) ?_)));exact SK.dry hh (hj0.at fun u e=>s2.extBut _ _ D.ij.symm e) (hb0.at fun u e=>s2.extBut _ _ D.bi e) hn fun h4 e s4 hu=>q h4 e (fun e' u' e1 _ e3 e4 r=>s4 _ _ e4 (s2.extBut _ _ e3 (s0.extBut _ _ e1 r))) hu
theorem Zkz {e z t o i j a b:Addr} {n:Nat} {xs ys:Array Value} {x y c d old:Value} {Q:Option Value→Shared→Prop} (D:ZP z t o i j a b) (ne:e≠z∧e≠t∧e≠o∧e≠i∧e≠j∧a≠e∧b≠e)
 (he:IsEnum s.heap e z n old) (hz:ZSt s.heap z t o) (ht:IsPair s.heap t (.ref i) (.ref j)) (ho:IsPair s.heap o c d)
 (hi:k.It s.heap i a n) (hj:l.It s.heap j b n) (ha:k.Is s.heap a xs) (hb:l.Is s.heap b ys) (hx:xs[n]? = some x) (hy:ys[n]? = some y)
 (q:∀ h1 tk,IsEnumOut h1 e z ((n:Int)+1) (.ref s.z) (s.z+1)→ZSt h1 z t o→IsPair h1 t (.ref i) (.ref j)→(∃ c d,IsPair h1 o c d)→k.It h1 i a (n+1)→l.It h1 j b (n+1)→IsPair h1 s.z x y→IsPair h1 (s.z+1) (.int n tk) (.ref s.z) →
   (∀ f u,f≠e→f≠z→f≠o→f≠i→f≠j→s.heap.get? f=some u→h1.get? f=some u)→Q (some (.ref (s.z+1))) { s with heap:=h1,toks:=tk+1 }) :
 wpAny (model prog w) A (pyNext (.ref e)) Q E s:=by
 have hT:s.TypeIs (.ref e) "enumerate" := ⟨_,he,rfl⟩;obtain ⟨n1,n2,n3,n4,n5,n6,n7⟩:=ne;unfold pyNext;refine n0_ (wpAny_attempt (wpAny_callSpecial?_slot (name:=Str.ofString "__next__") hT F.slot_enumerate_next (wpAny_call_entry F.slot_enumerate_next hT F.entry_enumerate_next ?_ (F.args_enumerate_next_1 _))));refine n0_ (m:=field (.ref e) 2) (wpAny_field he rfl (x:=.ref z) rfl ?_);obtain ⟨f0,f1,hz0,hf⟩:=id hz;have hTz:s.TypeIs (.ref z) "zip" := ⟨_,hz0,rfl⟩;refine n0_ (m:=n13_ (.ref z)) ?_;unfold n13_;refine n0_ (wpAny_callSpecial?_slot (name:=Str.ofString "__next__") hTz F.slot_zip_next (wpAny_call_entry F.slot_zip_next hTz F.entry_zip_next (Znl D hz ht ho hi hj ha hb hx hy fun h1 r1 r2 r3 r4 r5 r6 r7=>n4_ ?_) (F.args_zip_next_1 _)));have he1:IsEnum h1 e z n old:=r7 _ _ n1 n3 n4 n5 he;have el:e<s.z:=n7_ he;refine n0_ (m:=field (.ref e) 3) (wpAny_field he1 rfl (x:=rawInt n) rfl ?_);refine n0_ (m:=field (.ref e) 4) (wpAny_field he1 rfl (x:=.none) rfl ?_);refine n0_ (m:=mkInt n) (wpAny_mkInt ?_);refine n0_ (m:=setField (.ref e) 3 (rawInt ((n:Int)+1))) (wpAny_setField_rec he1 (by simp) fun h2 e2 s2=>?_);replace e2:IsEnum h2 e z ((n:Int)+1) old:=e2;refine n0_ (m:=setField (.ref e) 4 .none) (wpAny_setField_rec e2 (by simp) fun h3 e3 s3=>?_);replace e3:IsEnum h3 e z ((n:Int)+1) old:=e3;refine n0_ (m:=newTuple _) (wpAny_newTuple ?_);have sz:h3.objs.size=s.z+1:=by rw [s3.1,s2.1];exact r6
 have e4:IsEnum (h3.push { cls:=.type "tuple",data:=.seq #[.int n s.toks,.ref s.z] }) e z ((n:Int)+1) old:=n2_ _ e3;have T4:(h3.push { cls:=.type "tuple",data:=.seq #[.int n s.toks,.ref s.z] }).get? (s.z+1)=some { cls:=.type "tuple",data:=.seq #[.int n s.toks,.ref s.z] }:=by rw [← sz];exact n10_ _ rfl
 have k4:∀ f u,f≠e→h1.get? f=some u→(h3.push { cls:=.type "tuple",data:=.seq #[.int n s.toks,.ref s.z] }).get? f=some u:=fun f u fe g=>n2_ _ (s3.extBut _ _ fe (s2.extBut _ _ fe g));generalize h3.push { cls:=.type "tuple",data:=.seq #[.int n s.toks,.ref s.z] }=h4 at e4 T4 k4;refine n0_ (m:=n26_ (.ref e)) ?_;unfold n26_;refine n0_ (wpAny_field e4 rfl (x:=.none) rfl (n4_ ?_));simp only [if_true];refine n0_ (wpAny_rule (n0_ (wpAny_field e4 rfl (x:=old) rfl (n0_ (wpAny_setField_rec e4 (by simp) fun h5 e5 s5=>?_)))));replace e5:IsEnum h5 e z ((n:Int)+1) (.ref s.z):=e5;refine n0_ ?_;unfold Builtin.SmallTypes.ownedTupleHandOut;refine n0_ (wpAny_setField_rec e5 (by simp) fun h6 e6 s6=>?_);refine wpAny_setField_rec e6 (by simp) fun h7 e7 s7=>?_;rw [sz] at e7;replace e7:IsEnumOut h7 e z ((n:Int)+1) (.ref s.z) (s.z+1):=e7;refine n0_ (wpAny_letGo (n4_ ⟨_,rfl,n4_ ?_⟩));rw [sz];have up:∀ f u,f≠e→h1.get? f=some u→h7.get? f=some u:=fun f u fe g=>s7.extBut _ _ fe (s6.extBut _ _ fe (s5.extBut _ _ fe (k4 f u fe g)));obtain ⟨g0,g1,z1,hg⟩:=r1;obtain ⟨c',d',o1⟩:=r2;refine q h7 s.toks e7 ⟨g0,g1,up _ _ n1.symm z1,hg⟩ (up _ _ n2.symm (r7 _ _ D.tz D.to D.ti D.tj ht)) ⟨c',d',up _ _ n3.symm o1⟩ (r3.at fun u g=>up _ u n4.symm g) (r4.at fun u g=>up _ u n5.symm g) (up _ _ (n56_ el) r5) ?_ fun f u f1 f2 f3 f4 f5 g=>up f u f1 (r7 f u f2 f3 f4 f5 g);have ne:s.z+1≠e:=n56_ (Nat.lt_succ_of_lt el);exact s7.extBut _ _ ne (s6.extBut _ _ ne (s5.extBut _ _ ne T4))
theorem Zme {e z t o i j a b:Addr} {n:Nat} {xs ys:Array Value} {c d old:Value} {Q:Option Value→Shared→Prop} (hh:A.handled=none) (D:ZP z t o i j a b) (ne:e≠z∧e≠t∧e≠o∧e≠i∧e≠j∧a≠e∧b≠e)
 (he:IsEnum s.heap e z n old) (hz:ZSt s.heap z t o) (ht:IsPair s.heap t (.ref i) (.ref j)) (ho:IsPair s.heap o c d)
 (hi:k.It s.heap i a n) (hj:l.It s.heap j b n) (ha:k.Is s.heap a xs) (hb:l.Is s.heap b ys) (hx:xs[n]? = none∨ys[n]? = none)
 (q:∀ h1,(∀ f u,f≠e→f≠z→f≠o→f≠i→f≠j→s.heap.get? f=some u→h1.get? f=some u)→Q none { s with heap:=h1 }) :
 wpAny (model prog w) A (pyNext (.ref e)) Q E s:=by
 have hT:s.TypeIs (.ref e) "enumerate" := ⟨_,he,rfl⟩;unfold pyNext;refine n0_ (wpAny_attempt (wpAny_callSpecial?_slot (name:=Str.ofString "__next__") hT F.slot_enumerate_next (wpAny_call_entry F.slot_enumerate_next hT F.entry_enumerate_next ?_ (F.args_enumerate_next_1 _))));refine n0_ (m:=field (.ref e) 2) (wpAny_field he rfl (x:=.ref z) rfl ?_);obtain ⟨f0,f1,hz0,hf⟩:=id hz;have hTz:s.TypeIs (.ref z) "zip" := ⟨_,hz0,rfl⟩;refine n0_ (m:=n13_ (.ref z)) ?_;unfold n13_;refine n0_ (wpAny_callSpecial?_slot (name:=Str.ofString "__next__") hTz F.slot_zip_next (wpAny_call_entry F.slot_zip_next hTz F.entry_zip_next (Zoz hh D hz ht ho hi hj ha hb hx fun h1 x r1 ⟨u,g,cu⟩=>?_) (F.args_zip_next_1 _)));exact n0_ (wpAny_isInstance (T := "StopIteration") (b:=true) ⟨u,g,cu⟩ isSubtype_stop (n4_ (q _ fun f u _ f2 f3 f4 f5 r=>r1 f u f2 f3 f4 f5 r)))
end
open AutoSeq1 (wpAny_loadPart')
section
variable {X:Cx} {pins:List (Addr×Obj)} {σ:List (Option V)} {H H':Hp} {s:Shared} {h':Heap}
theorem Inv.turnGen {t':Nat} {ch:List Addr} (I:Inv X pins σ H s) (k:∀ b u,b∉ch→s.heap.get? b=some u→h'.get? b=some u) (hf:∀ b∈ch,FpOk X pins H b)
 (old:∀ b u,H b=some u→H' b=some u) (non:∀ b u,s.heap.get? b=some u→H b=none→H' b=none) (new:∀ b u,H b=none→H' b=some u→ObjOk X.prog X.w H' h' b u):Inv X pins σ H' { s with heap:=h',toks:=t' }:=by
 have nc:∀ b u,H b=some u→b∉ch:=fun b u e z=>by rw [(hf b z).1] at e;cases e
 refine I.step (g':=s.gens) (d':=s.drawn) (ch:=ch) (fun b hb=>?_) (fun b u _ _ hc e _=>k b u hc e) (fun b u _ _ hc e _=>⟨u.slots,k b u hc e⟩) (fun b u _ e n=>non b u e n)
  (fun b u hc e=>⟨u,k b u hc e⟩) (fun b xs e=>old b _ e) (fun b u v e=>old b _ e) (fun b ps e=>⟨#[],by rw [old b _ e];simp⟩) (fun m hm=>?_) (fun b u e=>?_) I.bare
 · obtain ⟨f0,f1,f2,f3,f4,f5⟩:=hf b hb;exact ⟨f3,f1,f4,f5⟩
 · obtain ⟨u,es,ep,hu,r⟩:=hm;exact ⟨u,es,ep,k _ u (fun z=>(hf _ z).2.1 rfl) hu,r⟩
 · cases hb:H b with
   | none=>exact new b u hb e
   | some v =>
     rw [old b v hb] at e;cases e
     refine (I.hok b _ hb).stay (fun c w hc q=>k c w ?_ q) (fun c q=>old c _ q) fun c xs q=>old c _ q
     rcases hc with z|z
     · rw [z];exact nc b _ hb
     · exact nc c _ z
end
def Itez (k l:SK) (K:PySem.W.Frag) (a b:Addr):It :=
 ⟨fun i H=>∃ xs ys x y,k.Sq K H a xs∧l.Sq K H b ys∧xs[i]? = some x∧ys[i]? = some y,
  fun i H v H'=>∃ p p' x y,v=.ref p'∧H p=none∧H p'=none∧p≠p'∧H'=upd (upd H p (.tup [x,y])) p' (.tup [.int i,.ref p])∧(∀ xs,k.Sq K H a xs→xs[i]? = some x)∧∀ ys,l.Sq K H b ys→ys[i]? = some y,
  fun i H=>∃ xs ys,k.Sq K H a xs∧l.Sq K H b ys∧(xs.length≤i∨ys.length≤i)⟩
theorem Zg8 {P:Program} {w:World} {K:PySem.W.Frag} {es:List Expr} {x1:Nat} {tp:Pos} {k l:SK} {e z t o i j a b:Addr} (D:ZP z t o i j a b) (ne:e≠z∧e≠t∧e≠o∧e≠i∧e≠j∧a≠e∧b≠e) :
 Turn P w K (.Tuple es x1 tp) (Itez k l K a b) [e,z,t,o,i,j] e (fun n h=>(∃ old,IsEnum h e z n old)∧ZSt h z t o∧IsPair h t (.ref i) (.ref j)∧(∃ c d,IsPair h o c d)∧k.It h i a n∧l.It h j b n) where
 mem:=by simp
 obj:=fun n h st f hf=>by
  obtain ⟨⟨old,h0⟩,⟨f0,f1,h1,_⟩,h2,⟨c,d,h3⟩,h4,h5⟩:=st;simp only [n14_,n17_,or_false] at hf
  rcases hf with rfl|rfl|rfl|rfl|rfl|rfl
  · exact ⟨_,h0,fun v q=>by cases (show Data.fields _=Data.cell v from q)⟩
  · exact ⟨_,h1,fun v q=>by cases (show Data.fields _=Data.cell v from q)⟩
  · exact ⟨_,h2,fun v q=>by cases (show Data.seq _ _=Data.cell v from q)⟩
  · exact ⟨_,h3,fun v q=>by cases (show Data.seq _ _=Data.cell v from q)⟩
  · obtain ⟨u,e,_,q⟩:=h4.ex;exact ⟨u,e,fun v r=>by rw [q] at r;cases r⟩
  · obtain ⟨u,e,_,q⟩:=h5.ex;exact ⟨u,e,fun v r=>by rw [q] at r;cases r⟩
 keep:=fun n h h' st f=>by
  obtain ⟨⟨old,h0⟩,⟨f0,f1,h1,hf⟩,h2,⟨c,d,h3⟩,h4,h5⟩:=st;exact ⟨⟨old,f e (by simp) _ h0⟩,⟨f0,f1,f z (by simp) _ h1,hf⟩,f t (by simp) _ h2,⟨c,d,f o (by simp) _ h3⟩,h4.at fun u q=>f i (by simp) u q,h5.at fun u q=>f j (by simp) u q⟩
 item:=by
  intro X hP hw hK hc n pins s σ H E I hf st hg;subst hP hw hK;obtain ⟨⟨old,h0⟩,hz,h2,⟨c,d,h3⟩,h4,h5⟩:=st;obtain ⟨xs,ys,x,y,q1,q2,hx,hy⟩:=hg;obtain ⟨us,ru,pu⟩:=q1.is I;obtain ⟨vs,rv,pv⟩:=q2.is I;obtain ⟨u,hu,ux⟩:=ru.get hx;obtain ⟨v,hv,vy⟩:=rv.get hy;have lt:∀ {b o'},s.heap.get? b=some o'→b≠s.z∧b≠s.z+1:=fun q=>⟨n24_ (n7_ q),n24_ (Nat.lt_succ_of_lt (n7_ q))⟩;refine Zkz D ne h0 hz h2 h3 h4 h5 pu pv (x:=u) (y:=v) (by simpa using hu) (by simpa using hv) fun g tk r0 r1 r2 r3 r4 r5 r6 r7 r8=>?_;refine ⟨_,rfl,wpAny_letOwnedTupleGo_enum r0 fun g2 z2 s2=>?_⟩;have hp:H s.z=none:=I.hok.fresh (n6_ _);have hp':H (s.z+1)=none:=I.hok.fresh (Nat.le_succ _);have pp:s.z≠s.z+1:=n24_ (Nat.lt_succ_self _);have T1:IsPair g2 s.z u v:=s2.extBut _ _ (Ne.symm (lt h0).1) r6;have T2:IsPair g2 (s.z+1) (.int n tk) (.ref s.z):=s2.extBut _ _ (Ne.symm (lt h0).2) r7
  have I2:Inv X pins σ (upd (upd H s.z (.tup [x,y])) (s.z+1) (.tup [.int n,.ref s.z])) { s with heap:=g2,toks:=tk+1 }:=by
   refine I.turnGen (ch:=[e,z,o,i,j]) (fun f o' nf q=>?_) (fun f hf'=>hf f ?_) (fun b u' q=>?_) (fun b u' q n'=>?_) (fun b u' q r=>?_)
   · simp only [n14_,n17_,or_false,not_or] at nf;exact s2.extBut _ _ nf.1 (r8 f o' nf.1 nf.2.1 nf.2.2.1 nf.2.2.2.1 nf.2.2.2.2 q)
   · simp only [n14_,n17_,or_false] at hf' ⊢
     rcases hf' with q|q|q|q|q<;>simp [q]
   · rw [Zs (Zr q hp'),Zs (Zr q hp)];exact q
   · rw [Zs (lt q).2,Zs (lt q).1];exact n'
   · by_cases e1:b=s.z+1
     · subst e1;rw [Zc] at r;cases r;exact ⟨z2_,[.int n tk,.ref s.z],.cons ⟨tk,rfl⟩ (.cons rfl .nil),⟨_,T2,rfl,_,rfl⟩⟩
     · rw [Zs e1] at r
       by_cases e2:b=s.z
       · subst e2;rw [Zc] at r;cases r;exact ⟨z2_,[u,v],.cons ux (.cons vy .nil),⟨_,T1,rfl,_,rfl⟩⟩
       · rw [Zs e2,q] at r;cases r
  obtain ⟨n1,n2,n3,n4,n5,n6,n7⟩:=ne;obtain ⟨g0,g1,z1,hg1⟩:=r1;obtain ⟨c',d',o1⟩:=r3;refine ⟨.ref (s.z+1),_,I2,rfl,⟨_,_,x,y,rfl,hp,hp',pp,rfl,fun xs' q=>by rw [q.inj q1 I];exact hx,fun ys' q=>by rw [q.inj q2 I];exact hy⟩,⟨⟨_,by simpa using z2⟩,⟨g0,g1,s2.extBut _ _ n1.symm z1,hg1⟩,s2.extBut _ _ n2.symm r2,⟨c',d',s2.extBut _ _ n3.symm o1⟩,r4.at fun u' q=>s2.extBut _ _ n4.symm q,r5.at fun u' q=>s2.extBut _ _ n5.symm q⟩,fun f hf'=>?_⟩
  have nf:f≠s.z∧f≠s.z+1:=by
   obtain ⟨f0,f1,hz1,_⟩:=hz;simp only [n14_,n17_,or_false] at hf'
   rcases hf' with rfl|rfl|rfl|rfl|rfl|rfl
   · exact lt h0
   · exact lt hz1
   · exact lt h2
   · exact lt h3
   · obtain ⟨_,q,_⟩:=h4.ex;exact lt q
   · obtain ⟨_,q,_⟩:=h5.ex;exact lt q
  rw [Zs nf.2,Zs nf.1];exact (hf f hf').1
 done:=by
  intro X hP hw hK hc n pins s σ H E I hf st hg;subst hP hw hK;obtain ⟨⟨old,h0⟩,hz,h2,⟨c,d,h3⟩,h4,h5⟩:=st;obtain ⟨xs,ys,q1,q2,hl⟩:=hg;obtain ⟨us,ru,pu⟩:=q1.is I;obtain ⟨vs,rv,pv⟩:=q2.is I;have e1:=ru.length;have e2:=rv.length;refine Zme (I.ok.hd hc) D ne h0 hz h2 h3 h4 h5 pu pv ?_ fun g r=>⟨rfl,?_⟩
  · rcases hl with q|q
    · left;simp;omega
    · right;simp;omega
  · refine I.turnOnly (t':=s.toks) (ch:=[e,z,o,i,j]) (fun f o' nf q=>?_) (fun f hf'=>hf f ?_)
    · simp only [n14_,n17_,or_false,not_or] at nf;exact r f o' nf.1 nf.2.1 nf.2.2.1 nf.2.2.2.1 nf.2.2.2.2 q
    · simp only [n14_,n17_,or_false] at hf' ⊢
      rcases hf' with q|q|q|q|q<;>simp [q]
 self:=fun _ _ _ _ _ st h=>by obtain ⟨⟨old,h1⟩,_⟩:=st;exact wpAny_pyIter_enum h1 h
theorem Ziv (z:Addr) (t o:Addr):Meets (Builtin.«enumerate.__new__» ⟨[.type "enumerate",.ref z],[]⟩) (fun _ R s=>IsZip s.heap z t o .none ∧
 R (.ok (.ret (.ref s.heap.objs.size))) { s with heap:=s.heap.push (Zar z) }) :=
 .of_wp fun prog w A R s h=>by
  obtain ⟨hp,g,d,tk,os⟩:=s;obtain ⟨hz,h⟩:=h;have hsub:=sub_enumerate;have r1:IsZip (Shared.heap ⟨hp,g,d,tk,os⟩) z t o .none:=hz
  wp_walk using wpAny_loadPart' hz
  refine wpAny_stack_any fun st=>n4_ ?_;split
  · rename_i c _ _ _ _ _
    cases (c == Value.type "enumerate")
    · (wp_walk using wpAny_loadPart' hz,wpAny_pyIter_zip r1);exact ⟨_,rfl,h⟩
    · (wp_walk using wpAny_loadPart' hz,wpAny_pyIter_zip r1);exact ⟨_,rfl,h⟩
  · (wp_walk using wpAny_loadPart' hz,wpAny_pyIter_zip r1);exact ⟨_,rfl,h⟩
section
variable {X:Cx} {es:List Expr} {x1:Nat} {tp:Pos}
def Zo4 (k l:SK) (K:PySem.W.Frag) (ta:TA):TI:=fun σ H R=>ta σ H fun vs H1=>∃ a b,vs=[.ref a,.ref b]∧(∃ xs,k.Sq K H1 a xs)∧(∃ ys,l.Sq K H1 b ys)∧R (Itez k l K a b) H1
theorem Zlf (k l:SK) {a b:Expr} {ta:TA} {p p2 pos pos2:Pos} (hg:Gl X "enumerate") (hm:X.mg "enumerate" = none) (hg2:Gl X "zip") (hm2:X.mg "zip" = none) (ha:PA X [a,b] ta)
 (hs:starEach [a,b] X.env=[(false,eval a X.env),(false,eval b X.env)]:=by rfl) (hs2:starEach [b] X.env=[(false,eval b X.env)]:=by rfl)
 (he:starEach [Expr.Call (.Name "zip" p2) [a,b] [] pos2] X.env=[(false,eval (.Call (.Name "zip" p2) [a,b] [] pos2) X.env)]:=by rfl) :
 PI X (.Tuple es x1 tp) (.Call (.Name "enumerate" p) [.Call (.Name "zip" p2) [a,b] [] pos2] [] pos) (Zo4 k l X.K ta):=by
 intro pins s σ H R I h;refine Call_ (Zb6 I hg hm Ze7 (n44_ ?_ he rfl));rw [he];refine Calls.spliced_cons ?_;refine Call_ (Zb6 I hg2 hm2 Zhf (n44_ (thn (ha pos2 pins s σ H _ I h) fun us s1 ⟨vs,H1,I1,r1,q1⟩=>?_) (by rw [hs,hs2]) (by rw [hs2];rfl)));obtain ⟨a,b,e,⟨xs,hx⟩,⟨ys,hy⟩,q⟩:=q1;subst e;cases r1 with
 | cons r rr =>
   cases rr with
   | cons r' rr =>
     cases rr
     cases r
     cases r'
     obtain ⟨us,ru,pu⟩:=hx.is I1;obtain ⟨ws,rw',pw⟩:=hy.is I1;have la:a<s1.z:=by obtain ⟨_,_,e,_⟩:=pu.ex;exact n7_ e
     have lb:b<s1.z:=by obtain ⟨_,_,e,_⟩:=pw.ex;exact n7_ e
     refine Zkt pu pw fun h1 m1 m2 m3 m4 m5 m6 m7=>Calls.spliced_nil ?_;refine callType_new F.called_enumerate (by decide) (F.typeCall_enumerate_1 _) (F.newCall_enumerate_1 _) (fun obj=>F.args_object_init_2 obj _) F.entry_enumerate_new (Ziv _ _ _) ⟨m1,?_⟩;have m8:(h1.push (Zar (s1.z+4))).get? h1.objs.size=some (Zar (s1.z+4)):=n10_ _ rfl;have up:∀ c o,h1.get? c=some o→(h1.push (Zar (s1.z+4))).get? c=some o:=fun c o e=>n2_ _ e;rw [m6] at m8;show _∧_
     rw [m6];refine ⟨⟨_,m8,rfl⟩,wpAny_pyIter_enum m8 ?_⟩;have I2:Inv X pins σ H1 { s1 with heap:=h1.push (Zar (s1.z+4)),toks:=s1.toks }:=I1.kept fun c o e=>up c o (m7 c o e);refine ⟨_,_,_,_,H1,rfl,I2,Zg8 (e:=s1.z+5) (z:=s1.z+4) (t:=s1.z+2) (o:=s1.z+3) (i:=s1.z) (j:=s1.z+1) (k:=k) (l:=l) (a:=a) (b:=b) (Zpn la lb) ?_,⟨⟨_,m8⟩,⟨_,_,up _ _ m1,.inl rfl⟩,up _ _ m2,⟨_,_,up _ _ m3⟩,m4.at fun u e=>up _ u e,m5.at fun u e=>up _ u e⟩,?_,q⟩
     · have la':@LT.lt Nat _ a s1.z:=la;have lb':@LT.lt Nat _ b s1.z:=lb;refine ⟨?_,?_,?_,?_,?_,?_,?_⟩<;>(intro h;have h':@Eq Nat _ _:=h;clear h;omega)
     · exact I1.fps (fp:=[s1.z+5,s1.z+4,s1.z+2,s1.z+3,s1.z,s1.z+1]) (by
        intro e he;simp only [n14_,n17_,or_false] at he
        rcases he with rfl|rfl|rfl|rfl|rfl|rfl<;>omega)
end
def Tk (H H':Hp):Prop:=∀ a xs,H a=some (.tup xs)→H' a=some (.tup xs)
theorem Tk.trans {H H1 H2:Hp} (a:Tk H H1) (b:Tk H1 H2):Tk H H2:=fun p xs e=>b p xs (a p xs e)
theorem Same.tk {H H':Hp} (s:Same H H'):Tk H H':=fun a xs e=>s a _ e
theorem Tk.of_keep {H H':Hp} {l:Addr} {ys:List V} (k:Keep l H H') (e:H l=some (.lst ys)):Tk H H':=fun a xs q=>k a _ (Zdd q e (by intro z;cases z)) q
theorem Tk.upd_lst {H:Hp} {D:Addr} {ys zs:List V} (e:H D=some (.lst ys)):Tk H (upd H D (.lst zs)):=fun a xs q=>by rw [Zs (Zdd q e (by intro z;cases z))];exact q
def Al {α:Type} (R:V→α→Prop) (vs:List V) (xs:List α):Prop:=vs.length=xs.length∧∀ (i:Nat) (v:V) (x:α),vs[i]? = some v→xs[i]? = some x→R v x
theorem Al.nil {α:Type} {R:V→α→Prop}:Al R [] []:=⟨rfl,fun i v x e=>by simp at e⟩
theorem Al.snoc {α:Type} {R:V→α→Prop} {vs:List V} {xs:List α} {v:V} {x:α} (h:Al R vs xs) (r:R v x):Al R (vs++[v]) (xs++[x]):=by
 refine ⟨by simp [h.1],fun i w y e1 e2=>?_⟩
 by_cases hi:i<vs.length
 · rw [n48_ hi] at e1;rw [n48_ (by rw [← h.1];exact hi)] at e2;exact h.2 i w y e1 e2
 · have:i=vs.length:=by
    have:=(n21_.mp e1).1
    simp at this;omega
   subst this;rw [n54_ (n6_ _)] at e1;rw [h.1,n54_ (n6_ _)] at e2;simp at e1 e2;subst e1;subst e2;exact r
theorem Al.imp {α:Type} {R S:V→α→Prop} {vs:List V} {xs:List α} (h:Al R vs xs) (f:∀ v x,R v x→S v x):Al S vs xs:=⟨h.1,fun i v x e1 e2=>f v x (h.2 i v x e1 e2)⟩
theorem Al.get {α:Type} {R:V→α→Prop} {vs:List V} {xs:List α} {i:Nat} {v:V} (h:Al R vs xs) (e:vs[i]? = some v):∃ x,xs[i]? = some x∧R v x:=by
 have hi:i<xs.length:=by rw [← h.1];exact (n21_.mp e).1
 exact ⟨xs[i],n1_ hi,h.2 i v _ e (n1_ hi)⟩
theorem Al.got {α:Type} {R:V→α→Prop} {vs:List V} {xs:List α} {i:Nat} {x:α} (h:Al R vs xs) (e:xs[i]? = some x):∃ v,vs[i]? = some v∧R v x:=by
 have hi:i<vs.length:=by rw [h.1];exact (n21_.mp e).1
 exact ⟨vs[i],n1_ hi,h.2 i _ x (n1_ hi) e⟩
theorem Al.cons {α:Type} {R:V→α→Prop} {v:V} {vs:List V} {x:α} {xs:List α} (r:R v x) (h:Al R vs xs):Al R (v :: vs) (x :: xs):=by
 refine ⟨by simp [h.1],fun i w y e1 e2=>?_⟩;cases i with
 | zero=>simp at e1 e2;subst e1;subst e2;exact r
 | succ i=>exact h.2 i w y (by simpa using e1) (by simpa using e2)
theorem Al.bls {vs:List V} {bs:List Bool} (h:Al (fun v b=>v=V.bl b) vs bs):vs=bs.map V.bl:=by
 refine List.ext_getElem? fun i=>?_;rw [n11_];cases e:bs[i]? with
 | none =>
   have:=List.getElem?_eq_none_iff.mp e
   rw [List.getElem?_eq_none (by rw [h.1];exact this)];rfl
 | some b =>
   obtain ⟨v,ev,rfl⟩:=h.got e;rw [ev];rfl
theorem Al.ints {vs:List V} {ns:List Int} (h:Al (fun v n=>v=V.int n) vs ns):vs=ns.map V.int:=by
 refine List.ext_getElem? fun i=>?_;rw [n11_];cases e:ns[i]? with
 | none =>
   have:=List.getElem?_eq_none_iff.mp e
   rw [List.getElem?_eq_none (by rw [h.1];exact this)];rfl
 | some b =>
   obtain ⟨v,ev,rfl⟩:=h.got e;rw [ev];rfl
theorem Zls {J:It} {n:Nat} {D:Addr} {g:TG} {te:TE} {σ0:St} {H:Hp} {Q:VK} {α:Type} (R:Hp→V→α→Prop) (hR:∀ H1 H2 v x,Tk H1 H2→R H1 v x→R H2 v x) (ys_:List α) (hn:ys_.length=n) (hz:n≤1000) (ok:St→Prop) (h0:ok σ0) (hD:H D=none)
 (hgo:∀ i H2,Same H H2→i<n→J.go i H2) (hstop:∀ H2,Same H H2→J.stop n H2)
 (hs:∀ i x σ2 H2 H3 (C:St→V→Hp→Prop),i<n→Same H H2→J.yld i H2 x H3→ok σ2→(∀ σ4 y H5 z,ok σ4→Same H2 H5→ys_[i]? = some z→R H5 y z→C σ4 y H5)→g x σ2 H3 fun σ4 H4=>te σ4 H4 (C σ4))
 (hd:∀ H2 vs,Same H H2→H2 D=some (.lst vs)→Al (R H2) vs ys_→Q (.ref D) H2):LcGo J g tYes te σ0 H D Q:=by
 refine Zj2 (n:=n) (fun i σ H2=>Same H H2∧ok σ∧∃ vs,H2 D=some (.lst vs)∧Al (R H2) vs (ys_.take i)) ⟨Same.new hD,h0,[],Zc,by rw [List.take_zero];exact .nil⟩ (fun i σ H2 hi p=>hgo i H2 p.1 hi) (fun σ H2 p=>hstop H2 p.1) (fun i x σ2 H2 H3 hi y p=>?_) (fun σ2 H2 p=>?_)
 · obtain ⟨s2,o2,vs,e2,a2⟩:=p
   have:=hs i x σ2 H2 H3 (fun σ4 y H6=>∃ ys,H6 D=some (.lst ys)∧ys.length<sizeLine∧∃ m',m'<n-i∧LcN n (fun i σ H2=>Same H H2∧ok σ∧∃ vs,H2 D=some (.lst vs)∧Al (R H2) vs (ys_.take i)) (i+1) m' σ4 (upd H6 D (.lst (ys++[y])))) hi s2 y o2 ?_
   · exact this
   · intro σ4 v H5 z o4 s5 ez rz;have e5:H5 D=some (.lst vs):=s5 _ _ e2;refine ⟨vs,e5,?_,n-(i+1),by omega,by omega,rfl,fun b o e=>?_,o4,vs++[v],Zc,?_⟩
     · rw [a2.1,n61_,sizeLine_eq];omega
     · rw [Zs (Zr e hD)];exact s5 _ _ (s2 _ _ e)
     · have tk:Tk H5 (upd H5 D (.lst (vs++[v]))):=Tk.upd_lst e5;have hi':i<ys_.length:=by omega
       rw [List.take_succ_eq_append_getElem hi'];rw [n1_ hi'] at ez;cases ez
       exact (a2.imp fun v x r=>hR _ _ v x tk (hR _ _ v x s5.tk r)).snoc (hR _ _ _ _ tk rz)
 · obtain ⟨s2,_,vs,e2,a2⟩:=p;rw [n55_ (by omega)] at a2;exact hd H2 vs s2 e2 a2
def SK.At (H:Hp) (a:Addr) (vs:List V):SK→Prop
 | .l=>H a=some (.lst vs)
 | .t=>H a=some (.tup vs)
theorem SK.At.sq {k:SK} {K:PySem.W.Frag} {H:Hp} {a:Addr} {vs:List V} (h:k.At H a vs):k.Sq K H a vs:=by
 cases k with
 | l=>exact SqL.of h
 | t=>exact SqT.of h
theorem SK.At.same {k:SK} {H H':Hp} {a:Addr} {vs:List V} (h:k.At H a vs) (s:Same H H'):k.At H' a vs:=by
 cases k with
 | l=>exact s _ _ h
 | t=>exact s _ _ h
def SK.Itk (K:PySem.W.Frag) (a:Addr):SK→L2.It
 | .l=>Itl K a
 | .t=>Itt K a
theorem Znc {k:SK} {K:PySem.W.Frag} {a:Addr} {H:Hp} {vs:List V} {i:Nat} (h:k.At H a vs) (hi:i<vs.length):(k.Itk K a).go i H:=by
 cases k with
 | l=>exact ⟨vs,vs[i],SqL.of h,n1_ hi⟩
 | t=>exact ⟨vs,vs[i],SqT.of h,n1_ hi⟩
theorem Zfw {k:SK} {K:PySem.W.Frag} {a:Addr} {H:Hp} {vs:List V} {i:Nat} (h:k.At H a vs) (hi:vs.length≤i):(k.Itk K a).stop i H:=by
 cases k with
 | l=>exact ⟨vs,SqL.of h,hi⟩
 | t=>exact ⟨vs,SqT.of h,hi⟩
theorem Zir {k:SK} {K:PySem.W.Frag} {a:Addr} {H H':Hp} {vs:List V} {i:Nat} {x:V} (h:k.At H a vs) (y:(k.Itk K a).yld i H x H'):H'=H∧vs[i]? = some x:=by
 cases k with
 | l=>exact ⟨y.1,y.2 vs (SqL.of h)⟩
 | t=>exact ⟨y.1,y.2 vs (SqT.of h)⟩
theorem lc_T {k:SK} {K:PySem.W.Frag} {a D:Addr} {vs:List V} {te:TE} {u0:Option V} {rest:St} {H:Hp} {Q:VK} {α:Type} (R:Hp→V→α→Prop) (hR:∀ H1 H2 v x,Tk H1 H2→R H1 v x→R H2 v x) (ys:List α) (hn:ys.length=vs.length) (hz:vs.length≤1000) (hD:H D=none) (ha:k.At H a vs)
 (hs:∀ (i:Nat) (w:V) (H2:Hp) (C:V→Hp→Prop),vs[i]? = some w→Same H H2→(∀ y H5 z,Same H2 H5→ys[i]? = some z→R H5 y z→C y H5)→te (some w :: rest) H2 C)
 (hd:∀ H2 us,Same H H2→H2 D=some (.lst us)→Al (R H2) us ys→Q (.ref D) H2):LcGo (k.Itk K a) (Xn 0) tYes te (u0 :: rest) H D Q:=by
 refine Zls R hR ys hn hz (fun σ=>∃ u,σ=u :: rest) ⟨_,rfl⟩ hD (fun i H2 s hi=>Znc (ha.same s) hi) (fun H2 s=>Zfw (ha.same s) (n6_ _)) (fun i x σ2 H2 H3 C hi s y o c=>?_) hd;obtain ⟨u,rfl⟩:=o;obtain ⟨rfl,e⟩:=Zir (ha.same s) y;exact hs i x H3 (C (some x :: rest)) e s fun y H5 z s5 ez rz=>c _ y H5 z ⟨_,rfl⟩ s5 ez rz
theorem lc_Z {k l:SK} {K:PySem.W.Frag} {a b D:Addr} {vs ws:List V} {te:TE} {u0 u1:Option V} {rest:St} {H:Hp} {Q:VK} {α:Type} (R:Hp→V→α→Prop) (hR:∀ H1 H2 v x,Tk H1 H2→R H1 v x→R H2 v x) (ys:List α) (hn:ys.length=min vs.length ws.length) (hz:min vs.length ws.length≤1000) (hD:H D=none) (ha:k.At H a vs) (hb:l.At H b ws)
 (hs:∀ (i:Nat) (v w:V) (H2:Hp) (C:V→Hp→Prop),vs[i]? = some v→ws[i]? = some w→Same H H2→(∀ y H5 z,Same H2 H5→ys[i]? = some z→R H5 y z→C y H5)→te (some v :: some w :: rest) H2 C)
 (hd:∀ H2 us,Same H H2→H2 D=some (.lst us)→Al (R H2) us ys→Q (.ref D) H2):LcGo (Itz k l K a b) (gTup K 2 (Za5 (Xn 0) (Za5 (Xn 1) gNil))) tYes te (u0 :: u1 :: rest) H D Q:=by
 refine Zls R hR ys hn hz (fun σ=>∃ u u',σ=u :: u' :: rest) ⟨_,_,rfl⟩ hD (fun i H2 s hi=>?_) (fun H2 s=>?_) (fun i x σ2 H2 H3 C hi s y o c=>?_) hd
 · have h1:i<vs.length:=by omega
   have h2:i<ws.length:=by omega
   exact ⟨vs,ws,vs[i],ws[i],(ha.same s).sq,(hb.same s).sq,n1_ h1,n1_ h2⟩
 · exact ⟨vs,ws,(ha.same s).sq,(hb.same s).sq,by omega⟩
 · obtain ⟨u,u',rfl⟩:=o;obtain ⟨p,v,w,rfl,hp,rfl,y1,y2⟩:=y;have s3:Same H2 (upd H2 p (.tup [v,w])):=Same.new hp;refine ⟨p,[v,w],rfl,SqT.of Zc,rfl,v,[w],rfl,w,[],rfl,rfl,?_⟩;exact hs i v w _ (C (some v :: some w :: rest)) (y1 vs (ha.same s).sq) (y2 ws (hb.same s).sq) (s.trans s3) fun y H5 z s5 ez rz=>c _ y H5 z ⟨_,_,rfl⟩ (s3.trans s5) ez rz
theorem lc_E {k:SK} {K:PySem.W.Frag} {a D:Addr} {vs:List V} {tt:TT} {te:TE} {u0 u1:Option V} {rest:St} {H:Hp} {Q:VK} {α:Type} (R:Hp→V→α→Prop) (hR:∀ H1 H2 v x,Tk H1 H2→R H1 v x→R H2 v x) (f:Nat→Option α) (hz:vs.length≤1000) (hD:H D=none) (ha:k.At H a vs)
 (hs:∀ (i:Nat) (w:V) (H2:Hp) (C:V→Hp→Prop) (N:Hp→Prop),vs[i]? = some w→Same H H2→(∀ y H5 z,Same H2 H5→f i=some z→R H5 y z→C y H5)→(∀ H5,Same H2 H5→f i=none→N H5)→tt (some (.int i) :: some w :: rest) H2 fun b H5=>if b=true then te (some (.int i) :: some w :: rest) H5 C else N H5)
 (hd:∀ H2 us,Same H H2→H2 D=some (.lst us)→Al (R H2) us ((List.range vs.length).filterMap f)→Q (.ref D) H2):LcGo (Ite k K a) (gTup K 2 (Za5 (Xn 0) (Za5 (Xn 1) gNil))) tt te (u0 :: u1 :: rest) H D Q:=by
 refine Zj2 (n:=vs.length) (fun i σ H2=>Same H H2∧(∃ u u',σ=u :: u' :: rest)∧∃ us,H2 D=some (.lst us)∧us.length≤i∧Al (R H2) us ((List.range i).filterMap f)) ⟨Same.new hD,⟨_,_,rfl⟩,[],Zc,n6_ _,.nil⟩ (fun i σ H2 hi p=>⟨vs,vs[i],(ha.same p.1).sq,n1_ hi⟩) (fun σ H2 p=>⟨vs,(ha.same p.1).sq,rfl⟩) (fun i x σ2 H2 H3 hi y p=>?_) (fun σ2 H2 p=>?_)
 · obtain ⟨s2,⟨u,u',rfl⟩,us,e2,l2,a2⟩:=p;obtain ⟨q,w,rfl,hq,rfl,y1⟩:=y;have s3:Same H2 (upd H2 q (.tup [.int i,w])):=Same.new hq
   have rg:(List.range (i+1)).filterMap f=(List.range i).filterMap f++(f i).toList:=by
    rw [List.range_succ,List.filterMap_append];cases e:f i<;>simp [e]
   refine ⟨q,[.int i,w],rfl,SqT.of Zc,rfl,_,_,rfl,_,_,rfl,rfl,?_⟩;refine hs i w _ _ _ (y1 vs (ha.same s2).sq) (s2.trans s3) (fun v H5 z s5 ez rz=>?_) (fun H5 s5 ez=>?_)
   · have e5:H5 D=some (.lst us):=s5 _ _ (s3 _ _ e2);refine ⟨us,e5,by rw [sizeLine_eq];omega,vs.length-(i+1),by omega,by omega,rfl,fun b o e=>?_,⟨_,_,rfl⟩,us++[v],Zc,by simp;omega,?_⟩
     · rw [Zs (Zr e hD)];exact s5 _ _ (s3 _ _ (s2 _ _ e))
     · have tk:Tk H5 (upd H5 D (.lst (us++[v]))):=Tk.upd_lst e5;rw [rg,ez];exact (a2.imp fun v x r=>hR _ _ v x tk (hR _ _ v x (s3.trans s5).tk r)).snoc (hR _ _ _ _ tk rz)
   · refine ⟨vs.length-(i+1),by omega,by omega,rfl,s2.trans (s3.trans s5),⟨_,_,rfl⟩,us,s5 _ _ (s3 _ _ e2),by omega,?_⟩;rw [rg,ez];simp only [Option.toList_none,List.append_nil];exact a2.imp fun v x r=>hR _ _ v x (s3.trans s5).tk r
 · obtain ⟨s2,_,us,e2,_,a2⟩:=p;exact hd H2 us s2 e2 a2
abbrev Pnt:=Int×Int
def IsI (H:Hp) (v:V) (ns:List Int):Prop:=∃ a,v=.ref a∧H a=some (.tup (ns.map V.int))
def IsP (H:Hp) (v:V) (p:Pnt):Prop:=IsI H v [p.1,p.2]
theorem IsI.tk {H H':Hp} {v:V} {ns:List Int} (t:Tk H H') (h:IsI H v ns):IsI H' v ns:=let ⟨a,e,q⟩:=h;⟨a,e,t _ _ q⟩
theorem IsP.tk {H H':Hp} {v:V} {p:Pnt} (t:Tk H H') (h:IsP H v p):IsP H' v p:=IsI.tk t h
def IsTup' {α:Type} (R:Hp→V→α→Prop) (H:Hp) (v:V) (xs:List α):Prop:=∃ a vs,v=.ref a∧H a=some (.tup vs)∧Al (R H) vs xs
theorem IsTup'.tk {α:Type} {R:Hp→V→α→Prop} (hR:∀ H1 H2 v x,Tk H1 H2→R H1 v x→R H2 v x) {H H':Hp} {v:V} {xs:List α} (t:Tk H H') (h:IsTup' R H v xs):IsTup' R H' v xs:=let ⟨a,vs,e,q,r⟩:=h;⟨a,vs,e,t _ _ q,r.imp fun v x=>hR _ _ v x t⟩
structure Pl where
 cs:List Pnt
 ps:List (List Int)
 ts:List Int
 l:Int
 m:Int
def IsCs (H:Hp) (v:V) (cs:List Pnt):Prop:=IsTup' IsP H v cs
def IsPs (H:Hp) (v:V) (ps:List (List Int)):Prop:=IsTup' IsI H v ps
theorem IsCs.tk {H H':Hp} {v:V} {cs:List Pnt} (t:Tk H H') (h:IsCs H v cs):IsCs H' v cs:=IsTup'.tk (R:=IsP) (fun _ _ _ _ t r=>IsP.tk t r) t h
theorem IsPs.tk {H H':Hp} {v:V} {ps:List (List Int)} (t:Tk H H') (h:IsPs H v ps):IsPs H' v ps:=IsTup'.tk (R:=IsI) (fun _ _ _ _ t r=>IsI.tk t r) t h
def IsPl (H:Hp) (v:V) (P:Pl):Prop:=∃ a c p t s,v=.ref a∧H a=some (.tup [c,p,t,s])∧IsCs H c P.cs∧IsPs H p P.ps∧IsI H t P.ts∧IsI H s [P.l,P.m]
theorem IsPl.tk {H H':Hp} {v:V} {P:Pl} (t:Tk H H') (h:IsPl H v P):IsPl H' v P:=let ⟨a,c,p,q,s,e,h1,h2,h3,h4,h5⟩:=h;⟨a,c,p,q,s,e,t _ _ h1,h2.tk t,h3.tk t,h4.tk t,h5.tk t⟩
def tn (a b c:Pnt):Int:=(b.1-a.1)*(c.2-a.2)-(c.1-a.1)*(b.2-a.2)
structure Tri where
 a:Pnt
 b:Pnt
 c:Pnt
def tri (a b c:Pnt):Tri:=if tn a b c<0 then ⟨a,c,b⟩ else ⟨a,b,c⟩
def Tri.pts (t:Tri):List Pnt:=[t.a,t.b,t.c]
def Tri.edges (t:Tri):List (Pnt×Pnt):=[(t.a,t.b),(t.b,t.c),(t.c,t.a)]
def Zca (p:Pnt) (t:Tri):Bool:=(t.edges.map fun e=>decide (0≤tn e.1 e.2 p)).all id
def Zdq (e:Pnt×Pnt) (u:Tri):Bool:=(u.pts.map fun q=>decide (tn e.1 e.2 q≤0)).all id
def Y9 (t u:Tri):Bool:=t.edges.any fun e=>Zdq e u
def apart (t u:Tri):Bool:=Y9 t u||Y9 u t
def IsT (H:Hp) (v:V) (t:Tri):Prop:=∃ a x y z,v=.ref a∧H a=some (.tup [x,y,z])∧IsP H x t.a∧IsP H y t.b∧IsP H z t.c
theorem IsT.tk {H H':Hp} {v:V} {u:Tri} (t:Tk H H') (h:IsT H v u):IsT H' v u:=let ⟨a,x,y,z,e,h1,h2,h3,h4⟩:=h;⟨a,x,y,z,e,t _ _ h1,h2.tk t,h3.tk t,h4.tk t⟩
def near (p:Pnt):Prop:=(-100≤p.1∧p.1≤100)∧(-100≤p.2∧p.2≤100)
def Tri.near (t:Tri):Prop:=L2.near t.a∧L2.near t.b∧L2.near t.c
def cAt (cs:List Pnt) (i:Int):Pnt:=cs.getD i.toNat (0,0)
def trOf (cs:List Pnt) (p:List Int):Tri:=tri (cAt cs (p.getD 0 0)) (cAt cs (p.getD 1 0)) (cAt cs (p.getD 2 0))
def dOf (cs:List Pnt) (p:List Int):Int:=tn (cAt cs (p.getD 0 0)) (cAt cs (p.getD 1 0)) (cAt cs (p.getD 2 0))
def Zbf (q:(Int→Bool)×Nat) (k:Int):(Int→Bool)×Nat:=(fun k'=>q.1 k'||decide (k'=k),if q.1 k then q.2 else q.2+1)
def cntS (l:List Int):Nat:=(l.foldl Zbf (fun _=>false,0)).2
structure PieceOk (cs:List Pnt) (p:List Int):Prop where
 len:p.length=3
 bd:∀ i∈p,0≤i∧i≤(cs.length:Int)-1
 rise:p.getD 0 0<p.getD 1 0∧p.getD 1 0<p.getD 2 0
 d:dOf cs p≠0
structure PlOk (P:Pl):Prop where
 c3:3≤P.cs.length
 c30:P.cs.length≤30
 nr:∀ p∈P.cs,near p
 nd:P.cs.Nodup
 p1:1≤P.ps.length
 p40:P.ps.length≤40
 pc:∀ p∈P.ps,PieceOk P.cs p
 rise:∀ i:Nat,i+1<P.ps.length→HT.lexLt (P.ps.getD i []) (P.ps.getD (i+1) [])=true
 t1:P.ts.length=P.ps.length
 t9:∀ t∈P.ts,1≤t∧t≤9
 l9:0≤P.l∧P.l≤9
 m9:1≤P.m∧P.m≤9
 used:cntS P.ps.flatten=P.cs.length
 strange:∀ p∈P.ps,∀ j:Nat,j<P.cs.length→(j:Int)∉p→Zca (P.cs.getD j (0,0)) (trOf P.cs p)=false
 apart:∀ i j:Nat,i<j→j<P.ps.length→L2.apart (trOf P.cs (P.ps.getD j [])) (trOf P.cs (P.ps.getD i []))=true
abbrev Nms:=List (Str×NameKind)
def relN (sc:Nms) (dn:Nms):Nms:=sc.map fun y=>if y.2 == .free&&dn.lookup y.1 == some .cell then (y.1,.cell) else y
def chk (sc dn:Nms) (N XN:List Str) (fr:List (Option Nat)):Bool :=
 sc.all (fun y=>y.2 != .free||dn.lookup y.1 == some .cell)&&sc.all (fun y=>y.2 != .local||sc.lookup y.1 == some .local)&&sc.all (fun y=>y.2 != .cell||sc.lookup y.1 == some .cell)&&(fr.length == N.length) &&
  (List.range fr.length).all fun i=>match fr[i]? with
    | some (some j)=>match N[i]? with
      | some x=>XN[j]? == some x&&dn.lookup x == some .cell&&(relN sc dn).lookup x == some .cell&&sc.all (fun y=>y.1 != x||y.2 != .cell)&&sc.any (fun y=>y.1 == x&&y.2 == .free)
      | none=>false
    | _=>true
theorem Zbr {cells:List (Str×Addr)} {sc:Nms} {x:Str} (key:(x,NameKind.free)∈sc):∃ c,(Y4 cells sc).lookup x=some c:=by
 have hm:(x,(cells.lookup x).getD 0)∈Y4 cells sc:=by
  unfold Y4;exact List.mem_reverse.mpr (n42_.mpr ⟨(x,.free),List.mem_filter.mpr ⟨key,rfl⟩,rfl⟩)
 cases q:(Y4 cells sc).lookup x with
 | some c'=>exact ⟨c',rfl⟩
 | none =>
   have z:=(List.lookup_eq_none_iff.mp q) _ hm;simp at z
theorem Zfx {sc dn:Nms} {x:Str} {k:NameKind} (hk:k=.cell∨k=.free) (h:(relN sc dn).lookup x=some k):(x,NameKind.free)∈sc∨(x,NameKind.cell)∈sc:=by
 have m:=n28_ h;obtain ⟨⟨n,k'⟩,hm,e⟩:=n42_.mp m
 by_cases hf:k'=.free
 · subst hf
   have:n=x:=by
    dsimp only at e;split at e<;>(injection e)
   subst this;exact .inl hm
 · have b:(k' == NameKind.free)=false:=by simpa using hf
   simp only [b,Bool.false_and,n22_,if_false] at e;injection e with e1 e2
   subst e1 e2
   rcases hk with rfl|rfl
   · exact .inr hm
   · exact absurd rfl hf
theorem Zb3 {scope:Scope} {env:Env} {dn:Nms} (hn:env.scope.names=dn) (hk:env.scope.kind=.function):(relabel scope env).names=relN scope.names dn:=by
 unfold relabel relN;show scope.names.map _=scope.names.map _
 refine List.map_congr_left fun y _=>?_;obtain ⟨n,k⟩:=y;have e:(env.scope.kind == ScopeKind.function)=true:=by rw [hk];rfl
 have e2:env.kindOf n=dn.lookup n:=by rw [← hn];rfl
 simp only [e,e2,Bool.and_true]
theorem Yz {X:Cx} {scope:Scope} {N XN:List Str} {fr:List (Option Nat)} (dn:Nms) (hn:X.env.scope.names=dn) (hk:X.env.scope.kind=.function) (hX:X.N=XN) (hc:∀ x,dn.lookup x=some .cell→∃ c,X.env.cells.lookup x=some c)
 (h:chk scope.names dn N XN fr=true) (hs:scope.kind=.function):LcO X scope (Y4 X.env.cells scope.names) N fr:=by
 unfold chk at h;simp only [n27_] at h;obtain ⟨⟨⟨⟨h1,h2⟩,h3⟩,h4⟩,h5⟩:=h
 have hf:∀ y∈scope.names,y.2=.free→∃ c,X.env.cells.lookup y.1=some c:=fun y hy e=>by
  have:=n33_.mp h1 y hy
  rw [e] at this;exact hc _ (by simpa using this)
 refine ⟨Zc9 hf,fun x c e=>?_,fun x e=>?_,hs,fun y hy e=>?_,by simpa using h4,fun i j e=>?_⟩
 · have m:=n28_ e;unfold Y4 at m;obtain ⟨⟨n,k⟩,hm,e2⟩:=n42_.mp (List.mem_reverse.mp m);obtain ⟨h1',h2'⟩:=List.mem_filter.mp hm;obtain ⟨c',hc'⟩:=hf _ h1' (by simpa using h2');injection e2 with e3 e4
   subst e3;rw [hc'] at e4;rw [hc',← e4];rfl
 · rw [Zb3 hn hk] at e
   have:(x,NameKind.free)∈scope.names∨(x,NameKind.cell)∈scope.names:=e.elim (Zfx (.inl rfl)) (Zfx (.inr rfl))
   rcases this with m|m
   · exact .inr (Zbr m)
   · have:=n33_.mp h3 _ m
     exact .inl (by simpa using this)
 · have:=n33_.mp h2 y hy
   rw [e] at this
   simpa using this
 · have hi:i<fr.length:=(n21_.mp e).1
   have:=n33_.mp h5 i (n35_.mpr hi)
   rw [e] at this;cases hx:N[i]? with
   | none=>rw [hx] at this;cases this
   | some x =>
     rw [hx] at this;simp only [n27_,beq_iff_eq] at this;obtain ⟨⟨⟨⟨t1,t2⟩,t3⟩,t4⟩,t5⟩:=this;obtain ⟨⟨z1,z2⟩,m1,m2⟩:=List.any_eq_true.mp t5;simp only [n27_,beq_iff_eq] at m2;obtain ⟨rfl,rfl⟩:=m2;refine ⟨z1,rfl,by rw [hX];exact t1,.inl (by rw [hn];exact t2),.inl (by rw [Zb3 hn hk];exact t3),Zbr m1,fun m=>?_⟩
     have:=n33_.mp t4 _ m
     simp at this
theorem Zmj {cells:List (Str×Addr)} {sc dn:Nms} {x:Str} {n:Nat} (hc:sc.all (fun y=>y.2 != .cell||sc.lookup y.1 == some .cell)=true) (h:(relN sc dn).lookup x=some .cell):∃ c,(cellsFrom n sc (Y4 cells sc)).lookup x=some c:=by
 refine Option.isSome_iff_exists.mp (PySem.W.cellsFrom_some sc n _ ?_)
 rcases Zfx (.inl rfl) h with m|m
 · obtain ⟨c,e⟩:=Zbr (cells:=cells) m;exact .inr (by rw [e];rfl)
 · have:=n33_.mp hc _ m
   exact .inl (by simpa using this)
theorem Z7 {X:Cx} {scope:Scope} {N:List Str} {fr:List (Option Nat)} (h:scope.names.all (fun y=>y.2 != .cell&&y.2 != .free)=true) (hk:scope.kind=.function)
 (hn:∀ y∈scope.names,y.2=.local→scope.names.lookup y.1=some .local) (hl:fr.length=N.length) (hf:fr.all (·.isNone)=true):LcO X scope [] N fr:=by
 have no:∀ y∈scope.names,y.2≠.cell∧y.2≠.free:=fun y hy=>by
  have:=n33_.mp h y hy
  rw [n27_] at this
  simpa using this
 refine ⟨closureFor_none fun x hx=>(no x hx).2,fun x c e=>by simp at e,fun x e=>?_,hk,hn,hl,fun i j e=>?_⟩
 · exfalso
   have key:∀ k,(relabel scope X.env).names.lookup x=some k→k≠.cell∧k≠.free:=fun k e=>by
    obtain ⟨⟨n,k'⟩,hm,e2⟩:=n42_.mp (n28_ e);have b:(k' == NameKind.free)=false:=by simpa using (no _ hm).2
    simp only [b,Bool.false_and,n22_,if_false] at e2;cases e2
    exact no _ hm
   rcases e with e|e
   · exact (key _ e).1 rfl
   · exact (key _ e).2 rfl
 · have:=n33_.mp hf _ (n12_ e)
   cases this
theorem Zqa {X:Cx} {x:Str} {k j:Nat} {sp:Sp} {p pos:Pos} (C:Cal X.prog X.w X.K X.mg X.base x k [] sp) (hr:Room j X.A) (hj:k≤j) (hg:Gl X x) (hdb:(x == ("__debug__" : Str))=false:=by decide) :
 PE X (.Call (.Name x p) [] [] pos) (fun _ H Q=>sp [] H Q E0):=by
 obtain ⟨f,fd,F,hm,hk,hb⟩:=C.ex;have h:=Zpb (dvs:=[]) (E:=E0) (p:=p) (pos:=pos) F (hr.mono hj) hg hm hk hb .nil Zr8 hdb;exact h
def rNeL (K:PySem.W.Frag):R2:=fun x y H Q=>∃ a b xs,x=.ref a∧y=.ref b∧SqL K H a xs∧SqL K H b []∧Q (.bl (!decide (xs=[]))) H
theorem Zrw {X:Cx} (hu:X.A.units<cLine):OpR X (compareOp .NotEq) (rNeL X.K):=by
 intro pins s σ H x y v u Q I rx ry h;obtain ⟨a,b,xs,rfl,rfl,h1,h2,q⟩:=h;cases rx;cases ry
 obtain ⟨us,r1,p1,_⟩:=I.list h1;obtain ⟨ws,r2,p2,_⟩:=I.list h2;have l1:=r1.length;have e:ws=[]:=r2.nil_iff.mpr rfl;subst e;cases hx:xs with
 | nil =>
   subst hx;have e:us=[]:=r1.nil_iff.mpr rfl;subst e;exact SeqAt.RcNeAt.lists (e:=fun j=>true) p1.isList p2.isList rfl hu (fun j h1 h2=>absurd h2 (by simp)) _ _ _ _ ⟨.bl _,H,I,rfl,q⟩
 | cons y ys =>
   subst hx;exact SeqAt.RcNeAt.lists_lengths p1.isList p2.isList (by simp at l1;simp [← l1]) hu _ _ _ _ ⟨.bl _,H,I,rfl,q⟩
theorem Zkf (K:PySem.W.Frag) {X:Cx} (h:X.K=K):IxR X (rIxL K):=h ▸ Yh
theorem Zq0 (K:PySem.W.Frag) {X:Cx} (h:X.K=K):IxR X (rIxT K):=h ▸ Yc
theorem Zgg (K:PySem.W.Frag) {X:Cx} (h:X.K=K):OpR X (compareOp .NotIn) (rIn K true):=h ▸ Zg0
theorem Zfq (K:PySem.W.Frag) {X:Cx} (h:X.K=K):Xz X (.builtin "len") (fun xs H Q=>∃ p ys,xs=[.ref p]∧(SqL K H p ys∨SqT K H p ys)∧Q (.int ys.length) H):=h ▸ Zn
theorem Zeq (K:PySem.W.Frag) {X:Cx} (h:X.K=K):Xz X (.type "tuple") (fun xs H Q=>∃ p ys,xs=[.ref p]∧((SqL K H p ys∧∀ l,H l=none→Q (.ref l) (upd H l (.tup ys)))∨(SqT K H p ys∧Q (.ref p) H))):=h ▸ Yo
theorem Zfo (K:PySem.W.Frag) {X:Cx} (h:X.K=K):Xz X (.builtin "sorted") (fun xs H Q=>∃ (p:Addr) (ns:List Int),xs=[.ref p]∧SqL K H p (ns.map V.int)∧ns.length<64∧∀ (l:Addr) (ns':List Int),H l=none→ns'.Perm ns→ns'.Pairwise (·≤·)→Q (.ref l) (upd H l (.lst (ns'.map V.int)))):=h ▸ Zh2
theorem Zi0 (K:PySem.W.Frag) {X:Cx} {tg l:Expr} {tl:TE} (h:X.K=K) (hl:PE X l tl):PI X tg l (iTup K tl):=h ▸ Yq hl
theorem Ztq {k:SK} {K:PySem.W.Frag} {a D:Addr} {vs:List V} {te:TE} {u0 u1:Option V} {rest:St} {H:Hp} {Q:VK} {α:Type} (R:Hp→V→α→Prop) (hR:∀ H1 H2 v x,Tk H1 H2→R H1 v x→R H2 v x) (ys:List α) (hn:ys.length=vs.length) (hz:vs.length≤1000) (hD:H D=none) (ha:k.At H a vs)
 (hp:∀ (i:Nat) (w:V),vs[i]? = some w→∃ p x y,w=.ref p∧H p=some (.tup [x,y]))
 (hs:∀ (i:Nat) (p:Addr) (x y:V) (H2:Hp) (C:V→Hp→Prop),vs[i]? = some (.ref p)→H p=some (.tup [x,y])→Same H H2→(∀ y H5 z,Same H2 H5→ys[i]? = some z→R H5 y z→C y H5)→te (some x :: some y :: rest) H2 C)
 (hd:∀ H2 us,Same H H2→H2 D=some (.lst us)→Al (R H2) us ys→Q (.ref D) H2):LcGo (k.Itk K a) (gTup K 2 (Za5 (Xn 0) (Za5 (Xn 1) gNil))) tYes te (u0 :: u1 :: rest) H D Q:=by
 refine Zls R hR ys hn hz (fun σ=>∃ u u',σ=u :: u' :: rest) ⟨_,_,rfl⟩ hD (fun i H2 s hi=>Znc (ha.same s) hi) (fun H2 s=>Zfw (ha.same s) (n6_ _)) (fun i x σ2 H2 H3 C hi s y o c=>?_) hd;obtain ⟨u,u',rfl⟩:=o;obtain ⟨rfl,e⟩:=Zir (ha.same s) y;obtain ⟨p,x1,y1,rfl,e2⟩:=hp i x e;exact ⟨p,[x1,y1],rfl,SqT.of (s _ _ e2),rfl,x1,[y1],rfl,y1,[],rfl,rfl,hs i p x1 y1 H3 (C (some x1 :: some y1 :: rest)) e e2 s fun y H5 z s5 ez rz=>c _ y H5 z ⟨_,_,rfl⟩ s5 ez rz⟩
theorem Zng {K:PySem.W.Frag} {a D:Addr} {vs:List V} {ps:List (List Int)} {u0 u1:Option V} {rest:St} {H:Hp} {Q:VK} (ha:H a=some (.tup vs)) (al:Al (IsI H) vs ps) (hl:ps.flatten.length<1000) (hD:H D=none)
 (hd:∀ S,Q (.ref D) (upd H D (.set S (cntS ps.flatten)))) :
 ScGo (Itt K a) (Xn 0) (iTup K (tVar 0)) (Xn 1) (tVar 1) (u0 :: u1 :: rest) H D Q:=by
 have hsz:∀ l:List Int,(l.foldl Zbf (fun _=>false,0)).2≤l.length:=by
  intro l
  have:∀ (l:List Int) q,(l.foldl Zbf q).2≤q.2+l.length:=by
   intro l
   induction l with
   | nil=>intro q;simp
   | cons x l ih =>
     intro q
     have:=ih (Zbf q x)
     rw [List.foldl_cons,n16_];have h2:(Zbf q x).2≤q.2+1:=by unfold Zbf;dsimp only;split<;>omega
     omega
  have:=this l (fun _=>false,0)
  simpa using this
 have sb:∀ n,n<1001→n+1<scanBound:=fun n h=>Nat.lt_trans (show n+1<1002 by omega) (by decide)
 let f:List Int→(Int→Bool)×Nat:=fun l=>l.foldl Zbf (fun _=>false,0)
 refine ⟨fun i m σ H2=>m=vs.length-i∧i≤vs.length∧(∃ u u',σ=u :: u' :: rest)∧H2=upd H D (.set (f (ps.take i).flatten).1 (f (ps.take i).flatten).2),⟨_,rfl,n43_ _,⟨_,_,rfl⟩,by simp [f]⟩,?_⟩;rintro i m σ2 H2 ⟨rfl,hi,⟨u,u',rfl⟩,rfl⟩
 have e0:upd H D (.set (f (ps.take i).flatten).1 (f (ps.take i).flatten).2) a=some (.tup vs):=by rw [Zs (Zr ha hD)];exact ha
 by_cases hlt:i<vs.length
 · refine .inr ⟨⟨vs,vs[i],SqT.of e0,n1_ hlt⟩,fun x H3 y=>?_⟩;obtain ⟨rfl,y2⟩:=y;have ex:=y2 vs (SqT.of e0);obtain ⟨p,ep,b,rfl,hb⟩:=al.get ex;have hip:i<ps.length:=(n21_.mp ep).1;have tk:ps.take (i+1)=ps.take i++[p]:=by rw [List.take_succ,ep];rfl
   have fl:(ps.take (i+1)).flatten=(ps.take i).flatten++p:=by rw [tk];simp
   have le1:(ps.take (i+1)).flatten.length≤ps.flatten.length:=by
    have:=congrArg (fun l:List (List Int)=>l.flatten.length) (n65_ (i+1) ps)
    rw [List.flatten_append,n25_] at this;omega
   have eb:∀ o,upd H D o b=some (.tup (p.map V.int)):=fun o=>by rw [Zs (Zr hb hD)];exact hb
   refine ⟨.ref b,rfl,b,rfl,⟨_,SqT.of (eb _)⟩,?_⟩;refine ⟨fun i1 m1 σ6 H6=>m1=p.length-i1∧i1≤p.length∧(∃ u',σ6=some (.ref b) :: u' :: rest)∧H6=upd H D (.set (f ((ps.take i).flatten++p.take i1)).1 (f ((ps.take i).flatten++p.take i1)).2),⟨_,rfl,n43_ _,⟨_,rfl⟩,by simp⟩,?_⟩;rintro i1 m1 σ6 H6 ⟨rfl,hi1,⟨u2,rfl⟩,rfl⟩
   by_cases hl1:i1<p.length
   · refine .inr ⟨⟨p.map V.int,V.int p[i1],SqT.of (eb _),by simp [hl1]⟩,fun y H7 yy=>?_⟩;obtain ⟨rfl,y3⟩:=yy;have ey:=y3 _ (SqT.of (eb _));rw [n11_,n1_ hl1] at ey;cases ey
     have len:(ps.take i).flatten.length+p.length≤ps.flatten.length:=by rw [fl,n25_] at le1;exact le1
     refine ⟨_,rfl,p[i1],_,_,rfl,Zc,sb _ ?_,_,(by omega:p.length-(i1+1)<_),rfl,by omega,⟨_,rfl⟩,?_⟩
     · have:=hsz ((ps.take i).flatten++p.take i1)
       simp only [f];rw [n25_,n61_] at this;omega
     · have e5:p.take (i1+1)=p.take i1++[p[i1]]:=List.take_succ_eq_append_getElem hl1;rw [Zrk,e5,← List.append_assoc];simp only [f,List.foldl_append,List.foldl_cons,List.foldl_nil];rfl
   · refine .inl ⟨⟨_,SqT.of (eb _),by simp;omega⟩,_,(by omega:vs.length-(i+1)<_),rfl,by omega,⟨_,_,rfl⟩,?_⟩;rw [fl,show p.take i1=p from n55_ (by omega)]
 · have e:i=vs.length:=by omega
   subst e;refine .inl ⟨⟨vs,SqT.of e0,n6_ _⟩,?_⟩;rw [n55_ (by rw [al.1];exact n6_ _)];exact hd _
theorem Zg2 {X:Cx}:Xz X (.builtin "len") (fun xs H Q=>∃ D S n,xs=[.ref D]∧H D=some (.set S n)∧Q (.int n) H):=by
 intro pins s σ H xs us Q I r h;obtain ⟨D,S,n,rfl,hS,q⟩:=h;cases r with
 | cons rx r =>
   cases r
   cases (show _=Value.ref D from rx)
   obtain ⟨o,es,ep,t,e,ex,d,_,_,sz,f,en⟩:=(show ObjOk X.prog X.w H s.heap D (.set S n) from I.hok D _ hS);have hl:=Zdy
   have:(4096:Nat)=scanBound:=rfl
   refine call_len_set e ex d f (by omega) ⟨.int n,H,I.tok _,⟨_,by rw [en]⟩,q⟩
theorem Zp7 {X:Cx} {x:Str} {pos' spos:Pos} {tg elt iter:Expr} {ifs:List Expr} {scope:Scope} {cl:List (Str×Addr)} {N:List Str} {fr:List (Option Nat)} {pos:Pos} {wi:TI} {g g':TG} {tt:TT} {te:TE}
 (hw:swapsWith (.ListComp elt [⟨tg,iter,ifs,0⟩] scope pos) (some (.Name x pos')) spos.line X.env=pure true)
 (hc:X.calm=true) (hg':PG X (.Name x pos') g') (L:LcO X scope cl N fr) (hi:PI X tg iter wi) (hg:∀ C s3 H3 fp,PG (blk X scope cl C N s3 H3 fp) tg g)
 (ht:∀ C s3 H3 fp,PIfs (blk X scope cl C N s3 H3 fp) ifs tt) (he:∀ C s3 H3 fp,PE (blk X scope cl C N s3 H3 fp) elt te)
 (hs:∀ x,foldedSetIterable iter X.env x=pure x:=by intro _;rfl):PS X (.Assign [.Name x pos'] (.ListComp elt [⟨tg,iter,ifs,0⟩] scope pos) spos) (tAsg (tLC wi g tt te fr) g'):=by
 intro pins s σ H D I h;rw [exec_Assign_Name_used _ _ _ _ hw];refine n0_ (wpAny_standAt (n0_ ?_));rw [arm_evalThenUse_ListComp];refine n0_ (wpAny_comprehension_free (Q:=fun _ s'=>wpAny (model X.prog X.w) X.A (pure ()) (fun _ s''=>wpAny (model X.prog X.w) X.A (pure Flow.next) (SP X pins D) X.xe s'') X.xe s') (use:=some (assign (.Name x pos') X.env)) rfl hs L.clos L.kind L.names (thn (hi pins s σ H _ I h) fun v s1 h1=>thn h1 fun itv s2 h2=>?_));obtain ⟨it,fp,tn,J,H2,e,I2,T,st2,f2,h⟩:=h2;subst e;obtain ⟨W,⟨m0,w0⟩,turn⟩:=h s2.z (I2.hok.fresh (n6_ _));refine wpAny_newObj_type ?_;generalize hs3:({ s2 with heap:=s2.heap.push { cls:=.type "list",dict:=none,data:=.seq ([]:List Value).toArray } }:Shared)=s3;refine Zgd (ac:=.lst []) hs3.symm hc L hg I2 T st2 f2 ⟨n43_ _,[],_,.nil,n10_ _ rfl⟩ w0 turn (fun _ _ a b=>codeAny_compStart_list a (b _)) (fun LI s4 t n h=>Zc5 LI t n h) (fun H6 s7 qn I3 fr7 c=>?_) (Zmg ht he);obtain ⟨m7,hn7,c7⟩:=c;have I8:Inv X pins σ H6 s7:=c7 s7.heap (Heap.SameBut.refl ..)
 have fpC:∀ {H6:Hp},H6 s3.z=none→∀ b∈[s3.z],FpOk X pins H6 b:=fun fr b hb=>by
  rw [n60_] at hb;subst hb;exact I3.fpOk (n6_ _) fr
 obtain ⟨oC,esC,epC,geC,dC,skC,nfC⟩:=hn7
 have I9:=I8.pinned (fpC fr7) (fun b hb=>by
  rw [n60_] at hb;subst hb;exact ⟨oC,geC,fun v z=>by rw [dC] at z;cases z⟩)
 refine thn (hg' _ s7 σ H6 (.ref s2.z) (.ref s2.z) _ I9 rfl qn) fun _ s9 ⟨σ9,H9,I10,q9⟩=>?_;have pC:=I10.pin (s3.z,oC) (n29_ _ (n29_ _ (Xi (n60_.mpr rfl) geC)));refine ⟨m7,⟨oC,esC,epC,pC.1,dC,skC,nfC⟩,fun h' sb=>?_⟩;refine n4_ (n4_ ?_);exact ⟨σ9,H9,I10.unpinned.turnGen (t':=s9.toks) (ch:=[s3.z]) (fun b u nb e=>(sb.2 b (fun z=>nb (by rw [z];exact n60_.mpr rfl))).trans e) (fpC pC.2.1) (fun _ _ e=>e) (fun _ _ _ e=>e) (fun b u e1 e2=>by rw [e1] at e2;cases e2),q9⟩
def tD (a b c x y q:Pnt):Int:=tn a b c*tn x y q
def inS (a b c q:Pnt):Prop:=0≤tD a b c a b q∧0≤tD a b c b c q∧0≤tD a b c c a q
def bey (a b c x y u v w:Pnt):Prop:=tD a b c x y u≤0∧tD a b c x y v≤0∧tD a b c x y w≤0
def sepS (a b c u v w:Pnt):Prop:=bey a b c a b u v w∨bey a b c b c u v w∨bey a b c c a u v w
instance {a b c q:Pnt}:Decidable (inS a b c q):=by unfold inS;infer_instance
instance {a b c x y u v w:Pnt}:Decidable (bey a b c x y u v w):=by unfold bey;infer_instance
instance {a b c u v w:Pnt}:Decidable (sepS a b c u v w):=by unfold sepS;infer_instance
theorem Zbp (a b q:Pnt):tn b a q =-tn a b q:=by unfold tn;grind
theorem Zpx (a b c:Pnt):tn b c a=tn a b c:=by unfold tn;grind
theorem Zqy (a b c x y q:Pnt):tD b a c x y q=tD a b c y x q:=by
 unfold tD;rw [Zbp a b c,Zbp x y q];grind
theorem Zpt (a b c x y q:Pnt):tD b c a x y q=tD a b c x y q:=by unfold tD;rw [Zpx]
theorem Zl9 (a b c x y q:Pnt):tD b a c y x q=tD a b c x y q:=Zqy a b c y x q
theorem Zqq {a b c q:Pnt} (h:inS a b c q):inS b c a q:=by
 unfold inS at *;simp only [Zpt];exact ⟨h.2.1,h.2.2,h.1⟩
theorem Zs3 {a b c q:Pnt} (h:inS a b c q):inS b a c q:=by
 unfold inS at *;simp only [Zl9];exact ⟨h.1,h.2.2,h.2.1⟩
theorem Zre {a b c x y u v w:Pnt}:bey b c a x y u v w=bey a b c x y u v w:=by unfold bey;simp only [Zpt]
theorem Zr9 {a b c x y u v w:Pnt}:bey b a c y x u v w=bey a b c x y u v w:=by unfold bey;simp only [Zl9]
theorem Zqm {a b c u v w:Pnt} (h:sepS a b c u v w):sepS b c a u v w:=by
 unfold sepS at *;simp only [Zre];rcases h with h|h|h
 · exact .inr (.inr h)
 · exact .inl h
 · exact .inr (.inl h)
theorem Zsb {a b c u v w:Pnt} (h:sepS a b c u v w):sepS b a c u v w:=by
 unfold sepS at *;simp only [Zr9];rcases h with h|h|h
 · exact .inl h
 · exact .inr (.inr h)
 · exact .inr (.inl h)
theorem Zoc {a b c u v w:Pnt} (h:sepS a b c u v w):sepS a b c v w u:=by
 unfold sepS bey at *;rcases h with ⟨h1,h2,h3⟩|⟨h1,h2,h3⟩|⟨h1,h2,h3⟩
 · exact .inl ⟨h2,h3,h1⟩
 · exact .inr (.inl ⟨h2,h3,h1⟩)
 · exact .inr (.inr ⟨h2,h3,h1⟩)
theorem Zql {a b c u v w:Pnt} (h:sepS a b c u v w):sepS a b c v u w:=by
 unfold sepS bey at *;rcases h with ⟨h1,h2,h3⟩|⟨h1,h2,h3⟩|⟨h1,h2,h3⟩
 · exact .inl ⟨h2,h1,h3⟩
 · exact .inr (.inl ⟨h2,h1,h3⟩)
 · exact .inr (.inr ⟨h2,h1,h3⟩)
theorem Zou {α:Type} [DecidableEq α] {x y z a b c:α} (h:[x,y,z].Perm [a,b,c]) (P:α→α→α→Prop) (rot:∀ a b c,P a b c→P b c a) (sw:∀ a b c,P a b c→P b a c) (p:P a b c):P x y z:=by
 have hx:x∈[a,b,c]:=h.mem_iff.mp (by simp);simp only [n14_,n17_,or_false] at hx
 have two:∀ {y z b c:α},[y,z].Perm [b,c]→(y=b∧z=c)∨(y=c∧z=b):=by
  intro y z b c h;have hy:y∈[b,c]:=h.mem_iff.mp (by simp);simp only [n14_,n17_,or_false] at hy
  rcases hy with rfl|rfl
  · have:=List.perm_cons y |>.mp h
    exact .inl ⟨rfl,by simpa using this⟩
  · have:=List.perm_cons y |>.mp (h.trans (List.Perm.swap y b []))
    exact .inr ⟨rfl,by simpa using this⟩
 rcases hx with rfl|rfl|rfl
 · rcases two ((List.perm_cons x).mp h) with ⟨rfl,rfl⟩|⟨rfl,rfl⟩
   · exact p
   · exact sw _ _ _ (rot _ _ _ (rot _ _ _ p))
 · rcases two ((List.perm_cons x).mp (h.trans (List.Perm.swap x a [c]))) with ⟨rfl,rfl⟩|⟨rfl,rfl⟩
   · exact sw _ _ _ p
   · exact rot _ _ _ p
 · have h2:[x,y,z].Perm [x,a,b]:=h.trans (((List.Perm.swap x b []).cons a).trans (List.Perm.swap x a [b]))
   rcases two ((List.perm_cons x).mp h2) with ⟨rfl,rfl⟩|⟨rfl,rfl⟩
   · exact rot _ _ _ (rot _ _ _ p)
   · exact sw _ _ _ (rot _ _ _ p)
theorem Zlj {a b c q:Pnt} (hd:tn a b c≠0):Zca q (tri a b c)=true↔inS a b c q:=by
 unfold Zca tri inS tD
 by_cases h:tn a b c<0
 · rw [if_pos h];have e1:tn a c q =-tn c a q:=Zbp c a q;have e2:tn c b q =-tn b c q:=Zbp b c q;have e3:tn b a q =-tn a b q:=Zbp a b q;simp only [Tri.edges,n58_,List.map_nil,List.all_cons,List.all_nil,id,Bool.and_true,n27_,decide_eq_true_eq,e1,e2,e3]
   have k:∀ t:Int,(0≤tn a b c*t↔0≤-t):=fun t=>by
    constructor
    · intro g
      by_cases ht:0<t
      · have:=Int.mul_neg_of_neg_of_pos h ht
        omega
      · omega
    · intro g;exact Int.mul_nonneg_of_nonpos_of_nonpos (by omega) (by omega)
   rw [k,k,k];constructor
   · rintro ⟨h1,h2,h3⟩;exact ⟨h3,h2,h1⟩
   · rintro ⟨h1,h2,h3⟩;exact ⟨h3,h2,h1⟩
 · rw [if_neg h];have hp:0<tn a b c:=by omega
   simp only [Tri.edges,n58_,List.map_nil,List.all_cons,List.all_nil,id,Bool.and_true,n27_,decide_eq_true_eq]
   have k:∀ t:Int,(0≤tn a b c*t↔0≤t):=fun t=>by
    constructor
    · intro g
      by_cases ht:t<0
      · have:=Int.mul_neg_of_pos_of_neg hp ht
        omega
      · omega
    · intro g;exact Int.mul_nonneg (by omega) g
   rw [k,k,k]
theorem Ze1 {e:Pnt×Pnt} {u v w:Pnt} {t:Tri} (ht:t=tri u v w):Zdq e t=true↔tn e.1 e.2 u≤0∧tn e.1 e.2 v≤0∧tn e.1 e.2 w≤0:=by
 subst ht;unfold Zdq tri;split
 · simp only [Tri.pts,n58_,List.map_nil,List.all_cons,List.all_nil,id,Bool.and_true,n27_,decide_eq_true_eq];constructor
   · rintro ⟨h1,h2,h3⟩;exact ⟨h1,h3,h2⟩
   · rintro ⟨h1,h2,h3⟩;exact ⟨h1,h3,h2⟩
 · simp only [Tri.pts,n58_,List.map_nil,List.all_cons,List.all_nil,id,Bool.and_true,n27_,decide_eq_true_eq]
theorem Zc2 {a b c u v w:Pnt} (hd:tn a b c≠0) (h:sepS a b c u v w):Y9 (tri a b c) (tri u v w)=true:=by
 unfold Y9
 have k:∀ x y:Pnt,bey a b c x y u v w→(tn a b c<0→Zdq (y,x) (tri u v w)=true)∧(¬ tn a b c<0→Zdq (x,y) (tri u v w)=true):=by
  intro x y g;unfold bey tD at g;refine ⟨fun hn=>(Ze1 rfl).mpr ?_,fun hn=>(Ze1 rfl).mpr ?_⟩
  · have kk:∀ q:Pnt,tn a b c*tn x y q≤0→tn y x q≤0:=fun q hq=>by
     rw [Zbp x y q]
     by_cases ht:tn x y q<0
     · have:=Int.mul_pos_of_neg_of_neg hn ht
       omega
     · omega
    exact ⟨kk _ g.1,kk _ g.2.1,kk _ g.2.2⟩
  · have hp:0<tn a b c:=by omega
    have kk:∀ q:Pnt,tn a b c*tn x y q≤0→tn x y q≤0:=fun q hq=>by
     by_cases ht:0<tn x y q
     · have:=Int.mul_pos hp ht
       omega
     · omega
    exact ⟨kk _ g.1,kk _ g.2.1,kk _ g.2.2⟩
 rw [List.any_eq_true];generalize tri u v w=T at k ⊢;unfold tri
 by_cases hn:tn a b c<0
 · rw [if_pos hn]
   rcases h with h|h|h
   · exact ⟨(b,a),by simp [Tri.edges],(k _ _ h).1 hn⟩
   · exact ⟨(c,b),by simp [Tri.edges],(k _ _ h).1 hn⟩
   · exact ⟨(a,c),by simp [Tri.edges],(k _ _ h).1 hn⟩
 · rw [if_neg hn]
   rcases h with h|h|h
   · exact ⟨(a,b),by simp [Tri.edges],(k _ _ h).2 hn⟩
   · exact ⟨(b,c),by simp [Tri.edges],(k _ _ h).2 hn⟩
   · exact ⟨(c,a),by simp [Tri.edges],(k _ _ h).2 hn⟩
structure Aff where
 a:Int
 b:Int
 c:Int
 d:Int
 s:Int
 t:Int
def Aff.at (A:Aff) (p:Pnt):Pnt:=(A.a*p.1+A.b*p.2+A.s,A.c*p.1+A.d*p.2+A.t)
def Aff.det (A:Aff):Int:=A.a*A.d-A.b*A.c
theorem Aff.tn (A:Aff) (p q r:Pnt):L2.tn (A.at p) (A.at q) (A.at r)=A.det*L2.tn p q r:=by
 unfold L2.tn Aff.at Aff.det;dsimp only
 grind
theorem Aff.tD (A:Aff) (a b c x y q:Pnt):L2.tD (A.at a) (A.at b) (A.at c) (A.at x) (A.at y) (A.at q)=A.det*A.det*L2.tD a b c x y q:=by
 unfold L2.tD;rw [A.tn,A.tn]
 grind
theorem Aff.sq {A:Aff} (h:A.det≠0):0<A.det*A.det:=by
 by_cases g:0<A.det
 · exact Int.mul_pos g g
 · exact Int.mul_pos_of_neg_of_neg (by omega) (by omega)
theorem Aff.nn {A:Aff} (h:A.det≠0) (t:Int):0≤A.det*A.det*t↔0≤t:=by
 have hp:=A.sq h;constructor
 · intro g
   by_cases ht:t<0
   · have:=Int.mul_neg_of_pos_of_neg hp ht
     omega
   · omega
 · intro g;exact Int.mul_nonneg (by omega) g
theorem Aff.np {A:Aff} (h:A.det≠0) (t:Int):A.det*A.det*t≤0↔t≤0:=by
 have hp:=A.sq h;constructor
 · intro g
   by_cases ht:0<t
   · have:=Int.mul_pos hp ht
     omega
   · omega
 · intro g
   have:=Int.mul_nonneg (a:=A.det*A.det) (b:=-t) (by omega) (by omega)
   rw [Int.mul_neg] at this;omega
theorem Aff.inS {A:Aff} (h:A.det≠0) {a b c q:Pnt}:L2.inS (A.at a) (A.at b) (A.at c) (A.at q)↔L2.inS a b c q:=by
 unfold L2.inS;rw [A.tD,A.tD,A.tD,A.nn h,A.nn h,A.nn h]
theorem Aff.bey {A:Aff} (h:A.det≠0) {a b c x y u v w:Pnt}:L2.bey (A.at a) (A.at b) (A.at c) (A.at x) (A.at y) (A.at u) (A.at v) (A.at w)↔L2.bey a b c x y u v w:=by
 unfold L2.bey;rw [A.tD,A.tD,A.tD,A.np h,A.np h,A.np h]
theorem Aff.sep {A:Aff} (h:A.det≠0) {a b c u v w:Pnt}:L2.sepS (A.at a) (A.at b) (A.at c) (A.at u) (A.at v) (A.at w)↔L2.sepS a b c u v w:=by
 unfold L2.sepS;rw [A.bey h,A.bey h,A.bey h]
theorem Aff.inj {A:Aff} (h:A.det≠0) {p q:Pnt} (e:A.at p=A.at q):p=q:=by
 unfold Aff.at at e;have e1:=congrArg Prod.fst e;have e2:=congrArg Prod.snd e;dsimp only at e1 e2;unfold Aff.det at h;have f1:(A.a*A.d-A.b*A.c)*(p.1-q.1)=0:=by grind
 have f2:(A.a*A.d-A.b*A.c)*(p.2-q.2)=0:=by grind
 have g1:=(Int.mul_eq_zero.mp f1).resolve_left h;have g2:=(Int.mul_eq_zero.mp f2).resolve_left h;exact Prod.ext (by omega) (by omega)
def Zjp (pts:List Pnt):List Int→Bool
 | [i,j,k]=>decide (0≤i∧i<(pts.length:Int))&&decide (0≤j∧j<(pts.length:Int))&&decide (0≤k∧k<(pts.length:Int))&&decide (i≠j∧i≠k∧j≠k)&&decide (tn (cAt pts i) (cAt pts j) (cAt pts k)≠0) &&
    (List.range pts.length).all fun x=>decide ((x:Int)=i∨(x:Int)=j∨(x:Int)=k)||!decide (inS (cAt pts i) (cAt pts j) (cAt pts k) (cAt pts x))
 | _=>false
def sepB (pts:List Pnt):List Int→List Int→Bool
 | [i,j,k],[u,v,w]=>decide (sepS (cAt pts i) (cAt pts j) (cAt pts k) (cAt pts u) (cAt pts v) (cAt pts w))||decide (sepS (cAt pts u) (cAt pts v) (cAt pts w) (cAt pts i) (cAt pts j) (cAt pts k))
 | _,_=>false
def Zrq (pts:List Pnt) (pcs:List (List Int)):Bool :=
 decide (3≤pts.length∧pts.length≤6)&&decide (1≤pcs.length∧pcs.length≤4)&&pts.all (fun p=>decide (p.1.natAbs≤6∧p.2.natAbs≤6))&&decide pts.Nodup&&pcs.all (Zjp pts) &&
  ((List.range pts.length).all fun k=>pcs.any fun p=>decide ((k:Int)∈p)) &&
  (List.range pcs.length).all fun i=>(List.range pcs.length).all fun j=>decide (i=j)||(sepB pts (pcs.getD i []) (pcs.getD j [])&&(pcs.getD i []).any fun x=>decide (x∉pcs.getD j []))
structure Base (pts:List Pnt) (pcs:List (List Int)):Prop where
 n3:3≤pts.length
 n6:pts.length≤6
 p1:1≤pcs.length
 p4:pcs.length≤4
 bd:∀ p∈pts,p.1.natAbs≤6∧p.2.natAbs≤6
 nd:pts.Nodup
 pc:∀ p∈pcs,Zjp pts p=true
 us:∀ k:Nat,k<pts.length→∃ p∈pcs,(k:Int)∈p
 sep:∀ i j:Nat,i<pcs.length→j<pcs.length→i≠j→sepB pts (pcs.getD i []) (pcs.getD j [])=true∧∃ x∈pcs.getD i [],x∉pcs.getD j []
theorem Zgq {pts:List Pnt} {pcs:List (List Int)} (h:Zrq pts pcs=true):Base pts pcs:=by
 unfold Zrq at h;simp only [n27_,decide_eq_true_eq,n33_,List.any_eq_true,n35_,Bool.or_eq_true] at h;obtain ⟨⟨⟨⟨⟨⟨⟨h1,h2⟩,h3,h4⟩,h5⟩,h6⟩,h7⟩,h8⟩,h9⟩:=h;exact ⟨h1,h2,h3,h4,h5,h6,h7,h8,fun i j hi hj ne=>(h9 i hi j hj).resolve_left ne⟩
structure CoOrd (n:Nat) (o:List Int):Prop where
 len:o.length=n
 bd:∀ j:Nat,j<n→0≤o.getD j 0∧o.getD j 0<n
 inj:∀ i j:Nat,i<n→j<n→o.getD i 0=o.getD j 0→i=j
 sur:∀ k:Nat,k<n→∃ j:Nat,j<n∧o.getD j 0=k
theorem Zs4 {n:Nat} {o:List Int} (h:o.Perm ((List.range n).map fun i:Nat=>(i:Int))):CoOrd n o:=by
 have hl:o.length=n:=by rw [h.length_eq];simp
 have nd:o.Nodup:=h.symm.nodup (List.Pairwise.map _ (fun a b ne e=>ne (Int.ofNat.inj e)) List.nodup_range);have g:∀ j:Nat,(hj:j<n)→o.getD j 0=o[j]'(by omega):=fun j hj=>by rw [n3_,n1_ (by omega)];rfl
 refine ⟨hl,fun j hj=>?_,fun i j hi hj e=>?_,fun k hk=>?_⟩
 · rw [g j hj]
   have:o[j]'(by omega)∈(List.range n).map fun i:Nat=>(i:Int):=h.mem_iff.mp (n39_ _)
   obtain ⟨k,hk,e⟩:=n42_.mp this
   have:=n35_.mp hk
   omega
 · rw [g i hi,g j hj] at e;exact (List.getElem_inj nd).mp e
 · have:(k:Int)∈o:=h.mem_iff.mpr (n42_.mpr ⟨k,n35_.mpr hk,rfl⟩)
   obtain ⟨j,hj,e⟩:=n40_ this;exact ⟨j,by omega,by rw [g j (by omega)];exact e⟩
def oAt (o:List Int) (i:Int):Int:=o.getD i.toNat 0
theorem Zp0 {pts:List Pnt} {p:List Int} (h:Zjp pts p=true):∃ i j k,p=[i,j,k]∧(0≤i∧i<(pts.length:Int))∧(0≤j∧j<(pts.length:Int))∧(0≤k∧k<(pts.length:Int))∧(i≠j∧i≠k∧j≠k)∧tn (cAt pts i) (cAt pts j) (cAt pts k)≠0 ∧
 ∀ x:Nat,x<pts.length→(x:Int)∉p→¬ inS (cAt pts i) (cAt pts j) (cAt pts k) (cAt pts x):=by
 unfold Zjp at h;split at h
 · rename_i i j k
   simp only [n27_,decide_eq_true_eq,n33_,n35_,Bool.or_eq_true,Bool.not_eq_true',decide_eq_false_iff_not] at h;obtain ⟨⟨⟨⟨⟨h1,h2⟩,h3⟩,h4⟩,h5⟩,h6⟩:=h;refine ⟨i,j,k,rfl,h1,h2,h3,h4,h5,fun x hx nm=>(h6 x hx).resolve_left fun z=>nm ?_⟩
   simpa using z
 · cases h
theorem Zmi {n:Nat} (l:List Int) (hb:∀ x∈l,0≤x∧x<n) (hs:∀ k:Nat,k<n→(k:Int)∈l):cntS l=n:=by
 have key:∀ (l:List Int),(∀ x∈l,0≤x∧x<n)→∀ q:(Int→Bool)×Nat,q.2=(List.range n).countP (fun k:Nat=>q.1 k)→(l.foldl Zbf q).2=(List.range n).countP (fun k:Nat=>(l.foldl Zbf q).1 k)∧∀ x,(l.foldl Zbf q).1 x=(q.1 x||decide (x∈l)):=by
  intro l
  induction l with
  | nil=>intro _ q h;exact ⟨h,fun x=>by simp⟩
  | cons y l ih =>
    intro hb q h;rw [List.foldl_cons];have hy:=hb y n34_
    have step:(Zbf q y).2=(List.range n).countP (fun k:Nat=>(Zbf q y).1 k):=by
     unfold Zbf;dsimp only
     by_cases g:q.1 y=true
     · rw [if_pos g,h];refine congrArg (fun f=>List.countP f (List.range n)) (funext fun k=>?_)
       by_cases e:(k:Int)=y
       · rw [e,g];rfl
       · simp [e]
     · rw [if_neg g,h];have g':q.1 y=false:=by simpa using g
       obtain ⟨m,rfl⟩:∃ m:Nat,y=m:=⟨y.toNat,by omega⟩;have hm:m<n:=by omega
       have:∀ r:Nat,(List.range r).countP (fun k:Nat=>q.1 k||decide ((k:Int)=(m:Int)))=(List.range r).countP (fun k:Nat=>q.1 k)+(if m<r then 1 else 0):=by
        intro r
        induction r with
        | zero=>rfl
        | succ r ihr =>
          rw [List.range_succ,List.countP_append,List.countP_append,ihr];simp only [List.countP_singleton]
          by_cases e:r=m
          · subst e;rw [g']
            simp
          · have e2:¬ (r:Int)=(m:Int):=by omega
            simp only [e2,decide_false,Bool.or_false];have e3:(m<r+1)↔(m<r):=by omega
            simp only [e3];omega
       rw [this n,if_pos hm]
    obtain ⟨i1,i2⟩:=ih (fun x hx=>hb x (n18_ _ hx)) (Zbf q y) step;refine ⟨i1,fun x=>?_⟩;rw [i2];unfold Zbf;dsimp only
    by_cases e:x=y
    · subst e;simp
    · simp [e]
 obtain ⟨k1,k2⟩:=key l hb (fun _=>false,0) (by simp);unfold cntS;rw [k1]
 have:(List.range n).countP (fun k:Nat=>(l.foldl Zbf (fun _=>false,0)).1 k)=(List.range n).length:=by
  rw [List.countP_eq_length];intro k hk;rw [k2];simp [hs k (n35_.mp hk)]
 rw [this,List.length_range]
structure Small (A:Aff):Prop where
 a:A.a.natAbs≤3
 b:A.b.natAbs≤3
 c:A.c.natAbs≤3
 d:A.d.natAbs≤3
 s:A.s.natAbs≤20
 t:A.t.natAbs≤20
theorem Zq1 {A:Aff} (S:Small A) {p:Pnt} (h:p.1.natAbs≤6∧p.2.natAbs≤6):near (A.at p):=by
 have h1:(A.a*p.1).natAbs≤3*6:=by rw [n64_];exact n53_ S.a h.1
 have h2:(A.b*p.2).natAbs≤3*6:=by rw [n64_];exact n53_ S.b h.2
 have h3:(A.c*p.1).natAbs≤3*6:=by rw [n64_];exact n53_ S.c h.1
 have h4:(A.d*p.2).natAbs≤3*6:=by rw [n64_];exact n53_ S.d h.2
 have h5:=S.s;have h6:=S.t;unfold near Aff.at;dsimp only;omega
structure Drawn (pts:List Pnt) (pcs:List (List Int)) (A:Aff) (o:List Int) (cs:List Pnt) (kl:List (List Int)) (q:List Nat):Prop where
 base:Base pts pcs
 det:A.det≠0
 small:Small A
 ord:CoOrd pts.length o
 len:cs.length=pts.length
 at_:∀ j:Nat,j<pts.length→cs[(o.getD j 0).toNat]? = some (A.at (pts.getD j (0,0)))
 klen:kl.length=pcs.length
 key:∀ i:Nat,i<pcs.length→(kl.getD i []).Perm ((pcs.getD i []).map (oAt o))∧(kl.getD i []).Pairwise (·≤·)
 perm:q.Perm (List.range pcs.length)
section
variable {pts:List Pnt} {pcs:List (List Int)} {A:Aff} {o:List Int} {cs:List Pnt} {kl:List (List Int)} {q:List Nat}
theorem Drawn.corner (D:Drawn pts pcs A o cs kl q) {i:Int} (h:0≤i∧i<pts.length):cAt cs (oAt o i)=A.at (cAt pts i):=by
 obtain ⟨n,rfl⟩:∃ n:Nat,i=n:=⟨i.toNat,by omega⟩
 have:=D.at_ n (by omega)
 unfold cAt oAt;rw [show ((n:Int)).toNat=n from rfl,n3_ (i:=(o.getD n 0).toNat),this];rfl
theorem Drawn.piece (D:Drawn pts pcs A o cs kl q) {n:Nat} (hn:n<pcs.length):∃ i j k x y z,pcs.getD n []=[i,j,k]∧kl.getD n []=[x,y,z]∧[x,y,z].Perm [oAt o i,oAt o j,oAt o k]∧(x<y∧y<z)∧(0≤i∧i<(pts.length:Int))∧(0≤j∧j<(pts.length:Int))∧(0≤k∧k<(pts.length:Int))∧tn (cAt pts i) (cAt pts j) (cAt pts k)≠0 ∧
 ∀ x:Nat,x<pts.length→(x:Int)∉[i,j,k]→¬ inS (cAt pts i) (cAt pts j) (cAt pts k) (cAt pts x):=by
 have hm:pcs.getD n []∈pcs:=by rw [n3_,n1_ hn];exact n39_ hn
 obtain ⟨i,j,k,e,hi,hj,hk,⟨n1,n2,n3⟩,hd,hs⟩:=Zp0 (D.base.pc _ hm);obtain ⟨pm,so⟩:=D.key n hn;rw [e] at pm hs;have l3:(kl.getD n []).length=3:=by rw [pm.length_eq];rfl
 generalize hr:kl.getD n []=r at *
 match r,l3 with
 | [x,y,z],_ =>
   have io:∀ {a b:Int},(0≤a∧a<(pts.length:Int))→(0≤b∧b<(pts.length:Int))→a≠b→oAt o a≠oAt o b:=fun {a b} ha hb ne z=>ne (by
    have:=D.ord.inj a.toNat b.toNat (by omega) (by omega) z
    omega)
   have nd:[x,y,z].Nodup:=pm.symm.nodup (by simp [io hi hj n1,io hi hk n2,io hj hk n3]);simp only [List.nodup_cons,n14_,n17_,or_false,not_or,List.pairwise_cons] at nd so;have s1:=so.1 y (by simp);have s2:=so.2.1 z (by simp);exact ⟨i,j,k,x,y,z,e,rfl,pm,⟨by omega,by omega⟩,hi,hj,hk,hd,hs⟩
theorem Drawn.knd (D:Drawn pts pcs A o cs kl q):kl.Nodup:=by
 rw [List.nodup_iff_pairwise_ne,List.pairwise_iff_getElem];intro i j hi hj lt e;rw [D.klen] at hi hj;obtain ⟨_,x,hx,nx⟩:=D.base.sep i j hi hj (by omega);have g:∀ n,(h:n<pcs.length)→kl.getD n []=kl[n]'(by rw [D.klen];exact h):=fun n h=>by rw [n3_,n1_ (by rw [D.klen];exact h)];rfl
 have m1:oAt o x∈kl.getD i []:=(D.key i hi).1.mem_iff.mpr (n42_.mpr ⟨x,hx,rfl⟩);rw [g i hi,e,← g j hj] at m1;obtain ⟨y,hy,ey⟩:=n42_.mp ((D.key j hj).1.mem_iff.mp m1)
 have bdm:∀ n,n<pcs.length→∀ x∈pcs.getD n [],0≤x∧x<(pts.length:Int):=fun n hn x hx=>by
  obtain ⟨i,j,k,_,_,_,e,_,_,_,hi,hj,hk,_⟩:=D.piece hn;rw [e] at hx;simp only [n14_,n17_,or_false] at hx
  rcases hx with rfl|rfl|rfl<;>assumption
 have b1:=bdm i hi x hx;have b2:=bdm j hj y hy
 have:=D.ord.inj y.toNat x.toNat (by omega) (by omega) ey
 have:x=y:=by omega
 exact nx (this ▸ hy)
theorem Drawn.ok (D:Drawn pts pcs A o cs kl q) {ts:List Int} {l m:Int} (rise:(q.map fun i=>kl.getD i []).Pairwise fun a b=>HT.lexLt a b=true) (tl:ts.length=pcs.length) (t9:∀ t∈ts,1≤t∧t≤9) (l9:0≤l∧l≤9) (m9:1≤m∧m≤9) :
 PlOk ⟨cs,q.map fun i=>kl.getD i [],ts,l,m⟩:=by
 have n3:=D.base.n3;have n6:=D.base.n6;have p1:=D.base.p1;have p4:=D.base.p4;have hl:=D.len;have qlen:q.length=pcs.length:=by rw [D.perm.length_eq,List.length_range]
 have qlt:∀ i∈q,i<pcs.length:=fun i hi=>n35_.mp (D.perm.mem_iff.mp hi);have qnd:q.Nodup:=D.perm.symm.nodup List.nodup_range
 have whence:∀ k:Nat,k<cs.length→∃ j:Nat,j<pts.length∧o.getD j 0=k∧cs[k]? = some (A.at (pts.getD j (0,0))):=fun k hk=>by
  obtain ⟨j,hj,e⟩:=D.ord.sur k (by omega)
  have:=D.at_ j hj
  rw [e] at this;exact ⟨j,hj,e,this⟩
 have ptm:∀ j:Nat,j<pts.length→pts.getD j (0,0)∈pts:=fun j hj=>by rw [n3_,n1_ hj];exact n39_ hj
 have pieceOk:∀ n,n<pcs.length→PieceOk cs (kl.getD n []):=fun n hn=>by
  obtain ⟨i,j,k,x,y,z,e,e2,pm,lt,hi,hj,hk,hd,hs⟩:=D.piece hn;rw [e2]
  have bo:∀ a∈[oAt o i,oAt o j,oAt o k],0≤a∧a≤(cs.length:Int)-1:=fun a ha=>by
   simp only [n14_,n17_,or_false] at ha;have b1:=D.ord.bd i.toNat (by omega);have b2:=D.ord.bd j.toNat (by omega);have b3:=D.ord.bd k.toNat (by omega);unfold oAt at ha
   rcases ha with rfl|rfl|rfl<;>omega
  refine ⟨rfl,fun a ha=>bo a (pm.mem_iff.mp ha),lt,?_⟩;refine Zou pm (fun x y z=>tn (cAt cs x) (cAt cs y) (cAt cs z)≠0) (fun a b c h=>by rw [Zpx];exact h) (fun a b c h=>by rw [Zbp];omega) ?_;rw [D.corner hi,D.corner hj,D.corner hk,A.tn];exact Int.mul_ne_zero D.det hd
 have strange:∀ n,n<pcs.length→∀ j:Nat,j<cs.length→(j:Int)∉kl.getD n []→Zca (cs.getD j (0,0)) (trOf cs (kl.getD n []))=false:=fun n hn jj hjj nm=>by
  have ok:=pieceOk n hn;obtain ⟨i,j,k,x,y,z,e,e2,pm,lt,hi,hj,hk,hd,hs⟩:=D.piece hn;rw [e2] at nm ok ⊢;have hne:=ok.d;refine Bool.eq_false_iff.mpr fun h=>?_;have h2:inS (cAt cs x) (cAt cs y) (cAt cs z) (cs.getD jj (0,0)):=(Zlj hne).mp h;have h3:inS (cAt cs (oAt o i)) (cAt cs (oAt o j)) (cAt cs (oAt o k)) (cs.getD jj (0,0)):=Zou pm.symm (fun x y z=>inS (cAt cs x) (cAt cs y) (cAt cs z) (cs.getD jj (0,0))) (fun a b c h=>Zqq h) (fun a b c h=>Zs3 h) h2;obtain ⟨j0,hj0,ej,ec⟩:=whence jj hjj;rw [D.corner hi,D.corner hj,D.corner hk,n3_,ec] at h3;have h4:=(A.inS D.det).mp h3;refine hs j0 hj0 (fun z=>nm (pm.mem_iff.mpr ?_)) (by unfold cAt at h4 ⊢;exact h4)
  have:oAt o (j0:Int)=jj:=ej
  rw [← this];have m2:oAt o (j0:Int)∈[i,j,k].map (oAt o):=n42_.mpr ⟨_,z,rfl⟩;exact m2
 refine ⟨by show 3≤cs.length;omega,by show cs.length≤30;omega,fun p hp=>?_,?_,by simp;omega,by simp;omega,fun p hp=>?_,fun i hi=>?_,by simp [tl,qlen],t9,l9,m9,?_,fun p hp=>?_,fun i j hij hj=>?_⟩
 · obtain ⟨k,hk,e⟩:=n40_ (show p∈cs from hp);obtain ⟨j,hj,_,ec⟩:=whence k hk;rw [n1_ hk,e] at ec;cases ec
   exact Zq1 D.small (D.base.bd _ (ptm j hj))
 · show cs.Nodup
   rw [List.nodup_iff_pairwise_ne,List.pairwise_iff_getElem];intro k1 k2 h1 h2 lt e;obtain ⟨j1,hj1,e1,c1⟩:=whence k1 h1;obtain ⟨j2,hj2,e2,c2⟩:=whence k2 h2;rw [n1_ h1,e] at c1;rw [n1_ h2] at c2;rw [c1] at c2
   have:=A.inj D.det (Option.some.inj c2)
   have gd:∀ j,(h:j<pts.length)→pts.getD j (0,0)=pts[j]:=fun j h=>by rw [n3_,n1_ h];rfl
   rw [gd j1 hj1,gd j2 hj2] at this;have e3:=(List.getElem_inj D.base.nd).mp this;subst e3;omega
 · obtain ⟨n,hn,rfl⟩:=n42_.mp (show p∈q.map _ from hp);exact pieceOk n (qlt n hn)
 · have hi':i+1<(q.map fun i=>kl.getD i []).length:=hi
   have:=List.pairwise_iff_getElem.mp rise i (i+1) (by omega) hi' (by omega)
   show HT.lexLt ((q.map fun i=>kl.getD i []).getD i []) ((q.map fun i=>kl.getD i []).getD (i+1) [])=true
   rw [n3_,n3_,n1_ (by omega),n1_ hi'];exact this
 · show cntS (q.map fun i=>kl.getD i []).flatten=cs.length
   refine Zmi _ (fun x hx=>?_) (fun k hk=>?_)
   · obtain ⟨r,hr,hxr⟩:=List.mem_flatten.mp hx;obtain ⟨n,hn,rfl⟩:=n42_.mp hr
     have:=(pieceOk n (qlt n hn)).bd x hxr
     omega
   · obtain ⟨j,hj,e⟩:=D.ord.sur k (by omega);obtain ⟨p,hp,hjp⟩:=D.base.us j hj;obtain ⟨n,hn,rfl⟩:=n40_ hp;have g:pcs.getD n []=pcs[n]:=by rw [n3_,n1_ hn];rfl
     refine List.mem_flatten.mpr ⟨kl.getD n [],n42_.mpr ⟨n,D.perm.mem_iff.mpr (n35_.mpr hn),rfl⟩,(D.key n hn).1.mem_iff.mpr ?_⟩;rw [g,← e];exact n42_.mpr ⟨_,hjp,rfl⟩
 · obtain ⟨n,hn,rfl⟩:=n42_.mp (show p∈q.map _ from hp);exact strange n (qlt n hn)
 · have hj':j<(q.map fun i=>kl.getD i []).length:=hj;have hjq:j<q.length:=by simpa using hj'
   have hiq:i<q.length:=by omega
   show apart (trOf cs ((q.map fun i=>kl.getD i []).getD j [])) (trOf cs ((q.map fun i=>kl.getD i []).getD i []))=true
   have gq:∀ i,(h:i<q.length)→(q.map fun i=>kl.getD i []).getD i []=kl.getD q[i] []:=fun i h=>by
    rw [n3_,n11_,n1_ h];rfl
   rw [gq j hjq,gq i hiq];have h1:=qlt q[j] (n39_ _);have h2:=qlt q[i] (n39_ _);have ne:q[j]≠q[i]:=fun z=>by have:=(List.getElem_inj qnd).mp z;omega
   generalize q[j]=n1 at *;generalize q[i]=n2 at *;have sb:=(D.base.sep n1 n2 h1 h2 ne).1;have ok1:=pieceOk n1 h1;have ok2:=pieceOk n2 h2;obtain ⟨i1,j1,k1,x1,y1,z1,e1,f1,pm1,lt1,hi1,hj1,hk1,hd1,hs1⟩:=D.piece h1;obtain ⟨i2,j2,k2,x2,y2,z2,e2,f2,pm2,lt2,hi2,hj2,hk2,hd2,hs2⟩:=D.piece h2;rw [f1] at ok1 ⊢;rw [f2] at ok2 ⊢;rw [e1,e2] at sb;unfold sepB at sb;simp only [Bool.or_eq_true,decide_eq_true_eq] at sb
   have tr:∀ {i1 j1 k1 x1 y1 z1 i2 j2 k2 x2 y2 z2:Int},[x1,y1,z1].Perm [oAt o i1,oAt o j1,oAt o k1]→[x2,y2,z2].Perm [oAt o i2,oAt o j2,oAt o k2]→(0≤i1∧i1<(pts.length:Int))→(0≤j1∧j1<(pts.length:Int))→(0≤k1∧k1<(pts.length:Int))→(0≤i2∧i2<(pts.length:Int))→(0≤j2∧j2<(pts.length:Int))→(0≤k2∧k2<(pts.length:Int)) →
    sepS (cAt pts i1) (cAt pts j1) (cAt pts k1) (cAt pts i2) (cAt pts j2) (cAt pts k2)→sepS (cAt cs x1) (cAt cs y1) (cAt cs z1) (cAt cs x2) (cAt cs y2) (cAt cs z2):=by
    intro i1 j1 k1 x1 y1 z1 i2 j2 k2 x2 y2 z2 pm1 pm2 a1 a2 a3 b1 b2 b3 h;refine Zou pm1 (fun x y z=>sepS (cAt cs x) (cAt cs y) (cAt cs z) (cAt cs x2) (cAt cs y2) (cAt cs z2)) (fun a b c h=>Zqm h) (fun a b c h=>Zsb h) ?_;refine Zou pm2 (fun x y z=>sepS (cAt cs (oAt o i1)) (cAt cs (oAt o j1)) (cAt cs (oAt o k1)) (cAt cs x) (cAt cs y) (cAt cs z)) (fun a b c h=>Zoc h) (fun a b c h=>Zql h) ?_;rw [D.corner a1,D.corner a2,D.corner a3,D.corner b1,D.corner b2,D.corner b3];exact (A.sep D.det).mpr h
   unfold apart;rw [Bool.or_eq_true]
   rcases sb with sb|sb
   · exact .inl (Zc2 ok1.d (tr pm1 pm2 hi1 hj1 hk1 hi2 hj2 hk2 sb))
   · exact .inr (Zc2 ok2.d (tr pm2 pm1 hi2 hj2 hk2 hi1 hj1 hk1 sb))
end
def Zd5:List (List Pnt×List (List Int)) :=
 [([(0,0),(2,0),(0,3)],[[0,1,2]]),
  ([(0,0),(3,0),(3,2),(0,2)],[[0,1,2],[0,2,3]]),
  ([(0,0),(2,1),(2,-1),(-2,1),(-3,-1)],[[0,1,2],[0,3,4]]),
  ([(0,0),(2,0),(0,2),(4,0),(6,1),(4,3)],[[0,1,2],[3,4,5]]),
  ([(0,0),(6,0),(0,6),(2,1)],[[0,1,3],[0,2,3],[1,2,3]]),
  ([(0,0),(0,2),(2,0),(3,2),(5,0)],[[0,1,2],[1,2,3],[2,3,4]]),
  ([(0,0),(1,2),(2,0),(3,2),(4,0),(5,3)],[[0,1,2],[2,3,4],[3,4,5]]),
  ([(0,0),(2,0),(0,3),(-2,0),(0,-1)],[[0,1,2],[0,2,3],[0,3,4],[0,1,4]])]
theorem Zl4:Zd5.all (fun s=>Zrq s.1 s.2)=true:=by decide +kernel
theorem Zla {s:List Pnt×List (List Int)} (h:s∈Zd5):Base s.1 s.2:=Zgq (n33_.mp Zl4 s h)
theorem PE.weak {X:Cx} {e:Expr} {t t':TE} (h:PE X e t) (w:∀ σ H Q,t' σ H Q→t σ H Q):PE X e t':=fun pins s σ H Q I q=>h pins s σ H Q I (w σ H Q q)
theorem PA.weak {X:Cx} {es:List Expr} {t t':TA} (h:PA X es t) (w:∀ σ H Q,t' σ H Q→t σ H Q):PA X es t':=fun pos pins s σ H Q I q=>h pos pins s σ H Q I (w σ H Q q)
def Zqj:Expr→Option Int
 | .Constant (.int i) _ _=>some i
 | .UnaryOp .USub (.Constant (.int i) _ _) _=>some (-i)
 | _=>none
theorem Zrs {X:Cx} {e:Expr} {i:Int} (h:Zqj e=some i):PE X e (fun _ H Q=>Q (.int i) H)∧∀ es env,starEach (e :: es) env=(false,eval e env) :: starEach es env:=by
 unfold Zqj at h;split at h
 · cases h;exact ⟨Zd,fun _ _=>rfl⟩
 · cases h
   exact ⟨PE.weak (Zk8 Ze4 Zd) fun σ H Q q=>⟨_,rfl,q⟩,fun _ _=>rfl⟩
 · cases h
def Zjv:List Expr→Option (List Int)
 | []=>some []
 | e :: es=>match Zqj e,Zjv es with
   | some i,some is=>some (i :: is)
   | _,_=>none
theorem Zj6 {X:Cx}:∀ (es:List Expr) (is:List Int),Zjv es=some is→PA X es (fun _ H Q=>Q (is.map V.int) H)
 | [],is,h=>by
   cases h
   exact PA.weak Zb fun σ H Q q=>q
 | e :: es,is,h=>by
   unfold Zjv at h;split at h
   · rename_i i js h1 h2
     cases h
     obtain ⟨p1,p2⟩:=Zrs (X:=X) h1;exact PA.weak (Za p1 (Zj6 es js h2) (p2 _ _)) fun σ H Q q=>q
   · cases h
def Zqg:Expr→Option (List Int)
 | .Tuple es _ _=>Zjv es
 | _=>none
theorem Zrd {X:Cx} {e:Expr} {is:List Int} (h:Zqg e=some is) (hz:is.length≤1000):PE X e (fun _ H Q=>∀ H' v,Same H H'→IsI H' v is→Q v H')∧∀ es env,starEach (e :: es) env=(false,eval e env) :: starEach es env:=by
 unfold Zqg at h;split at h
 · exact ⟨PE.weak (Zu (Zj6 _ _ h)) fun σ H Q q=>⟨by rw [n23_,sizeLine_eq];omega,fun p np=>q _ _ (Same.new np) ⟨p,rfl,Zc⟩⟩,fun _ _=>rfl⟩
 · cases h
def Zkg:List Expr→Option (List (List Int))
 | []=>some []
 | e :: es=>match Zqg e,Zkg es with
   | some i,some is=>if i.length≤1000 then some (i :: is) else none
   | _,_=>none
theorem Zjs {X:Cx}:∀ (es:List Expr) (is:List (List Int)),Zkg es=some is→PA X es (fun _ H Q=>∀ H' vs,Same H H'→Al (IsI H') vs is→Q vs H')
 | [],is,h=>by
   cases h
   exact PA.weak Zb fun σ H Q q=>q _ _ (Same.refl _) .nil
 | e :: es,is,h=>by
   unfold Zkg at h;split at h
   · rename_i i js h1 h2
     split at h
     · rename_i hz
       cases h
       obtain ⟨p1,p2⟩:=Zrd (X:=X) h1 hz;exact PA.weak (Za p1 (Zjs es js h2) (p2 _ _)) fun σ H Q q H1 v s1 i1 H2 vs s2 i2=>q _ _ (s1.trans s2) (.cons (i1.tk s2.tk) i2)
     · cases h
   · cases h
def Zoi:Expr→Option (List (List Int))
 | .Tuple es _ _=>match Zkg es with
   | some is=>if is.length≤1000 then some is else none
   | none=>none
 | _=>none
theorem Zl7 {X:Cx} {e:Expr} {is:List (List Int)} (h:Zoi e=some is):PE X e (fun _ H Q=>∀ H' v,Same H H'→IsPs H' v is→Q v H')∧∀ es env,starEach (e :: es) env=(false,eval e env) :: starEach es env:=by
 unfold Zoi at h;split at h
 · split at h
   · rename_i js h1
     split at h
     · rename_i hz
       cases h
       refine ⟨PE.weak (Zu (Zjs _ _ h1)) fun σ H Q q H1 vs s1 a1=>⟨by rw [a1.1,sizeLine_eq];omega,fun p np=>?_⟩,fun _ _=>rfl⟩;have s2:Same H1 (upd H1 p (.tup vs)):=Same.new np;exact q _ _ (s1.trans s2) ⟨p,vs,rfl,Zc,a1.imp fun v x r=>r.tk s2.tk⟩
     · cases h
   · cases h
 · cases h
def IsSh (H:Hp) (v:V) (s:List Pnt×List (List Int)):Prop:=∃ a c p,v=.ref a∧H a=some (.tup [c,p])∧IsCs H c s.1∧IsPs H p s.2
theorem IsSh.tk {H H':Hp} {v:V} {s:List Pnt×List (List Int)} (t:Tk H H') (h:IsSh H v s):IsSh H' v s:=let ⟨a,c,p,e,h1,h2,h3⟩:=h;⟨a,c,p,e,t _ _ h1,h2.tk t,h3.tk t⟩
def shOf:Expr→Option (List (List Int)×List (List Int))
 | .Tuple [c,p] _ _=>match Zoi c,Zoi p with
   | some a,some b=>some (a,b)
   | _,_=>none
 | _=>none
theorem Zo0 {H:Hp} {v:V} {cs:List Pnt} (h:IsPs H v (cs.map fun p=>[p.1,p.2])):IsCs H v cs:=by
 obtain ⟨a,vs,e,q,al⟩:=h;refine ⟨a,vs,e,q,by rw [al.1,n23_],fun i w p e1 e2=>?_⟩;exact al.2 i w _ e1 (by rw [n11_,e2];rfl)
theorem X6 {X:Cx} {e:Expr} {s:List Pnt×List (List Int)} (h:shOf e=some (s.1.map (fun p=>[p.1,p.2]),s.2)):PE X e (fun _ H Q=>∀ H' v,Same H H'→IsSh H' v s→Q v H'):=by
 unfold shOf at h;split at h
 · split at h
   · rename_i h1 h2
     cases h
     obtain ⟨p1,s1⟩:=Zl7 (X:=X) h1;obtain ⟨p2,s2⟩:=Zl7 (X:=X) h2;refine PE.weak (Zu (Za p1 (Za p2 Zb (s2 _ _)) (s1 _ _))) fun σ H Q q H1 v s1 i1 H2 w s2 i2=>⟨z2_,fun p np=>?_⟩;have s3:Same H2 (upd H2 p (.tup [v,w])):=Same.new np;exact q _ _ (s1.trans (s2.trans s3)) ⟨p,v,w,rfl,Zc,Zo0 (i1.tk (s2.trans s3).tk),i2.tk s3.tk⟩
   · cases h
 · cases h
theorem Zrv {c:TT} {ta tb rest:TS} {D:Ends} {σ:St} {H:Hp} (R:St→Hp→Prop) (h:c σ H fun k H1=>if k=true then ta { D with nx:=R } σ H1 else tb { D with nx:=R } σ H1)
 (mc:∀ Q Q':Bool→Hp→Prop,(∀ b H1,Q b H1→Q' b H1)→c σ H Q→c σ H Q') (ma:(∀ σ H,R σ H→rest D σ H)→∀ H1,ta { D with nx:=R } σ H1→ta { D with nx:=rest D } σ H1) (mb:(∀ σ H,R σ H→rest D σ H)→∀ H1,tb { D with nx:=R } σ H1→tb { D with nx:=rest D } σ H1)
 (key:∀ σ H,R σ H→rest D σ H):tSeq (tIfS c ta tb) rest D σ H:=mc _ _ (fun b H1 q=>by
 cases b with
 | true=>exact ma key H1 q
 | false=>exact mb key H1 q) h
open AutoSeq1 (wpAny_loadPart')
theorem Zaw:fillsNumberSlot (.type "tuple") "mul" = pure false :=
 PySem.fillsNumberSlot_seq (id := "tuple.__mul__") (r:=some (.builtin "tuple.__rmul__")) F.slot_tuple_mul.lookup (by decide +kernel) F.slot_tuple_rmul.lookup (by decide +kernel)
theorem Zct:seqRepeat? (.type "tuple")=pure (some (.builtin "tuple.__mul__")):=by
 unfold seqRepeat?;rw [PySem.seqSlot_of (T := "tuple") (name := "__mul__") (id := "tuple.__mul__") F.slot_tuple_mul.lookup (by decide +kernel),PySem.seqSlot_of (T := "tuple") (name := "__rmul__") (id := "tuple.__rmul__") F.slot_tuple_rmul.lookup (by decide +kernel)];rfl
theorem Zbh (a:Int) (t:Tok) (l:Addr) (items:Array Value) (n:Nat) (dd:Option Addr) (sl:Array (Option Value)) :
 Meets (Builtin.«int.__rmul__» ⟨[.int a t,.ref l],[]⟩) (fun _ R s=>s.heap.get? l=some { cls:=.type "tuple",dict:=dd,data:=.seq items n,slots:=sl }∧R (.ok (.ret Value.notImplemented)) s) :=
 .of_wp fun prog w A R s h=>by obtain ⟨hp,g,d,tk,os⟩:=s;obtain ⟨hl,h⟩:=h;wp_walk;exact ⟨_,rfl,h⟩
theorem Zk3 (l:Addr) (items:Array Value) (n:Nat) (dd:Option Addr) (sl:Array (Option Value)) (x:Int) (u:Tok) (h2:2≤x) (h3:x≤1000) (he:items.isEmpty=false) (hz:items.size≤1000) :
 Meets (Builtin.«tuple.__mul__» ⟨[.ref l,.int x u],[]⟩) (fun _ R s=>s.heap.get? l=some { cls:=.type "tuple",dict:=dd,data:=.seq items n,slots:=sl }∧R (.ok (.ret (Value.ref s.z))) { s with heap:=s.heap.push { cls:=Value.type "tuple",data:=Data.seq ((List.replicate x.toNat items).foldl (·++·) #[]) },toks:=s.toks }) :=
 .of_wp fun prog w A R s h=>by
  obtain ⟨hp,g,d,tk,os⟩:=s;obtain ⟨hl,h⟩:=h;have f1:=AutoSeq1.idx_int;have f2:=AutoSeq1.sub_tuple_tuple;have f3:=AutoSeq1.sub_list_list;have f4:=AutoSeq1.sub_tuple_list;have f5:=AutoSeq1.sub_list_tuple
  have hm:((items.size:Nat):Int)*x≤1000*1000:=by
   have h4:((items.size:Nat):Int)≤1000:=by omega
   exact Int.mul_le_mul h4 h3 (by omega) (by omega)
  have hc0:(decide (x < -2^63)||decide (x ≥ 2^63))=false:=by
   rw [n8_ (by omega),n8_ (by omega)];decide
  have hc1:(items.isEmpty||x == 1)=false:=by
   rw [he,beq_false_of_ne (by omega)];decide
  have hc2:(decide (x≤0)||items.isEmpty)=false:=by
   rw [he,n8_ (by omega)];decide
  have hc3:¬ ((items.size:Nat):Int)*x>(2^63-1)/8:=by
   have:(1000*1000:Int)≤(2^63-1)/8:=by decide
   omega
  have sl1:(1000*1000:Nat)≤sizeLine:=by decide
  have hc4:Builtin.Tuple.tupleTooMany (((items.size:Nat):Int)*x)=false:=by
   unfold Builtin.Tuple.tupleTooMany;rw [n8_ (by omega)]
  have hsz:(List.foldl (fun x1 x2=>x1++x2) #[] (List.replicate x.toNat items)).size≤sizeLine:=by
   obtain ⟨its⟩:=items;have f0:=Zb9 its x.toNat [];rw [List.nil_append] at f0;have f1:List.foldl (fun x1 x2=>x1++x2) #[] (List.replicate x.toNat its.toArray)=(List.replicate x.toNat its).flatten.toArray:=f0;rw [f1,n5_,Zi9];have h5:x.toNat≤1000:=by omega
   have h6:its.length≤1000:=by simpa using hz
   exact n32_ (n53_ h5 h6) sl1
  wp_walk using wpAny_loadPart' hl
  refine wpAny_ite_false (by rw [hc0];rfl) ?_
  wp_walk using wpAny_loadPart' hl
  refine wpAny_ite_false (by rw [hc1];rfl) ?_
  wp_walk using wpAny_loadPart' hl
  refine wpAny_ite_false (by rw [hc2];rfl) ?_
  wp_walk using wpAny_loadPart' hl
  refine wpAny_ite_false (n8_ hc3) ?_
  wp_walk using wpAny_loadPart' hl
  first|exact ⟨_,rfl,h⟩|(refine wpAny_ite_false (n8_ (Nat.not_lt.mpr hsz)) ?_;wp_walk;exact ⟨_,rfl,h⟩)
section
variable {X:Cx}
def Zt5:R2:=fun x y H Q=>∃ l k xs,x=.ref l∧y=.int k∧H l=some (.tup xs)∧2≤k∧k≤1000∧xs≠[]∧xs.length≤1000 ∧
 ∀ p H',Same H H'→H' p=some (.tup (List.replicate k.toNat xs).flatten)→Q (.ref p) H'
theorem Zq5:OpR X (binaryOp .Mult) Zt5:=by
 intro pins s σ H x y v u Q I rx ry h;obtain ⟨l,k,xs,rfl,rfl,hH,h2,h3,hne,hz,q⟩:=h;cases rx
 obtain ⟨t,rfl⟩:=ry;obtain ⟨its,r,p,hzz⟩:=I.tuple (SqT.of hH);obtain ⟨⟨cls,dd,data,sl⟩,ho,hc,n,hd⟩:=id p;simp only at hc hd;subst hc hd;have hl:=r.length
 have he:its.toArray.isEmpty=false:=by
  cases its with
  | nil=>exact absurd (List.length_eq_zero_iff.mp hl) hne
  | cons a b=>rfl
 refine wpAny_binaryOp_repeat_ref (T := "tuple") (U := "int") (by decide) ⟨_,ho,rfl⟩ (fun s'=>typeIs_int s' k t) Zaw F.fills_int_mul F.slot_int_rmul Zct F.slot_int_index.lookup
  (call_meets F.slot_int_rmul (typeIs_int s k t) F.entry_int_rmul (F.args_int_rmul_2 _ _) (Zbh k t l its.toArray n dd sl)
    ⟨ho,rfl,⟨_,ho,rfl⟩,call_meets F.slot_tuple_mul ⟨_,ho,rfl⟩ F.entry_tuple_mul (F.args_tuple_mul_2 _ _) (Zk3 l its.toArray n dd sl k t h2 h3 he (by rw [n5_,← hl];exact hz)) ⟨ho,?_⟩⟩)
 have f0:=Zb9 its k.toNat [];rw [List.nil_append] at f0;have f1:List.foldl (fun x1 x2=>x1++x2) #[] (List.replicate k.toNat its.toArray)=(List.replicate k.toNat its).flatten.toArray:=f0;rw [f1]
 have hz2:(List.replicate k.toNat xs).flatten.length≤sizeLine:=by
  rw [Zi9];have sl1:(1000*1000:Nat)≤sizeLine:=by decide
  exact n32_ (n53_ (show k.toNat≤1000 by omega) hz) sl1
 exact ⟨.ref _,_,I.laid (t':=s.toks) (o:=.tup (List.replicate k.toNat xs).flatten) (fun b ob q=>n2_ _ q) (n6_ _) ⟨hz2,_,r.rep k.toNat,IsTup.new _ _⟩,rfl,q _ _ (Same.new I.fresh) Zc⟩
def EqT {α:Type} [DecidableEq α] (X:Cx) (d:Nat) (R:Hp→V→α→Prop):Prop:=∀ (A:Around) (pins:List (Addr×Obj)) (σ:St) (H:Hp) (s:Shared) (v u:V) (a b:Value) (x y:α),A.units+d<cLine→Inv X pins σ H s→R H v x→R H u y→RelV v a→RelV u b→SeqAt.EqAt A s a b (decide (x=y))
theorem Zrm {α:Type} [DecidableEq α] [Inhabited α] (xs ys:List α):((List.range (min xs.length ys.length)).all (fun j=>decide (xs.getD j default=ys.getD j default))&&xs.length == ys.length)=decide (xs=ys):=by
 by_cases h:xs=ys
 · subst h
   simp
 · rw [n8_ h,Bool.and_eq_false_iff]
   by_cases hl:xs.length=ys.length
   · left
     rw [Bool.eq_false_iff];intro z;rw [n33_] at z;apply h
     apply List.ext_getElem hl
     intro i h1 h2
     have:=z i (by simp;omega)
     simpa [h1,h2] using this
   · right
     simpa using hl
theorem Zoh {α:Type} [DecidableEq α] [Inhabited α] {d:Nat} {R:Hp→V→α→Prop} (E:EqT X d R) {A:Around} {pins:List (Addr×Obj)} {σ:St} {H:Hp} {s:Shared} (hu:A.units+d<cLine) (I:Inv X pins σ H s) {vs us:List V} {xs ys:List α} (h1:Al (R H) vs xs) (h2:Al (R H) us ys) {as bs:List Value} (r1:Vals vs as) (r2:Vals us bs) (j:Nat) (z1:j<as.toArray.size) (z2:j<bs.toArray.size):SeqAt.EqAt A s as.toArray[j] bs.toArray[j] (decide (xs.getD j default=ys.getD j default)):=by
 simp only [n5_] at z1 z2;simp only [List.getElem_toArray];have l1:=r1.length;have l2:=r2.length;have g1:vs[j]? = some vs[j]:=n1_ (by omega);have g2:us[j]? = some us[j]:=n1_ (by omega);obtain ⟨a,e1,ra⟩:=r1.get g1;obtain ⟨b,e2,rb⟩:=r2.get g2;obtain ⟨x,ex,rx⟩:=h1.get g1;obtain ⟨y,ey,ry⟩:=h2.get g2;rw [n1_ z1] at e1;rw [n1_ z2] at e2;cases e1
 cases e2
 rw [n3_,n3_,ex,ey];exact E A pins σ H s _ _ _ _ x y hu I rx ry ra rb
def rEqG {α:Type} [DecidableEq α] (R:Hp→V→α→Prop) (neg:Bool):R2:=fun x y H Q=>∃ xs ys:List α,IsTup' R H x xs∧IsTup' R H y ys∧Q (.bl (if neg then !decide (xs=ys) else decide (xs=ys))) H
theorem Zsv {α:Type} [DecidableEq α] [Inhabited α] {d:Nat} {R:Hp→V→α→Prop} (E:EqT X d R) (hu:X.A.units+d+1<cLine):OpR X (compareOp .NotEq) (rEqG R true):=by
 intro pins s σ H x y v u Q I rx ry h;obtain ⟨xs,ys,⟨p,vs,rfl,e1,a1⟩,⟨q,us,rfl,e2,a2⟩,k⟩:=h;cases rx
 cases ry
 obtain ⟨as,q1,p1,_⟩:=I.tuple (SqT.of e1);obtain ⟨bs,q2,p2,_⟩:=I.tuple (SqT.of e2);have l1:=q1.length;have l2:=q2.length;refine SeqAt.RcNeAt.tuples (e:=fun j=>decide (xs.getD j default=ys.getD j default)) p1 p2 (by omega) (fun j z1 z2=>Zoh E (A:=X.A.in1) (by rw [Around.in1_units];omega) I a1 a2 q1 q2 j z1 z2) _ _ _ _ ⟨.bl _,H,I,rfl,?_⟩;rw [n5_,n5_,← l1,← l2,a1.1,a2.1,Zrm];exact k
end
theorem lc_F {k:SK} {K:PySem.W.Frag} {a D:Addr} {vs:List V} {tt:TT} {te:TE} {u0:Option V} {rest:St} {H:Hp} {Q:VK} {α:Type} (R:Hp→V→α→Prop) (hR:∀ H1 H2 v x,Tk H1 H2→R H1 v x→R H2 v x) (f:Nat→Option α) (hz:vs.length≤1000) (hD:H D=none) (ha:k.At H a vs)
 (hs:∀ (i:Nat) (w:V) (H2:Hp) (C:V→Hp→Prop) (N:Hp→Prop),vs[i]? = some w→Same H H2→(∀ y H5 z,Same H2 H5→f i=some z→R H5 y z→C y H5)→(∀ H5,Same H2 H5→f i=none→N H5)→tt (some w :: rest) H2 fun b H5=>if b=true then te (some w :: rest) H5 C else N H5)
 (hd:∀ H2 us,Same H H2→H2 D=some (.lst us)→Al (R H2) us ((List.range vs.length).filterMap f)→Q (.ref D) H2):LcGo (k.Itk K a) (Xn 0) tt te (u0 :: rest) H D Q:=by
 refine Zj2 (n:=vs.length) (fun i σ H2=>Same H H2∧(∃ u,σ=u :: rest)∧∃ us,H2 D=some (.lst us)∧us.length≤i∧Al (R H2) us ((List.range i).filterMap f)) ⟨Same.new hD,⟨_,rfl⟩,[],Zc,n6_ _,.nil⟩ (fun i σ H2 hi p=>Znc (ha.same p.1) hi) (fun σ H2 p=>Zfw (ha.same p.1) (n6_ _)) (fun i x σ2 H2 H3 hi y p=>?_) (fun σ2 H2 p=>?_)
 · obtain ⟨s2,⟨u,rfl⟩,us,e2,l2,a2⟩:=p;obtain ⟨rfl,ex⟩:=Zir (ha.same s2) y
   have rg:(List.range (i+1)).filterMap f=(List.range i).filterMap f++(f i).toList:=by
    rw [List.range_succ,List.filterMap_append];cases h:f i<;>simp [h]
   show tt (some x :: rest) H3 _
   refine hs i x H3 _ _ ex s2 (fun y H5 z s5 ef r=>?_) (fun H5 s5 ef=>?_)
   · have sD:∀ us',Tk H5 (upd H5 D (.lst us')):=fun us'=>Tk.upd_lst (s5 _ _ e2);refine ⟨us,s5 _ _ e2,by rw [sizeLine_eq];omega,_,n9_ (Nat.sub_succ_lt_self _ _ hi) (n6_ _),hi,rfl,fun b o e=>?_,⟨_,rfl⟩,_,Zc,by simp;omega,?_⟩
     · rw [Zs (Zr e hD)];exact s5 _ _ (s2 _ _ e)
     · rw [rg,ef];exact (a2.imp fun v x r=>hR _ _ v x (s5.tk.trans (sD _)) r).snoc (hR _ _ _ _ (sD _) r)
   · refine ⟨_,n9_ (Nat.sub_succ_lt_self _ _ hi) (n6_ _),hi,rfl,s2.trans s5,⟨_,rfl⟩,us,s5 _ _ e2,by omega,?_⟩;rw [rg,ef]
     simpa using a2.imp fun v x r=>hR _ _ v x s5.tk r
 · obtain ⟨s2,⟨u,rfl⟩,us,e2,l2,a2⟩:=p;exact hd H2 us s2 e2 a2
open AutoSeq1 (wpAny_loadPart')
theorem Zlh (l:Addr) (items:Array Value) (n:Nat) (dd:Option Addr) (sl:Array (Option Value)) (x:Int) (u:Tok) (hx:x=1) :
 Meets (Builtin.«tuple.__mul__» ⟨[.ref l,.int x u],[]⟩) (fun _ R s=>s.heap.get? l=some { cls:=.type "tuple",dict:=dd,data:=.seq items n,slots:=sl }∧R (.ok (.ret (Value.ref l))) s) :=
 .of_wp fun prog w A R s h=>by
  obtain ⟨hp,g,d,tk,os⟩:=s;obtain ⟨hl,h⟩:=h;have f1:=AutoSeq1.idx_int;have f2:=AutoSeq1.sub_tuple_tuple;have f3:=AutoSeq1.sub_list_list;have f4:=AutoSeq1.sub_tuple_list;have f5:=AutoSeq1.sub_list_tuple;have c0:(decide (x < -2^63)||decide (x ≥ 2^63))=false:=by rw [hx];decide
  have c1:(items.isEmpty||x == 1)=true:=by rw [hx,Bool.or_eq_true];exact .inr rfl
  wp_walk using wpAny_loadPart' hl
  exact ⟨_,rfl,h⟩
section
variable {X:Cx}
def Zuh:R2:=fun x y H Q=>∃ l k xs,x=.ref l∧y=.int k∧H l=some (.tup xs)∧1≤k∧k≤1000∧xs≠[]∧xs.length≤1000 ∧
 ∀ p H',Same H H'→H' p=some (.tup (List.replicate k.toNat xs).flatten)→Q (.ref p) H'
theorem Zgr:OpR X (binaryOp .Mult) Zuh:=by
 intro pins s σ H x y v u Q I rx ry h;obtain ⟨l,k,xs,rfl,rfl,hH,h1,h3,hne,hz,q⟩:=h
 by_cases h2:2≤k
 · exact Zq5 pins s σ H _ _ v u Q I rx ry ⟨l,k,xs,rfl,rfl,hH,h2,h3,hne,hz,q⟩
 obtain rfl:k=1:=by omega
 cases rx
 obtain ⟨t,rfl⟩:=ry;obtain ⟨its,r,p,hzz⟩:=I.tuple (SqT.of hH);obtain ⟨⟨cls,dd,data,sl⟩,ho,hc,n,hd⟩:=id p;simp only at hc hd;subst hc hd
 refine wpAny_binaryOp_repeat_ref (T := "tuple") (U := "int") (by decide) ⟨_,ho,rfl⟩ (fun s'=>typeIs_int s' 1 t) Zaw F.fills_int_mul F.slot_int_rmul Zct F.slot_int_index.lookup
  (call_meets F.slot_int_rmul (typeIs_int s 1 t) F.entry_int_rmul (F.args_int_rmul_2 _ _) (Zbh 1 t l its.toArray n dd sl)
    ⟨ho,rfl,⟨_,ho,rfl⟩,call_meets F.slot_tuple_mul ⟨_,ho,rfl⟩ F.entry_tuple_mul (F.args_tuple_mul_2 _ _) (Zlh l its.toArray n dd sl 1 t rfl) ⟨ho,?_⟩⟩)
 exact ⟨.ref l,H,I,rfl,q _ _ (Same.refl H) (by rw [show (List.replicate (1:Int).toNat xs).flatten=xs by simp];exact hH)⟩
end
theorem Zkk {v:V} {u:Value} (h:RelV v u):absV u=some v:=by
 cases v<;>simp only [RelV] at h<;>first|(subst h;rfl)|(obtain ⟨_,rfl⟩:=h;rfl)
theorem Zn8 {v v':V} {u:Value} (h:RelV v u) (h':RelV v' u):v=v':=Option.some.inj ((Zkk h).symm.trans (Zkk h'))
section
variable {X:Cx} {α:Type} [DecidableEq α] {R:Hp→V→α→Prop} {d:Nat}
noncomputable def eqOf (R:Hp→V→α→Prop) (H:Hp) (a:α) (y:Value):Bool:=@decide (∃ v,RelV v y∧R H v a) (Classical.propDecidable _)
theorem Zl6 {H:Hp} {v:V} {y:Value} {x a:α} (inj:∀ v x y,R H v x→R H v y→x=y) (rv:RelV v y) (r:R H v x):eqOf R H a y=decide (x=a):=by
 unfold eqOf;rw [Bool.eq_iff_iff];simp only [decide_eq_true_iff];refine ⟨fun ⟨v',h1,h2⟩=>?_,fun h=>⟨v,rv,h ▸ r⟩⟩;rw [Zn8 h1 rv] at h2;exact inj v x a r h2
theorem Zsa {A:Around} {pins:List (Addr×Obj)} {σ:St} {H:Hp} {s:Shared} (E:EqT X d R) (inj:∀ v x y,R H v x→R H v y→x=y) (hu:A.units+d<cLine) (I:Inv X pins σ H s) {vs:List V} {us:List Value} {xs:List α} (r:Vals vs us) (al:Al (R H) vs xs) {x:V} {v:Value} {a:α} (rx:RelV x v) (ra:R H x a) :
 ∀ y∈us.toArray,SeqAt.EqAt A s y v (eqOf R H a y):=fun y hy=>by
 obtain ⟨i,hi,e⟩:=n40_ (show y∈us by simpa using hy);have l1:=r.length;obtain ⟨u,eu,ru⟩:=r.get (n1_ (show i<vs.length by omega));rw [n1_ hi,e] at eu;cases eu
 obtain ⟨z,ez,rz⟩:=al.get (n1_ (show i<vs.length by omega));rw [Zl6 inj ru rz];exact E A pins σ H s _ _ _ _ z a hu I rz ra ru rx
theorem Znx (E:EqT X d R) (inj:∀ H v x y,R H v x→R H v y→x=y) (hu:X.A.units+d+1<cLine):MtR X "list.index" (fun x xs H Q=>∃ (p:Addr) (vs:List V) (ys:List α) (v:V) (a:α) (j:Nat),x=.ref p∧xs=[v]∧H p=some (.lst vs)∧Al (R H) vs ys∧R H v a∧ys[j]? = some a∧(∀ m,m<j→ys[m]?≠some a)∧ys.length≤1000∧Q (.int j) H):=by
 intro pins s σ H x xs v us Q I rx rv h;obtain ⟨p,vs,ys,y,a,j,rfl,rfl,e,al,ra,ej,hno,hz,q⟩:=h;cases rx
 obtain ⟨u,rfl,ru⟩:=rv.one;obtain ⟨its,r,pl,_⟩:=I.list (SqL.of e);obtain ⟨⟨cls,dd,data,sl⟩,ho,hc,n,hd⟩:=id pl.isList;simp only at hc hd;subst hc hd;have l1:=r.length;have l2:=al.1;have hj:j<ys.length:=(n21_.mp ej).1
 have at_:∀ m (hm:m<its.toArray.size) z,ys[m]? = some z→eqOf R H a its.toArray[m]=decide (z=a):=fun m hm z ez=>by
  have hm':m<its.length:=by simpa using hm
  obtain ⟨w,ew,rw'⟩:=r.get (n1_ (show m<vs.length by omega));rw [n1_ hm'] at ew;cases ew
  simp only [List.getElem_toArray];exact Zl6 (inj H) rw' (al.2 m _ z (n1_ (by omega)) ez)
 refine call_meets F.slot_list_index ⟨_,ho,rfl⟩ F.entry_list_index (F.args_list_index_2 _ _) (SeqAt.list_indexAt p its.toArray n dd sl u (eqOf R H a) j (by simp;omega) (by omega) ?_ ?_) ⟨ho,Zsa E (inj H) (by rw [Around.in1_units];omega) I r al ru ra,?_⟩
 · rw [at_ j (by simp;omega) a ej];exact n19_ rfl
 · intro m hm hlt;have hm':m<ys.length:=by omega
   rw [at_ m hm ys[m] (n1_ hm')];exact n8_ fun z=>hno m hlt (by rw [n1_ hm',z])
 · exact ⟨.int j,H,I.tok _,⟨_,rfl⟩,q⟩
end
end L2
namespace L2
open PySem PySem.Spec PyProof.Rows PySem.W
theorem fsc {N P:List Str} {sc:Scope} (h:sc.kind=.function∧sc.isCoroutine=false∧sc.isGenerator=false∧N.Nodup∧N.take P.length=P∧(∀ x∈P,sc.names.lookup x=some .local∨sc.names.lookup x=some .cell)∧∀ y∈sc.names,y.2≠.free):FnScope N P sc:=let ⟨a,b,c,d,e,f,g⟩:=h;⟨a,b,c,d,e,f,g⟩
end L2
set_option maxHeartbeats 4000000
namespace L2
open PySem PySem.Spec PyProof.Rows
section
variable {M:Model} {A:Around} {E:Value→Shared→Prop} {s:Shared}
def FO (h:Heap) (a:Addr) (C:Value) (d:Option Addr) (vs:Array Value):Prop:=∃ o:Obj,h.get? a=some o∧o.cls=C∧o.dict=d∧o.data=.fields vs
theorem Zn0 {o:Obj} {f:Array Value→Array Value}:(Obj.mapFields f o).dict=o.dict:=by
 obtain ⟨c,d,dt,sl⟩:=o;cases dt<;>rfl
theorem FO.set {h:Heap} {a:Addr} {C:Value} {d:Option Addr} {vs:Array Value} (x:FO h a C d vs) (f:Array Value→Array Value):FO (h.update a (Obj.mapFields f)) a C d (f vs) :=
 let ⟨o,e,hc,hd,hv⟩:=x
 ⟨_,Heap.get?_update_self _ e (Obj.isFreed_of_fields (Obj.data_mapFields hv f)),(Obj.cls_mapFields _ _).trans hc,Zn0.trans hd,Obj.data_mapFields hv f⟩
theorem FO.keep {h h':Heap} {a:Addr} {C:Value} {d:Option Addr} {vs:Array Value} (x:FO h a C d vs) (k:∀ o,h.get? a=some o→h'.get? a=some o):FO h' a C d vs :=
 let ⟨o,e,r⟩:=x
 ⟨o,k o e,r⟩
theorem Zdw {h:Heap} {a b:Addr} {o:Obj} {g:Obj→Obj} (n:b≠a) (e:h.get? b=some o):(h.update a g).get? b=some o:=(Heap.get?_update_other h g (Ne.symm n)).trans e
def Fly (h:Heap) (G:Heap) (e T:Addr) (C:Value):Prop :=
 G.get? e=none∧G.get? T=none∧T≠e∧(∃ vs,FO h e C none vs∧vs[1]? = some (.ref T))∧∃ cT dT ts,FO h T cT dT ts∧ts[3]? = some .none
theorem Fly.lo {h G G':Heap} {e T:Addr} {C:Value} (f:Fly h G e T C) (l:∀ b,G.get? b=none→G'.get? b=none):Fly h G' e T C:=⟨l _ f.1,l _ f.2.1,f.2.2⟩
def Fly0 (h:Heap) (G:Heap) (e:Addr) (C:Value):Prop:=G.get? e=none∧∃ vs,FO h e C none vs∧vs[1]? = some .none
def LftX (fs:List Addr) (S:Addr→Prop) (h h':Heap):Prop :=
 (∀ b o,¬ S b→b∉fs→h.get? b=some o→h'.get? b=some o)∧∀ b o,b∈fs→h.get? b=some o→∃ sl,h'.get? b=some { o with slots:=sl }
theorem FO.ne_frame {base h:Heap} {l:List Env} {a:Addr} {C:Value} {d:Option Addr} {vs:Array Value} (x:FO h a C d vs) (hl:h.FunFrames base l):a∉frs l:=fun hm=>by
 obtain ⟨o,e,_,_,hv⟩:=x;obtain ⟨_,o',e',nf⟩:=hl.mem hm;rw [e] at e';cases e';exact nf vs hv
theorem Zph {base:Heap} {env:Env} {outer:List Env} {L e:Addr} {C head:Value} {vs:Array Value} {hadNext:Bool} {G:Heap} {Q:Unit→Shared→Prop}
 (hfr:A.frames=some (env :: outer)) (hl:s.heap.FunFrames base (env :: outer)) (hf:env.frame=some L) (x:FO s.heap e C none vs) (hG:G.get? e=none) (hsz:1<vs.size) (hz:G.get? s.heap.objs.size=none)
 (h:∀ h',LftX (frs (env :: outer)) (· = e) s.heap h'→Fly h' G e s.heap.objs.size C→Q () { s with heap:=h' }) :
 wpAny M A (do let a ← frameOf env;let pl ← entryPlaceOf L hadNext;let b ← EntryCells.newEntry head a .none (rawInt L) .none pl;setField (.ref e) 1 b) (fun _ s'=>wpAny M A (setFlight (.ref e) none) Q E s') E s:=by
 have nf:=x.ne_frame hl;refine n0_ (wpAny_frameOf_fun hfr hl hf fun g ⟨gz,gk,gs⟩=>n0_ (wpAny_entryPlaceOf fun pl hpl=>n0_ ?_));refine wpAny_newObj_type ?_ (hpl.sizeOk5 _ _ _ _ _);generalize hts:(([head,Value.ref L,.none,rawInt L,.none]++(if pl.isEmpty then List.replicate 6 Value.none else pl)).toArray:Array Value)=ts
 have hts3:3<ts.size:=by
  rw [← hts];simp only [n5_,n25_,n16_,n59_];omega
 have x1:FO g e C none vs:=x.keep fun o q=>(gk e nf).trans q;have ne:g.objs.size≠e:=n56_ (let ⟨_,q,_⟩:=x1;n7_ q);have y1:FO (g.push { cls:=.type "traceback",dict:=none,data:=.fields ts }) g.objs.size (.type "traceback") none ts:=⟨_,n10_ g rfl,rfl,rfl,rfl⟩;have x2:=x1.keep (h':=g.push { cls:=.type "traceback",dict:=none,data:=.fields ts }) fun o q=>n2_ _ q;have x3:=x2.set (·.setIfInBounds 1 (.ref g.objs.size));have y3:=y1.keep (h':=(g.push { cls:=.type "traceback",dict:=none,data:=.fields ts }).update e (Obj.mapFields (·.setIfInBounds 1 (.ref g.objs.size)))) fun o q=>Zdw ne q;obtain ⟨o2,a2,_,_,v2⟩:=id x2;obtain ⟨o3,a3,_,_,v3⟩:=id x3;obtain ⟨p3,b3,_,_,w3⟩:=id y3;have one:(vs.setIfInBounds 1 (.ref g.objs.size))[1]? = some (.ref g.objs.size):=by simp [hsz]
 refine wpAny_setField a2 v2 hsz (n0_ (wpAny_field a3 v3 one ?_));rw [if_pos (by simp)];refine wpAny_setField b3 w3 hts3 ?_;have y4:=y3.set (·.setIfInBounds 3 ((none:Option Addr).elim Value.none fun f=>rawInt f));have x4:=x3.keep fun o q=>Zdw (g:=Obj.mapFields (·.setIfInBounds 3 ((none:Option Addr).elim Value.none fun f=>rawInt f))) (Ne.symm ne) q;have keep:∀ b o,b≠e→g.get? b=some o→_:=fun b o n q=>Zdw (g:=Obj.mapFields (·.setIfInBounds 3 ((none:Option Addr).elim Value.none fun f=>rawInt f))) (n24_ (n7_ q)) (Zdw (g:=Obj.mapFields (·.setIfInBounds 1 (.ref g.objs.size))) n (n2_ { cls:=.type "traceback",dict:=none,data:=.fields ts } q));refine h _ ⟨fun b o n hb q=>keep b o n ((gk b hb).trans q),fun b o hb q=>?_⟩ ?_
 · obtain ⟨sl,q2⟩:=gs b o q;exact ⟨sl,keep b _ (fun z=>nf (z ▸ hb)) q2⟩
 · rw [← gz];exact ⟨hG,by rw [gz];exact hz,ne,⟨_,x4,one⟩,_,_,_,y4,by simp [hts3]⟩
theorem Zop {base:Heap} {env:Env} {outer:List Env} {L e:Addr} {C:Value} {G:Heap} {Q:Unit→Shared→Prop}
 (hfr:A.frames=some (env :: outer)) (hl:s.heap.FunFrames base (env :: outer)) (hf:env.frame=some L) (f:Fly0 s.heap G e C) (hz:G.get? s.heap.objs.size=none)
 (h:∀ h',LftX (frs (env :: outer)) (· = e) s.heap h'→Fly h' G e s.heap.objs.size C→Q () { s with heap:=h' }):wpAny M A (leaving env (.ref e)) Q E s:=by
 obtain ⟨hG,vs,x,h1⟩:=f;obtain ⟨oe,he,_,_,hd⟩:=id x;unfold leaving noteFrame;simp only [hf];refine n0_ (n0_ (wpAny_field he hd h1 ?_));rw [if_neg (by decide)];exact Zph hfr hl hf x hG (Array.getElem?_eq_some_iff.mp h1).1 hz h
theorem Znn {base:Heap} {env:Env} {outer:List Env} {L e T:Addr} {C:Value} {G:Heap} {Q:Unit→Shared→Prop}
 (hfr:A.frames=some (env :: outer)) (hl:s.heap.FunFrames base (env :: outer)) (hf:env.frame=some L) (f:Fly s.heap G e T C) (hz:G.get? s.heap.objs.size=none)
 (h:∀ h',LftX (frs (env :: outer)) (fun b=>b=e∨b=T) s.heap h'→Fly h' G e s.heap.objs.size C→Q () { s with heap:=h' }) :
 wpAny M A (noteFrame (.ref e) env) (fun _ s'=>wpAny M A (setFlight (.ref e) none) Q E s') E s:=by
 obtain ⟨hG,hT,ne,⟨vs,x,h1⟩,cT,dT,ts,y,h3⟩:=f;obtain ⟨oe,he,_,_,hd⟩:=id x;obtain ⟨oT,eT,_,_,hdT⟩:=id y;have nT:=y.ne_frame hl;unfold noteFrame;simp only [hf];refine n0_ (wpAny_field he hd h1 ?_);rw [if_pos (by simp)];refine n0_ (wpAny_field eT hdT h3 ?_);rw [if_neg (by simp [rawInt])];refine n0_ (wpAny_setField eT hdT (Array.getElem?_eq_some_iff.mp h3).1 ?_);have sz:(s.heap.update T (Obj.mapFields (·.setIfInBounds 3 .none))).objs.size=s.heap.objs.size:=Heap.size_after_update ..;have hl':(s.heap.update T (Obj.mapFields (·.setIfInBounds 3 .none))).FunFrames base (env :: outer):=hl.of_keeps fun b o q nf=>⟨o,Zdw (fun z=>by rw [z,eT] at q;cases q;exact nf ts hdT) q,rfl⟩;refine Zph (s:={ s with heap:=s.heap.update T (Obj.mapFields (·.setIfInBounds 3 .none)) }) hfr hl' hf (x.keep fun o q=>Zdw (Ne.symm ne) q) hG (Array.getElem?_eq_some_iff.mp h1).1 (by rw [sz];exact hz) fun h' ⟨k1,k2⟩ k3=>?_;exact h h' ⟨fun b o n hb q=>k1 b o (fun z=>n (.inl z)) hb (Zdw (fun z=>n (.inr z)) q),fun b o hb q=>k2 b o hb (Zdw (fun z=>nT (z ▸ hb)) q)⟩ (by rw [← sz];exact k3)
theorem Zqv {base:Heap} {env:Env} {outer:List Env} {L e T:Addr} {C:Value} {G:Heap} {Q:Unit→Shared→Prop}
 (hfr:A.frames=some (env :: outer)) (hl:s.heap.FunFrames base (env :: outer)) (hf:env.frame=some L) (f:Fly s.heap G e T C) (hz:G.get? s.heap.objs.size=none)
 (h:∀ h',LftX (frs (env :: outer)) (fun b=>b=e∨b=T) s.heap h'→Fly h' G e s.heap.objs.size C→Q () { s with heap:=h' }):wpAny M A (leaving env (.ref e)) Q E s:=by
 unfold leaving;exact n0_ (Znn hfr hl hf f hz h)
def CX1 (P:Program) (w:World):CXT:=fun outer H s E e s'=>∃ ea T C H',e=.ref ea∧s'.os=s.os∧AllBare s'.gens∧Un (frs outer) [] H H' s.heap s'.heap∧HOk P w H' s'.heap∧Fly s'.heap s.heap ea T (.ref C)∧H' ea=none∧H' T=none∧E (.ref C) none H'
end
structure XeOk (X:Cx) (E:XK):Prop where
 st:X.stack=X.env :: X.outer
 fr:X.env.frame=some X.env.locals
 ex:X.ex=[]
 xe:∀ e s',wpAny (model X.prog X.w) X.A (leaving X.env e) (fun _ s''=>CX1 X.prog X.w X.outer X.H₀ X.s₀ E e s'') (fun _ _=>False) s'→X.xe e s'
section
variable {X:Cx} {E:XK} {pins:List (Addr×Obj)} {σ:St} {H:Hp} {s:Shared} {ea T C:Addr}
theorem Inv.newX (I:Inv X pins σ H s) {b:Addr} (z:s.heap.get? b=none) (hx:b∉X.ex):X.s₀.heap.get? b=none:=by
 cases q:X.s₀.heap.get? b with
 | none=>rfl
 | some o =>
   obtain ⟨o',e⟩:=I.base.there b o q hx;rw [z] at e;cases e
theorem Inv.new0 (I:Inv X pins σ H s) {b:Addr} (z:s.z≤b):X.s₀.heap.get? b=none:=Heap.get?_none_of_le (n32_ I.sz z)
theorem Inv.fsIn (I:Inv X pins σ H s):∀ b∈X.fs,b∈frs X.stack:=fun b hb=>by
 rcases I.ok.stk with e|⟨e,hf⟩
 · rw [e];exact hb
 · rw [e];show b∈List.filterMap _ (_ :: X.outer)
   rw [List.filterMap_cons];split
   · exact hb
   · exact n18_ _ hb
theorem Inv.oldOut (I:Inv X pins σ H s) {b:Addr} {o:Obj} (e:X.s₀.heap.get? b=some o) (hb:b∉X.fs):b∉frs X.stack:=fun z=>by
 rcases n14_.mp (I.stkSub b z) with q|q
 · exact absurd (n7_ e) (Nat.not_lt.mpr (by rw [q];exact I.ok.above))
 · exact hb q
theorem Zpi (o:XeOk X E) (I:Inv X pins σ H s) {h':Heap} (k1:∀ b o,(X.s₀.heap.get? b≠none∨H b≠none)→b∉frs X.stack→s.heap.get? b=some o→h'.get? b=some o)
 (k2:∀ b o,b∈frs X.stack→s.heap.get? b=some o→∃ sl,h'.get? b=some { o with slots:=sl }) (k3:Fly h' X.s₀.heap ea s.heap.objs.size (.ref C)) (n1:H ea=none) (hE:E (.ref C) none H) :
 CX1 X.prog X.w X.outer X.H₀ X.s₀ E (.ref ea) { s with heap:=h' }:=by
 have hx:∀ {b:Addr},b∉([]:List Addr)→b∉X.ex:=fun z=>by rw [o.ex];exact z
 refine ⟨ea,s.heap.objs.size,C,H,rfl,I.os,I.bare,⟨fun b u q n hb z=>?_,fun b u q n hb z=>?_,fun b u q n z=>I.base.free b u q n (hx z),fun b u q z=>?_,I.base.tups,I.base.frzs,I.base.tbls⟩,fun b u e=>?_,k3,n1,I.hok.fresh (n6_ _),hE⟩
 · exact k1 b u (.inl (by rw [q];simp)) (I.oldOut q hb) (I.base.keep b u q n hb (hx z))
 · obtain ⟨sl,e1⟩:=I.base.slot b u q n hb (hx z);obtain ⟨sl',e2⟩:=k2 b _ (I.fsIn b hb) e1;exact ⟨sl',e2⟩
 · obtain ⟨o',e1⟩:=I.base.there b u q (hx z)
   by_cases hb:b∈frs X.stack
   · obtain ⟨sl',e2⟩:=k2 b _ hb e1;exact ⟨_,e2⟩
   · exact ⟨o',k1 b o' (.inl (by rw [q];simp)) hb e1⟩
 · refine (I.hok b u e).stay (fun c v hc q=>k1 c v ?_ ?_ q) (fun _ q=>q) fun _ _ q=>q
   · rcases hc with z|z
     · rw [z];exact .inr (by rw [e];simp)
     · exact .inr (by rw [z];simp)
   · intro hm
     have:=I.stkFree c hm
     rcases hc with z|z
     · rw [z,e] at this;cases this
     · rw [z] at this;cases this
theorem Zot (o:XeOk X E) (I:Inv X pins σ H s) (f0:Fly0 s.heap X.s₀.heap ea (.ref C)) (n1:H ea=none) (hE:E (.ref C) none H):X.xe (.ref ea) s:=by
 refine o.xe _ _ (Zop (G:=X.s₀.heap) (I.ok.frames.trans (congrArg some o.st)) (o.st ▸ I.stack) o.fr f0 (I.new0 (n6_ _)) fun h' k k3=>?_);rw [← o.st] at k;refine Zpi o I (fun b u hb hf e=>k.1 b u ?_ hf e) k.2 k3 n1 hE;rintro rfl
 rcases hb with z|z
 · exact z f0.1
 · exact z n1
theorem Zqc (o:XeOk X E) (I:Inv X pins σ H s) (f1:Fly s.heap X.s₀.heap ea T (.ref C)) (n1:H ea=none) (n2:H T=none) (hE:E (.ref C) none H):X.xe (.ref ea) s:=by
 refine o.xe _ _ (Zqv (G:=X.s₀.heap) (I.ok.frames.trans (congrArg some o.st)) (o.st ▸ I.stack) o.fr f1 (I.new0 (n6_ _)) fun h' k k3=>?_);rw [← o.st] at k;refine Zpi o I (fun b u hb hf e=>k.1 b u ?_ hf e) k.2 k3 n1 hE;rintro (rfl|rfl)
 · rcases hb with z|z
   · exact z f1.1
   · exact z n1
 · rcases hb with z|z
   · exact z f1.2.1
   · exact z n2
theorem XeOk.passes (o:XeOk X E):Zcv (CX1 X.prog X.w) X E:=by
 rintro pins σ H s e s' I ⟨ea,T,C,H',rfl,os,bare,un,hok,fly,n1,n2,hE⟩
 exact Zqc o (I.call' (ch:=[]) os un hok bare (fun b z=>absurd z (by simp))) (fly.lo fun b z=>I.newX z (by rw [o.ex];simp)) n1 n2 hE
end
section
variable {P:Program} {w:World} {K:PySem.W.Frag} {mg:Str→Option Value} {base:Heap} {N:List Str} {qual:Str} {scope:Scope} {f:Addr} {cd:Value} {A:Around} {outer:List Env} {s₀:Shared} {H₀:Hp} {E:XK}
theorem Zs5:XeOk (cxOf (CX1 P w) P w K mg base N qual scope f cd A outer s₀ H₀ E) E:=⟨rfl,rfl,rfl,fun _ _ h=>n36_ h (fun _ _ z=>z) fun _ _ z=>z.elim⟩
end
theorem Zq6 {K:PySem.W.Frag} {h:Heap} {C:Addr} {bmB:List Value} {newId:String} (X:K.In h) (q:PySem.W.excIn K C bmB newId=true) :
 ∃ (bm:List Value) (N:Addr) (nm qn:Str) (bs:List Value) (hd:Bool) (sn:List Str) (sub:List Value) (ab:Bool) (col:Option Bool) (dd:Option Addr) (k0 k1 k2 k3 k5:Option Value) (mN:Str→Option Value),
   h.get? C=some (excClassObj nm qn C N bs bm hd sn sub ab col dd k0 k1 k2 k3 k5 newId)∧h.Ns N mN∧mN "__init__" = none∧OwnTail h bmB bm:=by
 unfold PySem.W.excIn at q;split at q
 · rename_i dd cd sl ho
   split at q
   · rename_i C' bm k0 k1 k2 k3 n k5 hm hs
     simp only [n27_,beq_iff_eq,Bool.not_eq_true'] at q;obtain ⟨⟨⟨⟨⟨rfl,rfl⟩,hdel⟩,ht⟩,hok⟩,hni⟩:=q;obtain ⟨nm,bs,mro,ns,qn,hd,sn,sub,ab,col,del⟩:=cd;dsimp only at hm hdel hok hni;subst hm hdel
     have hsl:sl=#[k0,k1,k2,k3,some (.builtin n),k5]:=by
      obtain ⟨l⟩:=sl;simp only at hs;rw [hs]
     subst hsl;exact ⟨bm,ns,nm,qn,bs,hd,sn,sub,ab,col,dd,k0,k1,k2,k3,k5,_,X _ _ ho,.of_isNs (PySem.W.isNs_of_in X hok),PySem.W.nsMap_none_of_in X hok hni,PySem.W.tail_of_in X ht⟩
   · cases q
 · cases q
structure ExcK (K:PySem.W.Frag) (C:Addr):Prop where
 ex:∃ (bmB:List Value) (newId initId:String),ExcBaseFacts "ValueError" newId initId bmB∧PySem.W.excIn K C bmB newId=true
theorem ObjOk.there {P:Program} {w:World} {H:Hp} {h:Heap} {a:Addr} {o:HO} (x:ObjOk P w H h a o):∃ ob,h.get? a=some ob:=by
 cases o with
 | lst xs=>obtain ⟨_,_,_,_,e⟩:=x;exact ⟨_,e⟩
 | tup xs=>obtain ⟨_,_,_,_,e,_⟩:=x;exact ⟨_,e⟩
 | dK kvs=>obtain ⟨_,_,_,_,o,_,_,e,_⟩:=x;exact ⟨_,e⟩
 | dT kvs=>obtain ⟨_,_,_,_,o,_,_,e,_⟩:=x;exact ⟨_,e⟩
 | set S n=>obtain ⟨o,_,_,_,e,_⟩:=x;exact ⟨_,e⟩
 | ins C dx fs=>obtain ⟨_,_,_,e,_⟩:=x;exact ⟨_,e⟩
 | own y=>exact x
 | xd fs=>obtain ⟨_,⟨o,_,_,e,_⟩,_⟩:=x;exact ⟨_,e⟩
 | rng lo hi=>obtain ⟨_,_,_,e⟩:=x;exact ⟨_,e⟩
 | frz o u=>exact ⟨_,x.1⟩
 | tbl ps=>exact ⟨_,show h.get? a=some _ from x⟩
 | met f y=>exact ⟨_,show h.get? a=some _ from x⟩
 | ext φ=>exact x.2.1
def Zr4 (E:XK) (C:Addr):TS:=fun _ _ H=>E (.ref C) none H
section
variable {X:Cx} {E:XK}
theorem Zoj {x t:Str} {j:Nat} {np sp cpos pos:Pos} {C:Addr} (hx:XeOk X E) (hc:X.calm=true) (hg:Gl X x) (hm:X.mg x=some (.ref C)) (Z:ExcK X.K C) (hd:(x == ("__debug__" : Str))=false:=by decide) :
 PS X (.Raise (some (.Call (.Name x np) [.Constant (.str t) j sp] [] cpos)) none pos) (Zr4 E C):=by
 intro pins s σ H D I h;obtain ⟨bmB,newId,initId,F,q⟩:=Z.ex;obtain ⟨bm,N,nm,qn,bs,hd',sn,sub,ab,col,dd,k0,k1,k2,k3,k5,mN,hC,hN,hni,TL⟩:=Zq6 I.mod.kin q;refine wpAny_Raise_call_subT (C:=C) (nm:=nm) (q:=qn) (N:=N) (bs:=bs) (bm:=bm) (bmB:=bmB) (hdct:=hd') (sn:=sn) (sub:=sub) (ab:=ab) (col:=col) (dd:=dd) (k0:=k0) (k1:=k1) (k2:=k2) (k3:=k3) (k5:=k5) (mN:=mN) F (TL.hasType F.hasBase) (I.ok.hd hc) rfl hni (Zcl I hg hm ⟨rfl,?_⟩ hd);have ha:PA X [.Constant (.str t) j sp] _:=Za Yj Zb rfl;refine Calls.evalArgs_plain (thn (ha cpos pins s σ H (fun vs H1=>H1=H∧vs.length=1) I ⟨rfl,rfl⟩) fun us s1 ⟨vs,H1,I1,r,eH,hl⟩=>?_);subst eH;refine ⟨rfl,by rw [← r.length,hl];decide,I1.bk _ _ hC,hN.keeps I1.bk,TL.keeps I1.bk,fun h' e hm'=>?_⟩;obtain ⟨kp,nw,t',e1,_,_⟩:=hm';have I2:Inv X pins σ H1 { s1 with heap:=h' }:=I1.kept (t':=s1.toks) kp;refine Zot hx I2 ⟨I1.newX nw (by rw [hx.ex];simp),_,⟨_,e1,rfl,rfl,rfl⟩,rfl⟩ ?_ h;cases z:H1 e with
 | none=>rfl
 | some u =>
   obtain ⟨o,e2⟩:=(I1.hok e u z).there;rw [show s1.heap.get? e=none from nw] at e2;cases e2
end
section
variable {P:Program} {w:World} {K:PySem.W.Frag} {mg:Str→Option Value} {base:Heap}
theorem Fun.okX {x qual:Str} {st:Stmt} {f:Addr} {fd:FuncData} {N ps:List Str} {k:Nat} {sp:Sp} (F:Fun K x qual st f fd) (S:FnScope N ps (Zg st)) (len:∀ vs H Q E,sp vs H Q E→vs.length=ps.length)
 (hbody:∀ (cdv:Value) (A:Around) (outer:List Env) (s:Shared) (H:Hp) (vs:List V) (Q:VK) (E:XK),Room k (A.deeper (envOfC qual (Zg st) s.z f cdv))→sp vs H Q E →
   ∃ t,PSs (cxOf (CX1 P w) P w K mg base N qual (Zg st) f cdv A outer s H E) (Y0 st) t∧t { nx:=fun _ H'=>Q .non H',rt:=Q } (start N vs) H):FnOk P w K mg base (CX1 P w) (k+1) f fd ps sp:=by
 obtain ⟨oc,od,kV,doc,pm,an,cdv,ct,osl,rfl,lk,hcd⟩:=F.ex;exact Zrj lk hcd S len fun A outer s H vs Q E hr hsp=>hbody cdv A outer s H vs Q E hr hsp
structure CalX (P:Program) (w:World) (K:PySem.W.Frag) (mg:Str→Option Value) (base:Heap) (x:Str) (k:Nat) (ps:List Str) (sp:Sp):Prop where
 ex:∃ (f:Addr) (fd:FuncData),FnOk P w K mg base (CX1 P w) k f fd ps sp∧mg x=some (.ref f)∧PySem.W.keepIn K (.ref f)=true∧Binds K fd ps []
theorem Zmu {X:Cx} {x:Str} {k j:Nat} {ps:List Str} {sp:Sp} {E:XK} {p pos:Pos} {e:Expr} {es:List Expr} {t:TA} (C:CalX X.prog X.w X.K X.mg X.base x k ps sp) (hx:Zcv (CX1 X.prog X.w) X E) (hr:Room j X.A) (hj:k≤j) (hg:Gl X x) (ha:PA X (e :: es) t)
 (hdb:(x == ("__debug__" : Str))=false:=by decide) (he:starEach (e :: es) X.env=(false,eval e X.env) :: starEach es X.env:=by rfl) (hpl:(backTo pos (starEach es X.env)).any (·.1)=false:=by rfl) :
 PE X (.Call (.Name x p) (e :: es) [] pos) (fun σ H Q=>t σ H fun vs H1=>sp vs H1 Q E):=by
 obtain ⟨f,fd,F,hm,hk,hb⟩:=C.ex;have h:=Zmk (dvs:=[]) (E:=E) (p:=p) F (hr.mono hj) hg hm hk hb .nil hx ha hdb he hpl;intro pins s σ H Q I hw;refine h pins s σ H Q I ?_;unfold Zon
 simpa only [List.append_nil] using hw
end
section
variable {X:Cx} {pins:List (Addr×Obj)} {σ:St} {H:Hp} {s:Shared}
theorem Inv.left {h':Heap} {S:Addr→Prop} (I:Inv X pins σ H s) (k:LftX (frs X.stack) S s.heap h') (tk:Nat)
 (hS:∀ b,S b→H b=none∧X.s₀.heap.get? b=none∧(∀ p∈X.pn++pins,p.1≠b)∧∃ C d vs,FO s.heap b C d vs):Inv X pins σ H { s with heap:=h',toks:=tk }:=by
 obtain ⟨k1,k2⟩:=k
 have nS:∀ b o,s.heap.get? b=some o→(∀ vs,o.data≠.fields vs)→¬ S b:=fun b o e nf z=>by
  obtain ⟨_,_,_,_,_,vs,o',e',_,_,hv⟩:=hS b z;rw [e] at e';cases e';exact nf vs hv
 have any:∀ b o,s.heap.get? b=some o→(∀ vs,o.data≠.fields vs)→∃ sl,h'.get? b=some { o with slots:=sl }:=fun b o e nf=>by
  by_cases hb:b∈frs X.stack
  · exact k2 b o hb e
  · exact ⟨o.slots,k1 b o (nS b o e nf) hb e⟩
 have old:∀ b o,X.s₀.heap.get? b=some o→¬ S b:=fun b o e z=>by rw [(hS b z).2.1] at e;cases e
 have ce:∀ c v,s.heap.IsCell c v→h'.IsCell c v:=fun c v ⟨o,e,hd⟩=>by
  obtain ⟨sl,q⟩:=any c o e fun vs z=>by rw [hd] at z;cases z
  exact ⟨_,q,hd⟩
 refine ⟨I.ok,I.os,I.bare,⟨fun b o e n hb hx=>?_,fun b o e n hb hx=>?_,I.base.free,fun b o e hx=>?_,I.base.tups,I.base.frzs,I.base.tbls⟩,?_,fun x c e=>?_,I.free,I.freeC,fun p hp=>?_,fun b u e=>?_,I.len⟩
 · exact k1 b o (old b o e) (I.oldOut e hb) (I.base.keep b o e n hb hx)
 · obtain ⟨sl,e1⟩:=I.base.slot b o e n hb hx;obtain ⟨sl',e2⟩:=k2 b _ (I.fsIn b hb) e1;exact ⟨sl',e2⟩
 · obtain ⟨o',e1⟩:=I.base.there b o e hx
   by_cases hb:b∈frs X.stack
   · obtain ⟨sl',e2⟩:=k2 b _ hb e1;exact ⟨_,e2⟩
   · exact ⟨o',k1 b o' (old b o e) hb e1⟩
 · obtain ⟨m,⟨o,es,ep,ho,hd,r⟩,hl⟩:=I.loc;obtain ⟨sl,q⟩:=any _ o ho fun vs z=>by rw [hd] at z;cases z
   refine ⟨m,⟨_,es,ep,q,hd,r⟩,fun i x v e1 e2 e3=>?_⟩;obtain ⟨u,ru,l⟩:=hl i x v e1 e2 e3;refine ⟨u,ru,?_⟩
   rcases l with l|⟨kk,c,e,z⟩
   · exact .inl l
   · exact .inr ⟨kk,c,e,ce c _ z⟩
 · obtain ⟨v,z⟩:=I.cell x c e;exact ⟨v,ce c v z⟩
 · obtain ⟨e,n,ne,nf,d⟩:=I.pin p hp;refine ⟨k1 p.1 p.2 (fun z=>(hS _ z).2.2.1 p hp rfl) (fun z=>?_) e,n,ne,nf,d⟩
   rcases n14_.mp (I.stkSub _ z) with q|q
   · exact ne q
   · exact nf q
 · refine (I.hok b u e).stay (fun c v hc q=>k1 c v (fun z=>?_) (fun z=>?_) q) (fun _ q=>q) fun _ _ q=>q
   · have:=(hS c z).1
     rcases hc with r|r
     · rw [r,e] at this;cases this
     · rw [r] at this;cases this
   · have:=I.stkFree c z
     rcases hc with r|r
     · rw [r,e] at this;cases this
     · rw [r] at this;cases this
theorem Inv.track {a C:Addr} {C':Value} {d:Option Addr} {vs:Array Value} {o:HO} (I:Inv X pins σ H s) (x:FO s.heap a C' d vs) (n:H a=none) (n0:X.s₀.heap.get? a=none) (np:∀ p∈X.pn++pins,p.1≠a)
 (new:ObjOk X.prog X.w (upd H a o) s.heap a o):Inv X pins σ (upd H a o) s:=by
 obtain ⟨oa,ea,_,_,hv⟩:=id x;have ne:∀ b u,H b=some u→b≠a:=fun b u e z=>by rw [z,n] at e;cases e
 have un:∀ b,b≠a→(upd H a o) b=H b:=fun b hb=>Zs hb
 have isr:∀ b o',s.heap.get? b=some o'→(∀ vs,o'.data≠.fields vs)→b≠a:=fun b o' e nf z=>by
  rw [z,ea] at e;cases e;exact nf vs hv
 refine ⟨I.ok,I.os,I.bare,⟨I.base.keep,I.base.slot,fun b u e q hx=>?_,I.base.there,fun b xs e=>?_,fun b w' u e=>?_,fun b ps e=>?_⟩,I.loc,I.cell,?_,fun y c e=>?_,fun p hp=>?_,fun b u e=>?_,I.len⟩
 · rw [un b fun z=>by rw [z,n0] at e;cases e];exact I.base.free b u e q hx
 · have q:=I.base.tups b xs e;rw [un b (ne b _ q)];exact q
 · have q:=I.base.frzs b w' u e;rw [un b (ne b _ q)];exact q
 · obtain ⟨m,q⟩:=I.base.tbls b ps e;exact ⟨m,by rw [un b (ne b _ q)];exact q⟩
 · obtain ⟨m,⟨ol,es,ep,ho,hd,_⟩,_⟩:=I.loc;rw [un _ (isr _ ol ho fun vs z=>by rw [hd] at z;cases z)];exact I.free
 · obtain ⟨v,oc,ho,hd⟩:=I.cell y c e;rw [un _ (isr _ oc ho fun vs z=>by rw [hd] at z;cases z)];exact I.freeC y c e
 · obtain ⟨e,q,r⟩:=I.pin p hp;exact ⟨e,by rw [un _ (np p hp)];exact q,r⟩
 · by_cases hb:b=a
   · subst hb;rw [Zc] at e;cases e;exact new
   · rw [un b hb] at e;refine (I.hok b u e).stay (fun c v _ q=>q) (fun c q=>?_) fun c xs q=>?_
     · rw [un c (ne c _ q)];exact q
     · rw [un c (ne c _ q)];exact q
def Zk2 (N:List Str):St:=List.replicate N.length none
theorem Inv.gone {h':Heap} {m':Str→Option Value} (I:Inv X pins σ H s) (hn:h'.Ns X.env.locals m') (hs:Heap.SameBut X.env.locals s.heap h') (tk:Nat):Inv X pins (Zk2 X.N) H { s with heap:=h',toks:=tk }:=by
 have ne:∀ b o,X.s₀.heap.get? b=some o→b≠X.env.locals:=fun b o e=>n24_ (n9_ (n7_ e) I.ok.above);have ce:∀ x c,X.env.cells.lookup x=some c→∀ v,s.heap.IsCell c v→h'.IsCell c v:=fun x c e v z=>z.sameBut hs (I.cne x c e);refine ⟨I.ok,I.os,I.bare,⟨fun b o e n hb hx=>(hs.2 b (ne b o e)).trans (I.base.keep b o e n hb hx),fun b o e n hb hx=>?_,I.base.free,fun b o e hx=>?_,I.base.tups,I.base.frzs,I.base.tbls⟩,⟨m',hn,fun i x v _ e2 _=>?_⟩,fun x c e=>?_,I.free,I.freeC,fun p hp=>?_,fun b u e=>?_,by simp [Zk2]⟩
 · obtain ⟨sl,e1⟩:=I.base.slot b o e n hb hx;exact ⟨sl,(hs.2 b (ne b o e)).trans e1⟩
 · obtain ⟨o',e1⟩:=I.base.there b o e hx;exact ⟨o',(hs.2 b (ne b o e)).trans e1⟩
 · unfold Zk2 at e2;rw [List.getElem?_replicate] at e2;split at e2<;>cases e2
 · obtain ⟨v,z⟩:=I.cell x c e;exact ⟨v,ce x c e v z⟩
 · obtain ⟨e,n,nl,r⟩:=I.pin p hp;exact ⟨(hs.2 p.1 nl).trans e,n,nl,r⟩
 · refine (I.hok b u e).stay (fun c v hc q=>(hs.2 c fun z=>?_).trans q) (fun _ q=>q) fun _ _ q=>q
   have:=I.free
   rcases hc with r|r
   · rw [← z,r,e] at this;cases this
   · rw [← z,r] at this;cases this
def excA (ea C:Addr):HO:=.ext fun h=>∃ vs,FO h ea (.ref C) none vs
theorem Zqn {P:Program} {w:World} {h:Heap} {ea C:Addr} {vs:Array Value} (x:FO h ea (.ref C) none vs):ObjOk P w H h ea (excA ea C) :=
 ⟨⟨vs,x⟩,let ⟨o,e,_⟩:=x;⟨o,e⟩,fun _ _ ⟨v,y⟩ k=>⟨v,y.keep k⟩⟩
abbrev Cx.hdl (X:Cx) (ea:Addr):Cx:={ X with A:=X.A.mark (some (.ref ea)),calm:=false,xe:=fun _ _=>False }
theorem Inv.hdl (I:Inv X pins σ H s) (ea:Addr):Inv (X.hdl ea) pins σ H s :=
 let ok:=I.ok
 ⟨⟨ok.mod,ok.kind,ok.glob,ok.blt,ok.above,ok.inj,ok.has,ok.cab,fun z=>(nomatch z),ok.frames,ok.stk,ok.exf,ok.bs,ok.bsz,ok.noex,ok.exfs,ok.funs,ok.frf⟩,I.os,I.bare,I.base,I.loc,I.cell,I.free,I.freeC,I.pin,I.hok,I.len⟩
theorem Inv.unhdl {ea:Addr} (ok:X.Ok) (I:Inv (X.hdl ea) pins σ H s):Inv X pins σ H s:=⟨ok,I.os,I.bare,I.base,I.loc,I.cell,I.free,I.freeC,I.pin,I.hok,I.len⟩
def xeT (X:Cx) (pins:List (Addr×Obj)) (E:XK):Value→Shared→Prop:=fun e s'=>∃ ea T C H' σ',e=.ref ea∧Inv X pins σ' H' s'∧Fly s'.heap X.s₀.heap ea T (.ref C)∧H' ea=none∧H' T=none∧(∀ p∈X.pn++pins,p.1≠ea∧p.1≠T)∧E (.ref C) none H'
abbrev Cx.tryB (X:Cx) (pins:List (Addr×Obj)) (E:XK):Cx:={ X with pn:=X.pn++pins,xe:=xeT X pins E }
theorem Inv.tryB (I:Inv X pins σ H s) (E:XK):Inv (X.tryB pins E) [] σ H s :=
 let ok:=I.ok
 ⟨⟨ok.mod,ok.kind,ok.glob,ok.blt,ok.above,ok.inj,ok.has,ok.cab,ok.hd,ok.frames,ok.stk,ok.exf,ok.bs,ok.bsz,ok.noex,ok.exfs,ok.funs,ok.frf⟩,I.os,I.bare,I.base,I.loc,I.cell,I.free,I.freeC,fun p hp=>I.pin p (by simpa using hp),I.hok,I.len⟩
theorem Inv.untry {E:XK} {pins':List (Addr×Obj)} (I:Inv (X.tryB pins E) pins' σ H s):Inv X pins σ H s :=
 let ok:=I.ok
 ⟨⟨ok.mod,ok.kind,ok.glob,ok.blt,ok.above,ok.inj,ok.has,ok.cab,ok.hd,ok.frames,ok.stk,ok.exf,ok.bs,ok.bsz,ok.noex,ok.exfs,ok.funs,ok.frf⟩,I.os,I.bare,I.base,I.loc,I.cell,I.free,I.freeC,fun p hp=>I.pin p (List.mem_append_left _ hp),I.hok,I.len⟩
theorem Zq4 {E:XK} (hx:X.ex=[]):Zcv (CX1 X.prog X.w) (X.tryB pins E) E:=by
 rintro pins' σ H s e s' I ⟨ea,T,C,H',rfl,os,bare,un,hok,fly,n1,n2,hE⟩
 have I1:=I.call' (ch:=[]) os un hok bare (fun b z=>absurd z (by simp));refine ⟨ea,T,C,H',σ,rfl,I1.untry,fly.lo fun b z=>I.untry.newX z (by rw [hx];simp),n1,n2,fun p hp=>?_,hE⟩;have q:=(I.untry.pin p hp).1;exact ⟨fun z=>(by rw [z,fly.1] at q;cases q),fun z=>(by rw [z,fly.2.1] at q;cases q)⟩
theorem SP.untry {E:XK} {D:Ends} {f:Flow} (h:SP (X.tryB pins E) [] D f s):SP X pins D f s:=by
 cases f with
 | next=>obtain ⟨σ',H',I,q⟩:=h;exact ⟨σ',H',I.untry,q⟩
 | brk=>obtain ⟨σ',H',I,q⟩:=h;exact ⟨σ',H',I.untry,q⟩
 | cont=>obtain ⟨σ',H',I,q⟩:=h;exact ⟨σ',H',I.untry,q⟩
 | ret u=>obtain ⟨v,σ',H',I,r,q⟩:=h;exact ⟨v,σ',H',I.untry,r,q⟩
def offE (N:List Str) (D:Ends):Ends:={ nx:=fun _ H'=>D.nx (Zk2 N) H',rt:=D.rt,bk:=fun _ H'=>D.bk (Zk2 N) H',ct:=fun _ H'=>D.ct (Zk2 N) H' }
def hE (K:PySem.W.Frag) (PE:Addr) (N:List Str) (i:Nat) (th:TS) (D:Ends):XK:=fun c _ H1=>∃ C,c=.ref C∧PySem.W.exmOne K (.ref C) (.ref PE)=some true∧∀ (σ:St) (ea:Addr),σ.length=N.length→H1 ea=none→th (offE N D) (σ.set i (some (.ref ea))) (upd H1 ea (excA ea C))
def tTry (K:PySem.W.Frag) (PE:Addr) (N:List Str) (i:Nat) (tb:XK→TS) (th:TS):TS:=fun D σ H=>tb (hE K PE N i th D) D σ H
theorem Zrg {D:Ends} {f:Flow} {ea:Addr} {n:Str} {pos:Pos} {E:Value→Shared→Prop} (ok:X.Ok) (hl:X.env.kindOf n=some .local) (h:SP (X.hdl ea) pins (offE X.N D) f s) :
 wpAny (model X.prog X.w) X.A (do bindName X.env n .none;unbindBehindTheSuite X.env n pos) (fun _ s'=>SP X pins D f s') E s:=by
 have hp:(X.env.scope.kind == .class||(X.env.scope.kind == .module&&X.env.locals != X.env.globals))=false:=by rw [ok.kind];rfl
 cases f with
 | next=>obtain ⟨σ',H',I,q⟩:=h;obtain ⟨m,hn,_⟩:=id I.loc;exact wpAny_nameGoes hl hn hp fun h' m' n' sb=>⟨_,H',(I.unhdl ok).gone n' sb _,q⟩
 | brk=>obtain ⟨σ',H',I,q⟩:=h;obtain ⟨m,hn,_⟩:=id I.loc;exact wpAny_nameGoes hl hn hp fun h' m' n' sb=>⟨_,H',(I.unhdl ok).gone n' sb _,q⟩
 | cont=>obtain ⟨σ',H',I,q⟩:=h;obtain ⟨m,hn,_⟩:=id I.loc;exact wpAny_nameGoes hl hn hp fun h' m' n' sb=>⟨_,H',(I.unhdl ok).gone n' sb _,q⟩
 | ret u=>obtain ⟨v,σ',H',I,r,q⟩:=h;obtain ⟨m,hn,_⟩:=id I.loc;exact wpAny_nameGoes hl hn hp fun h' m' n' sb=>⟨v,_,H',(I.unhdl ok).gone n' sb _,r,q⟩
theorem Zta {body suite:List Stmt} {b₀:Stmt} {x n:Str} {i:Nat} {np hpos pos:Pos} {PE:Addr} {tb:XK→TS} {th:TS} (hst:X.stack=X.env :: X.outer) (hfr:X.env.frame=some X.env.locals)
 (hb:∀ pins E,PSs (X.tryB pins E) body (tb E)) (hh:∀ ea,PSs (X.hdl ea) (b₀ :: suite) th) (hg:Gl X x) (hm:X.mg x=some (.ref PE))
 (hN:X.N.Nodup) (hi:X.N[i]? = some n) (hl:X.env.kindOf n=some .local) (hd:(x == ("__debug__" : Str))=false:=by decide) :
 PS X (.Try body [.ExceptHandler (some (.Name x np)) (some n) (b₀ :: suite) hpos] [] [] pos) (tTry X.K PE X.N i tb th):=by
 intro pins s σ H D I h;refine wpAny_Try_except (n36_ (hb pins _ [] s σ H D (I.tryB _) h) (fun f s1 q=>?_) fun e s1 q=>?_)
 · have q':=SP.untry q;cases f with
   | next=>exact wpAny_execs_nil q'
   | brk=>exact q'
   | cont=>exact q'
   | ret u=>exact q'
 · obtain ⟨ea,T,C,H1,σ1,rfl,I1,fly,n1,n2,np1,hw⟩:=q;obtain ⟨C',eC,hx,k⟩:=hw;cases eC
   obtain ⟨vsE,xE,_⟩:=fly.2.2.2.1;refine Znn (G:=X.s₀.heap) (I1.ok.frames.trans (congrArg some hst)) (hst ▸ I1.stack) hfr fly (I1.new0 (n6_ _)) fun h2 lf fly2=>?_
   have I2:Inv X pins σ1 H1 { s1 with heap:=h2 }:=I1.left (hst ▸ lf) s1.toks fun b hb=>by
    rcases hb with rfl|rfl
    · exact ⟨n1,fly.1,fun p hp=>(np1 p hp).1,_,_,_,xE⟩
    · obtain ⟨cT,dT,ts,y,_⟩:=fly.2.2.2.2;exact ⟨n2,fly.2.1,fun p hp=>(np1 p hp).2,_,_,_,y⟩
   have nT:H1 s1.heap.objs.size=none:=I1.hok.fresh (n6_ _)
   have npT:∀ p∈X.pn++pins,p.1≠s1.heap.objs.size:=fun p hp z=>by
    have q:=(I1.pin p hp).1;exact absurd (n7_ q) (by rw [z];exact n63_ _)
   obtain ⟨g1,g2,g3,⟨vs2,x2,v2⟩,cT,dT,ts,y2,t3⟩:=id fly2;refine wpAny_handleBy_cons (codeAny_handlers_test ((Zcl (X:=X.hdl ea) (I2.hdl ea) hg hm ?_ hd))) (by intro q;cases q)
   have LT:PySem.W.Looks (model X.prog X.w) h2 (typeOf (.ref ea)) (.ref C):=by
    obtain ⟨o,e1,e2,_⟩:=x2;exact e2 ▸ (PySem.W.Looks.ld e1).andThen .now
   refine (PySem.W.exm_one I2.kIn LT hx).here ?_;show codeAny _ _ _ _ _
   refine codeAny_handlers_suite_as ?_;obtain ⟨oE,aE,_,_,wE⟩:=id x2;obtain ⟨oT,aT,_,_,wT⟩:=id y2;refine wpAny_setFlight_none aE wE v2 aT wT (Array.getElem?_eq_some_iff.mp t3).1 ?_
   have I3:Inv X pins σ1 H1 { s1 with heap:=h2.update s1.heap.objs.size (Obj.mapFields (·.setIfInBounds 3 .none)) } :=
    I2.left (S:=(· = s1.heap.objs.size)) ⟨fun b o n _ e=>Zdw n e,fun b o hb e=>⟨o.slots,Zdw (fun z=>y2.ne_frame I2.stack (z ▸ hb)) e⟩⟩ s1.toks fun b hb=>by
     subst hb;exact ⟨nT,g2,npT,_,_,_,y2⟩
   have x3:FO (h2.update s1.heap.objs.size (Obj.mapFields (·.setIfInBounds 3 .none))) ea (.ref C) none vs2:=x2.keep fun o e=>Zdw (Ne.symm g3) e;have I4:=(I3.track (C:=C) (o:=excA ea C) x3 n1 g1 (fun p hp=>(np1 p hp).1) (Zqn x3)).hdl ea;refine X9 (X:=X.hdl ea) (v:=.ref ea) I4 hN hi (Or.inl hl) rfl (fun s5 I5=>?_) (.inr hl);refine n36_ (hh ea pins s5 _ _ (offE X.N D) I5 (k σ1 ea I1.len n1)) (fun f s6 q6=>?_) fun _ _ z=>z.elim;exact Zrg I.ok hl q6
end
def fzO (o:Obj):HO:=.frz o (.own 0)
theorem Zoo {P:Program} {w:World} {H:Hp} {h:Heap} {a:Addr} {o:Obj} (e:h.get? a=some o):ObjOk P w H h a (fzO o):=⟨e,o,e⟩
def Zn6 (H:Hp) (c:Addr) (v:V):Prop:=∃ (o:Obj) (u:Value),H c=some (fzO o)∧o.data=.cell (some u)∧RelV v u
def del (H:Hp) (c:Addr):Hp:=fun a=>if a=c then none else H a
theorem Xm {H:Hp} {c a:Addr} (h:a≠c):del H c a=H a:=if_neg h
theorem Zcc {H:Hp} {c:Addr}:del H c c=none:=if_pos rfl
section
variable {X:Cx} {pins:List (Addr×Obj)} {σ:St} {H:Hp} {s:Shared}
abbrev Cx.fix (X:Cx) (x:Str):Cx:={ X with fn:=fun y=>X.fn y&&y != x }
theorem Cx.Ok.fix (ok:X.Ok) (x:Str):(X.fix x).Ok :=
 ⟨ok.mod,ok.kind,ok.glob,ok.blt,ok.above,ok.inj,ok.has,fun y c h e=>ok.cab y c (n47_.mp h).1 e,ok.hd,ok.frames,ok.stk,ok.exf,ok.bs,ok.bsz,ok.noex,ok.exfs,ok.funs,ok.frf⟩
def tFix (i:Nat) (c:Addr) (t:TE):TE:=fun σ H Q=>∃ v,σ[i]? = some (some v)∧∀ o u,o.data=.cell (some u)→RelV v u→H c=none→t σ (upd H c (fzO o)) fun w H'=>Q w (del H' c)
theorem Inv.fixOn {i:Nat} {x:Str} {c:Addr} {v:V} (I:Inv X pins σ H s) (hN:X.N[i]? = some x) (hk:X.env.scope.names.lookup x=some .cell) (hc:X.env.cells.lookup x=some c) (hf:X.fn x=true) (hv:σ[i]? = some (some v)) :
 H c=none∧(∀ o u,X.H₀ c≠some (.frz o u))∧∃ o u,o.data=.cell (some u)∧RelV v u∧Inv (X.fix x) pins σ (upd H c (fzO o)) s:=by
 obtain ⟨m,hn,hl⟩:=id I.loc;obtain ⟨u,ru,lk⟩:=hl i x v hN hv (.inr (.inl hk));have hH:H c=none:=(I.freeC x c hc).elim id fun z=>by rw [hf] at z;cases z.1
 obtain ⟨o,ho,hd⟩:s.heap.IsCell c (some u):=by
  rcases lk with ⟨k,_⟩|⟨_,c',e,z⟩
  · rw [show X.env.kindOf x=some .cell from hk] at k;cases k
  · rw [hc] at e;cases e;exact z
 have hcs:X.s₀.heap.objs.size≤c:=I.ok.cab x c hf hc;have un:∀ b,b≠c→(upd H c (fzO o)) b=H b:=fun b hb=>Zs hb;have ne:∀ b q,H b=some q→b≠c:=fun b q e z=>by rw [z,hH] at e;cases e
 refine ⟨hH,fun o' u' z=>(by have:=I.base.frzs c o' u' z;rw [hH] at this;cases this),o,u,hd,ru,?_⟩;refine ⟨I.ok.fix x,I.os,I.bare,⟨I.base.keep,I.base.slot,fun b q e n hx=>?_,I.base.there,fun b xs e=>?_,fun b w' q e=>?_,fun b ps e=>?_⟩,I.loc,I.cell,?_,fun y c' e=>?_,fun p hp=>?_,fun b q e=>?_,I.len⟩
 · rw [un b fun z=>absurd (n7_ e) (Nat.not_lt.mpr (by rw [z];exact hcs))];exact I.base.free b q e n hx
 · have q:=I.base.tups b xs e;rw [un b (ne b _ q)];exact q
 · have q':=I.base.frzs b w' q e;rw [un b (ne b _ q')];exact q'
 · obtain ⟨m,q⟩:=I.base.tbls b ps e;exact ⟨m,by rw [un b (ne b _ q)];exact q⟩
 · rw [un _ (Ne.symm (I.cne x c hc))];exact I.free
 · by_cases hcc:c'=c
   · have hy:y=x:=I.ok.inj y x c (hcc ▸ e) hc;exact .inr ⟨by show (X.fn y&&y != x)=false;rw [hy];simp,o,_,by rw [hcc,Zc];rfl⟩
   · rw [un c' hcc];exact (I.freeC y c' e).imp id fun ⟨z,q⟩=>⟨by show (X.fn y&&y != x)=false;rw [z];rfl,q⟩
 · obtain ⟨e,n,r1,r2,d⟩:=I.pin p hp
   have nc:p.1≠c:=fun z=>by
    rw [z,ho] at e;exact d (some u) (by rw [← Option.some.inj e];exact hd)
   exact ⟨e,(un _ nc).trans n,r1,r2,d⟩
 · by_cases hb:b=c
   · subst hb;rw [Zc] at e;cases e;exact Zoo ho
   · rw [un b hb] at e;refine (I.hok b q e).stay (fun _ _ _ z=>z) (fun d z=>?_) fun d xs z=>?_
     · rw [un d (ne d _ z)];exact z
     · rw [un d (ne d _ z)];exact z
theorem Inv.fixOff {x:Str} {c:Addr} (ok:X.Ok) (hc:X.env.cells.lookup x=some c) (n0:∀ o u,X.H₀ c≠some (.frz o u)) (I2:Inv (X.fix x) pins σ H s):Inv X pins σ (del H c) s:=by
 have kind:H c=none∨∃ o u,H c=some (.frz o u):=(I2.freeC x c hc).imp id fun z=>z.2
 have nt:∀ b q,H b=some q→(∀ o u,q≠.frz o u)→b≠c:=fun b q e n z=>by
  rw [z] at e
  rcases kind with k|⟨o,u,k⟩
  · rw [k] at e;cases e
  · rw [k] at e;cases e;exact n _ _ rfl
 refine ⟨ok,I2.os,I2.bare,⟨I2.base.keep,I2.base.slot,fun b q e n hx=>?_,I2.base.there,fun b xs e=>?_,fun b w' q e=>?_,fun b ps e=>?_⟩,I2.loc,I2.cell,?_,fun y c' e=>?_,fun p hp=>?_,fun b q e=>?_,I2.len⟩
 · by_cases hb:b=c
   · rw [hb];exact Zcc
   · rw [Xm hb];exact I2.base.free b q e n hx
 · have q:=I2.base.tups b xs e;rw [Xm (nt b _ q (by intro _ _ z;cases z))];exact q
 · have q':=I2.base.frzs b w' q e;have nb:b≠c:=fun z=>n0 w' q (by rw [← z];exact e);rw [Xm nb];exact q'
 · obtain ⟨m,q⟩:=I2.base.tbls b ps e;exact ⟨m,by rw [Xm (nt b _ q (by intro _ _ z;cases z))];exact q⟩
 · by_cases hb:X.env.locals=c
   · rw [hb];exact Zcc
   · rw [Xm hb];exact I2.free
 · by_cases hcc:c'=c
   · rw [hcc];exact .inl Zcc
   · rw [Xm hcc];refine (I2.freeC y c' e).imp id fun ⟨z,q⟩=>⟨?_,q⟩;have hy:y≠x:=fun w=>hcc (Option.some.inj ((w ▸ e).symm.trans hc));have z':(X.fn y&&y != x)=false:=z;rw [Bool.and_eq_false_iff] at z';exact z'.elim id fun t=>absurd (bne_eq_false_iff_eq.mp t) hy
 · obtain ⟨e,n,r⟩:=I2.pin p hp;refine ⟨e,?_,r⟩
   by_cases hb:p.1=c
   · rw [hb];exact Zcc
   · rw [Xm hb];exact n
 · have hb:b≠c:=fun z=>by rw [z,Zcc] at e;cases e
   rw [Xm hb] at e;refine (I2.hok b q e).stay (fun _ _ _ z=>z) (fun d z=>?_) fun d xs z=>?_
   · rw [Xm (nt d _ z (by intro _ _ t;cases t))];exact z
   · rw [Xm (nt d _ z (by intro _ _ t;cases t))];exact z
theorem Zps {i:Nat} {x:Str} {c:Addr} {e:Expr} {t:TE} (hN:X.N[i]? = some x) (hk:X.env.scope.names.lookup x=some .cell) (hc:X.env.cells.lookup x=some c) (hf:X.fn x=true) (he:PE (X.fix x) e t):PE X e (tFix i c t):=by
 intro pins s σ H Q I h;obtain ⟨v,hv,h⟩:=h;obtain ⟨hH,n0,o,u,hd,ru,I1⟩:=I.fixOn hN hk hc hf hv;refine n36_ (he pins s σ _ _ I1 (h o u hd ru hH)) (fun r s' q=>?_) fun _ _ z=>z;obtain ⟨w',H',I2,rw',q⟩:=q;exact ⟨w',del H' c,I2.fixOff I.ok hc n0,rw',q⟩
def CodeF (H:Hp) (c:Addr) (q:Str):Prop:=∃ (o:Obj) (vs:Array Value) (t:Tok),H c=some (fzO o)∧o.data=.fields vs∧vs[1]? = some (.str q t)
def TabF (H:Hp) (P:Addr) (q:Str):Prop:=∃ ps:Array Value,H P=some (.tbl ps)∧TriplesOk ps.toList∧∀ pos cv,codeAmong pos ps.toList=some cv→∃ c,cv=.ref c∧CodeF H c q
def BltK (K:PySem.W.Frag) (mg:Str→Option Value):Prop:=∃ (bm:Addr) (o:Obj),mg "__builtins__" = some (.ref bm)∧bm≠builtinsNs∧bm≠mainGlobals∧K.lookup bm=some o∧o.cls=.type "module" ∧ o.dict=some builtinsNs∧o.data=.plain
def LamF (H:Hp) (a:Addr) (q:Str) (params:Arguments) (body:Expr) (scope:Scope) (clos:List (Str×Addr)) (pm:Value):Prop :=
 ∃ (c:Addr) (ct:Value),H a=some (fzO { cls:=.type "function",data:=.func (PySem.W.kla_fn "<lambda>" q params body scope clos pm (.ref c) ct) })∧CodeF H c q
def Zde (P:Addr) (H H':Hp):Prop:=∀ b o,b≠P→H b=some o→H' b=some o
theorem CodeF.keep {P c:Addr} {H':Hp} {q:Str} (x:CodeF H c q) (k:Zde P H H') (n:c≠P):CodeF H' c q:=let ⟨o,vs,t,e,r⟩:=x;⟨o,vs,t,k _ _ n e,r⟩
theorem CodeF.neP {P c:Addr} {q:Str} {ps:Array Value} (x:CodeF H c q) (e:H P=some (.tbl ps)):c≠P:=fun z=>by
 obtain ⟨o,vs,t,e',_⟩:=x;rw [z,e] at e';cases e'
theorem Zfb {p:Pos} {a b:Int} {c v:Value}:∀ l:List Value,TriplesOk l→codeAmong p (l++[rawInt a,rawInt b,c])=some v→codeAmong p l=some v∨v=c
 | [],_,h=>by
   right
   simp only [List.nil_append,rawInt,codeAmong] at h;split at h
   · exact (Option.some.inj h).symm
   · cases h
 | .int x t :: .int y u :: z :: r,ht,h=>by
   simp only [List.cons_append,codeAmong] at h ⊢;split at h
   · rename_i q;left;rw [if_pos q];exact h
   · rename_i q;rw [if_neg q];exact Zfb r ht h
def tLam (mg:Str→Option Value) (P:Addr) (q:Str) (params:Arguments) (body:Expr) (scope:Scope) (clos:List (Str×Addr)):TE:=fun _ H Q=>TabF H P q∧∀ a H',Zde P H H'→TabF H' P q→H a=none→a≠P→LamF H' a q params body scope clos ((mg "__name__").getD .none)→Q (.ref a) H'
theorem Zsw {params:Arguments} {body:Expr} {scope:Scope} {pos:Pos} {clos:List (Str×Addr)} {cc P:Addr} {q:Str} (hdef:defaultsOf params X.env=([],[])) (hcl:closureFor scope X.env=pure clos) (hcode:X.env.code=.ref cc)
 (hq:X.env.qual ++ "<lambda>" = q) (CK:∀ h,X.K.In h→PySem.W.CodeHd h cc P) (BK:BltK X.K X.mg):PE X (.Lambda params body scope pos) (tLam X.mg P q params body scope clos):=by
 intro pins s σ H Q I h;obtain ⟨⟨ps,hP,ht,hcs⟩,k⟩:=h;have tab:s.heap.get? P=some (PySem.W.tabObj ps):=I.hok P _ hP;have g:s.heap.Ns mainGlobals X.mg:=I.mod.glob.keeps I.bk
 have nB:∀ b o,X.base.get? b=some o→b≠P:=fun b o e z=>by
  have:=(I.bs b o e).2
  rw [z,hP] at this;cases this
 have gP:mainGlobals≠P:=by
  obtain ⟨o,_,_,e,_⟩:=I.mod.glob;exact nB _ o e
 have bat:s.heap.BuiltinsAt X.mg P:=by
  obtain ⟨bm,o,h1,h2,h3,h4,h5⟩:=BK;exact ⟨bm,o,h1,h2,h3,nB _ o (I.mod.kin _ _ h4),I.kIn _ _ h4,h5⟩
 refine PySem.W.kla_eval hdef ?_;rw [hq];cases hc:codeAmong pos ps.toList with
 | some cv =>
   obtain ⟨c,rfl,cf⟩:=hcs pos cv hc;refine PySem.W.kla_makeFunctionHit (mg:=X.mg) hcl I.ok.glob g hcode (CK _ I.kIn) tab ht hc bat fun ctv h' tk kp sz=>?_;have na:H h'.objs.size=none:=I.hok.fresh sz;have un:∀ b o,H b=some o→b≠h'.objs.size:=fun b o e z=>by rw [z,na] at e;cases e
   refine ⟨.ref h'.objs.size,upd H h'.objs.size (fzO _),I.laid (t':=tk) (fun b u e=>n2_ _ (kp b u e)) sz (Zoo (n10_ h' rfl)),rfl,?_⟩;have kk:Zde P H (upd H h'.objs.size (fzO { cls:=.type "function",data:=.func (PySem.W.kla_fn "<lambda>" q params body scope clos ((X.mg "__name__").getD .none) (.ref c) ctv) })):=fun b o _ e=>by rw [Zs (un b o e)];exact e
   have cf':∀ {d:Addr},CodeF H d q→CodeF (upd H h'.objs.size (fzO { cls:=.type "function",data:=.func (PySem.W.kla_fn "<lambda>" q params body scope clos ((X.mg "__name__").getD .none) (.ref c) ctv) })) d q:=fun x=>x.keep kk (x.neP hP);refine k _ _ kk ⟨ps,by rw [Zs (un _ _ hP)];exact hP,ht,fun p v e=>?_⟩ na (fun z=>un _ _ hP z.symm) ⟨c,ctv,Zc,cf' cf⟩;obtain ⟨d,e1,e2⟩:=hcs p v e;exact ⟨d,e1,cf' e2⟩
 | none =>
   refine PySem.W.kla_makeFunction (mg:=X.mg) hcl I.ok.glob g hcode (CK _ I.kIn) tab ht hc gP bat fun c ctv h' tk ext hge hlt hrec htab=>?_;obtain ⟨c0,oc,vs,tq,ec,hoc,hdc,hqc⟩:=hrec;cases ec
   generalize hfo:({ cls:=.type "function",data:=.func (PySem.W.kla_fn "<lambda>" q params body scope clos ((X.mg "__name__").getD .none) (.ref c) ctv) }:Obj)=fo;have ff:fo.isFreed=false:=by rw [← hfo];rfl
   have nc:H c=none:=I.hok.fresh hge;have sz:s.heap.objs.size≤h'.objs.size:=n32_ hge (Nat.le_of_lt hlt);have na:H h'.objs.size=none:=I.hok.fresh sz;have cP:c≠P:=fun z=>by rw [z,hP] at nc;cases nc
   have aP:h'.objs.size≠P:=fun z=>by rw [z,hP] at na;cases na
   have ac:h'.objs.size≠c:=n56_ hlt;have kp:∀ b o,b≠P→s.heap.get? b=some o→(h'.push fo).get? b=some o:=fun b o n e=>n2_ _ (ext b o n e);have nP:∀ b,H b=none→b≠P:=fun b n z=>by rw [z,hP] at n;cases n
   generalize hps:ps++#[rawInt pos.line,rawInt pos.col,.ref c]=ps' at htab;generalize hH':upd (upd (upd H P (.tbl ps')) c (fzO oc)) h'.objs.size (fzO fo)=H';have atP:H' P=some (.tbl ps'):=by rw [← hH',Zs (Ne.symm aP),Zs (Ne.symm cP)];exact Zc
   have atc:H' c=some (fzO oc):=by rw [← hH',Zs (Ne.symm ac)];exact Zc
   have ata:H' h'.objs.size=some (fzO fo):=by rw [← hH'];exact Zc
   have oth:∀ b,b≠P→b≠c→b≠h'.objs.size→H' b=H b:=fun b h1 h2 h3=>by rw [← hH',Zs h3,Zs h2,Zs h1]
   have tr:∀ b o,b≠P→H b=some o→H' b=some o:=fun b o n e=>by
    rw [oth b n (fun z=>by rw [z,nc] at e;cases e) (fun z=>by rw [z,na] at e;cases e)];exact e
   have I1:Inv X pins σ H' { s with heap:=h'.push fo,toks:=tk }:=by
    refine I.step (g':=s.gens) (d':=s.drawn) (ch:=[]) (fun _ z=>nomatch z) (fun b o _ _ _ e n=>kp b o (nP b n) e) (fun b o _ _ _ e n=>⟨o.slots,kp b o (nP b n) e⟩) (fun b o _ e n=>?_) (fun b o _ e=>?_) (fun b xs e=>tr b _ ?_ e) (fun b o u e=>tr b _ ?_ e)
     (fun b qs e=>?_) (fun m hm=>?_) (fun b u e=>?_) I.bare
    · have lb:=n7_ e;rw [oth b (nP b n) (n24_ (n9_ lb hge)) (n24_ (n9_ lb sz))];exact n
    · by_cases hb:b=P
      · exact ⟨_,hb ▸ n2_ _ htab⟩
      · exact ⟨o,kp b o hb e⟩
    · intro z;rw [z,hP] at e;cases e
    · intro z;rw [z,hP] at e;cases e
    · by_cases hb:b=P
      · subst hb;rw [hP] at e;cases e;exact ⟨_,by rw [hps];exact atP⟩
      · exact ⟨#[],by rw [Array.append_empty];exact tr b _ hb e⟩
    · obtain ⟨o,es,ep,ho,r⟩:=hm;exact ⟨o,es,ep,kp _ o (nP _ I.free) ho,r⟩
    · by_cases h1:b=P
      · subst h1;rw [atP] at e;cases e;exact n2_ _ htab
      · by_cases h2:b=c
        · subst h2;rw [atc] at e;cases e;exact Zoo (n2_ _ hoc)
        · by_cases h3:b=h'.objs.size
          · subst h3;rw [ata] at e;cases e;exact Zoo (n10_ h' ff)
          · rw [oth b h1 h2 h3] at e;refine (I.hok b u e).stay (fun d v hd z=>kp d v ?_ z) (fun d z=>tr d _ ?_ z) fun d xs z=>tr d _ ?_ z
            · rcases hd with r|r
              · rw [r];exact h1
              · intro z';rw [z',hP] at r;cases r
            · intro z';rw [z',hP] at z;cases z
            · intro z';rw [z',hP] at z;cases z
   have cfc:CodeF H' c q:=⟨oc,vs,tq,atc,hdc,hqc⟩;subst hfo;refine ⟨.ref h'.objs.size,H',I1,rfl,k _ _ tr ⟨ps',atP,?_,fun p v e=>?_⟩ na aP ⟨c,ctv,ata,cfc⟩⟩
   · rw [← hps,Array.toList_append];exact TriplesOk_snoc _ _ _ _ ht
   · rw [← hps,Array.toList_append] at e
     rcases Zfb ps.toList ht e with e'|e'
     · obtain ⟨d,e1,e2⟩:=hcs p v e';exact ⟨d,e1,e2.keep tr (e2.neP hP)⟩
     · exact ⟨c,e',cfc⟩
end
section
variable {P:Program} {w:World} {K:PySem.W.Frag} {mg:Str→Option Value} {base:Heap}
def Zld (P:Program) (w:World) (K:PySem.W.Frag) (mg:Str→Option Value) (base:Heap) (k:Nat) (a:Addr) (sp:Hp→VK→XK→Prop):Prop :=
 ∀ (A:Around) (outer:List Env) (s:Shared) (H:Hp) (Q:VK) (E:XK),Room k A→Env0 P w K mg base A outer s H→sp H Q E→codeAny (model P w) A (.call (.ref a) ⟨[],[]⟩) (CR (CX1 P w) outer P w H s Q E) s
abbrev Zfm (scope:Scope) (L:Addr) (clos:List (Str×Addr)) (q:Str) (a:Addr) (cd:Value):Env:=newEnv scope L mainGlobals clos (q ++ ".<locals>.") (some a) cd none builtinsNs
def cxL (P:Program) (w:World) (K:PySem.W.Frag) (mg:Str→Option Value) (base:Heap) (N:List Str) (env:Env) (A:Around) (outer:List Env) (s:Shared) (H:Hp) (E:XK):Cx where
 prog:=P
 w:=w
 K:=K
 mg:=mg
 base:=base
 A:=A.deeper env
 N:=N
 s₀:=s
 H₀:=H
 env:=env
 outer:=outer
 stack:=env :: outer
 ex:=[]
 calm:=true
 fn:=fun _=>false
 pn:=[]
 xe:=fun e s'=>wpAny (model P w) (A.deeper env) (leaving env e) (fun _ s''=>CX1 P w outer H s E e s'') (fun e' s''=>CX1 P w outer H s E e' s'') s'
theorem Zt9 {N:List Str} {scope:Scope} {L:Addr} {clos:List (Str×Addr)} {q:Str} {a:Addr} {cd:Value} {A:Around} {outer:List Env} {s:Shared} {H:Hp} {E:XK}:XeOk (cxL P w K mg base N (Zfm scope L clos q a cd) A outer s H E) E :=
 ⟨rfl,rfl,rfl,fun _ _ h=>n36_ h (fun _ _ z=>z) fun _ _ z=>z.elim⟩
theorem Zsy {q:Str} {params:Arguments} {body:Expr} {scope:Scope} {clos:List (Str×Addr)} {pm:Value} {N:List Str} {k:Nat} {a:Addr} {sp:Hp→VK→XK→Prop} (hk:scope.kind=.function) (hco:scope.isCoroutine=false) (hgen:scope.isGenerator=false)
 (hnc:∀ x∈scope.names,x.2≠.cell) (hb:∀ cd ct,bindArgs (PySem.W.kla_fn "<lambda>" q params body scope clos pm cd ct) ⟨[],[]⟩=pure []) (inj:∀ x y c,clos.lookup x=some c→clos.lookup y=some c→x=y)
 (has:∀ x,scope.names.lookup x=some .free→∃ c,clos.lookup x=some c) (hfree:∀ (i:Nat) x,N[i]? = some x→scope.names.lookup x=some .free)
 (hf:∀ H Q E,sp H Q E→LamF H a q params body scope clos pm∧∀ x c,clos.lookup x=some c→∃ o v,H c=some (fzO o)∧o.data=.cell v)
 (h:∀ (A:Around) (outer:List Env) (s:Shared) (H:Hp) (Q:VK) (E:XK) (cd:Value),Room k (A.deeper (Zfm scope s.z clos q a cd))→sp H Q E →
   ∃ (σ:St) (t:TE),σ.length=N.length∧(∀ (i:Nat) x v,N[i]? = some x→σ[i]? = some (some v)→∃ c,clos.lookup x=some c∧Zn6 H c v)∧PE (cxL P w K mg base N (Zfm scope s.z clos q a cd) A outer s H E) body t∧t σ H Q) :
 Zld P w K mg base (k+1) a sp:=by
 intro A outer s H Q E hr e0 hs;obtain ⟨⟨c,ct,hA,oc,vs,tq,hc,hdc,hqc⟩,hcl⟩:=hf H Q E hs;obtain ⟨σ,t,hσ,hloc,pe,ht⟩:=h A outer s H Q E (.ref c) (hr.deeper _) hs;have lim:s.heap.NoLimit:=e0.mod.nolimit.keeps fun b o e=>(e0.bs b o e).1;refine PySem.W.kla_callFunE hr.depth (e0.hok a _ hA).1 rfl hco hgen rfl ⟨c,oc,vs,tq,rfl,(e0.hok c _ hc).1,hdc,hqc⟩ ?_;rw [hb];refine n4_ (wpAny_newFunctionEnv hnc (fun x hx=>nomatch hx) (fun h1 hn sb=>?_) hk);have kp:∀ b o,s.heap.get? b=some o→h1.get? b=some o:=fun b o e=>(sb.2 b (n24_ (n7_ e))).trans (n2_ _ e)
 have cel:∀ {x:Str} {d:Addr},clos.lookup x=some d→∃ v,h1.IsCell d v:=fun {x d} e=>by
  obtain ⟨o,v,h1',h2⟩:=hcl x d e;exact ⟨v,o,kp _ _ (e0.hok d _ h1').1,h2⟩
 have nil:∀ b:Addr,b∉([]:List Addr):=fun b z=>by simp at z
 have I:Inv (cxL P w K mg base N (Zfm scope s.z clos q a (.ref c)) A outer s H E) [] σ H { s with heap:=h1,toks:=s.toks+([]:List (Str×Value)).length }:=by
  refine ⟨⟨e0.mod,hk,rfl,rfl,n6_ _,inj,fun x hx=>?_,fun x d z _=>(nomatch z),fun _=>hr.hd,Around.frames_deeper e0.frames,.inr ⟨rfl,rfl⟩,fun b z=>absurd z (nil b),e0.bs,e0.bsz,fun b _ _=>nil b,fun b z=>absurd z (nil b),e0.funs,e0.frf⟩,
   rfl,e0.bare,Un.kept kp,⟨_,hn,fun i x v e1 e2 _=>?_⟩,fun x d e=>cel e,e0.hok.fresh (n6_ _),fun x d e=>?_,fun p hp=>absurd (show p∈([]:List (Addr×Obj)) from hp) (by simp),e0.hok.kept kp,hσ⟩
  · rcases hx with z|z
    · exact absurd rfl (hnc _ (n28_ (show scope.names.lookup x=some .cell from z)))
    · exact has x z
  · obtain ⟨d,e3,o,u,e4,e5,r⟩:=hloc i x v e1 e2;exact ⟨u,r,.inr ⟨.inr (hfree i x e1),d,e3,o,kp _ _ (e0.hok d _ e4).1,e5⟩⟩
  · obtain ⟨o,v,e1,_⟩:=hcl x d e;exact .inr ⟨rfl,o,_,e1⟩
 refine ⟨lim.keeps kp,PySem.W.kla_codeExpr ?_⟩;refine n36_ (pe [] _ σ H _ I ht) (fun u s' hq=>?_) fun e s' hq=>hq;obtain ⟨v,H',J,r,q'⟩:=hq;exact ⟨v,H',J.os,J.bare,J.base,J.hok,r,q'⟩
end
section
variable {X:Cx}
theorem Zn7 {i k j:Nat} {x:Str} {E:XK} {p pos:Pos} (P:Program) (w:World) (K:PySem.W.Frag) (mg:Str→Option Value) (base:Heap) (hp:X.prog=P∧X.w=w∧X.K=K∧X.mg=mg∧X.base=base) (hN:X.N[i]? = some x) (hv:Vis X.env.scope x) (hx:Zcv (CX1 X.prog X.w) X E) (hr:Room j X.A) (hj:k≤j) (hd:(x == ("__debug__" : Str))=false:=by decide) (hcd:(x == ("__classdict__" : Str))=false:=by decide) :
 PE X (.Call (.Name x p) [] [] pos) (fun σ H Q=>∃ a sp o fd,σ[i]? = some (some (.ref a))∧H a=some (fzO o)∧o.data=.func fd∧Zld P w K mg base k a sp∧sp H Q E):=by
 obtain ⟨rfl,rfl,rfl,rfl,rfl⟩:=hp;rintro pins s σ H Q I ⟨a,sp,o,fd,ha,hA,hf,L,hs⟩
 refine wpAny_Call_Name_kw (thn (Zpg (pos:=p) hN hv hd hcd pins s σ H (fun v H1=>v=.ref a∧H1=H) I ⟨_,ha,rfl,rfl⟩) fun f s1 ⟨v,H1,I1,r,e1,e2⟩=>?_);subst e1 e2;obtain rfl:f=.ref a:=r;refine Calls.callWith_function (first:=[]) (PySem.evalArgs_none ⟨⟨(I1.hok a _ hA).1,hf⟩,?_⟩);refine wpAny_call (codeAny_mono (L X.A X.stack s1 H1 Q E (hr.mono hj) I1.env0 hs) fun r s' hq=>?_);cases r with
 | error e=>exact hx pins σ H1 s1 e s' I1 hq
 | ok fl =>
   cases fl with
   | ret u=>exact I1.after hq
   | next=>exact False.elim hq
   | brk=>exact False.elim hq
   | cont=>exact False.elim hq
end
structure RoomH (k:Nat) (A:Around):Prop where
 dp:A.depth+3*k+5<recursionLimit
 un:A.units+16*k+200<cLine
 gd:A.guards=some []
theorem RoomH.mono {j k:Nat} {A:Around} (r:RoomH k A) (h:j≤k):RoomH j A:=⟨by have:=r.dp;omega,by have:=r.un;omega,r.gd⟩
theorem RoomH.deeper {k:Nat} {A:Around} (r:RoomH (k+1) A) (env:Env):RoomH k (A.deeper env) :=
 ⟨by have:=r.dp;show A.depth+1+3*k+5<_;omega,by have:=r.un;show A.units+3+16*k+200<_;omega,r.gd⟩
theorem Room.marked {k:Nat} {A:Around} (r:Room k A) (e:Option Value):RoomH k (A.mark e):=⟨r.dp,r.un,r.gd⟩
structure FnOkH (P:Program) (w:World) (K:PySem.W.Frag) (mg:Str→Option Value) (base:Heap) (k:Nat) (f:Addr) (fd:FuncData) (ps:List Str) (sp:Sp):Prop where
 len:∀ vs H Q E,sp vs H Q E→vs.length=ps.length
 run:∀ (A:Around) (outer:List Env) (s:Shared) (H:Hp) (args:Args) (us:List Value) (vs:List V) (Q:VK),RoomH k A→Env0 P w K mg base A outer s H→BindsTo s fd args (ps.zip us)→Vals vs us→sp vs H Q E0 →
  codeAny (model P w) A (.call (.ref f) args) (CR CX0 outer P w H s Q E0) s
def cxH (P:Program) (w:World) (K:PySem.W.Frag) (mg:Str→Option Value) (base:Heap) (N:List Str) (qual:Str) (scope:Scope) (f:Addr) (cd:Value) (A:Around) (outer:List Env) (s:Shared) (H:Hp):Cx :=
 { cxOf CX0 P w K mg base N qual scope f cd A outer s H E0 with calm:=false,xe:=fun _ _=>False }
section
variable {P:Program} {w:World} {K:PySem.W.Frag} {mg:Str→Option Value} {base:Heap}
theorem Fun.okH {x qual:Str} {st:Stmt} {f:Addr} {fd:FuncData} {N ps:List Str} {k:Nat} {sp:Sp} (F:Fun K x qual st f fd) (S:FnScope N ps (Zg st)) (len:∀ vs H Q E,sp vs H Q E→vs.length=ps.length)
 (hbody:∀ (cdv:Value) (A:Around) (outer:List Env) (s:Shared) (H:Hp) (vs:List V) (Q:VK),RoomH k (A.deeper (envOfC qual (Zg st) s.z f cdv))→sp vs H Q E0 →
   ∃ t,PSs (cxH P w K mg base N qual (Zg st) f cdv A outer s H) (Y0 st) t∧t { nx:=fun _ H'=>Q .non H',rt:=Q } (start N vs) H):FnOkH P w K mg base (k+1) f fd ps sp:=by
 obtain ⟨oc,od,kV,doc,pm,an,cdv,ct,osl,rfl,lk,hcd⟩:=F.ex;refine ⟨len,fun A outer s H args us vs Q hr e0 hb r hsp=>?_⟩;have hl:=len _ _ _ _ hsp;have KX:K.In s.heap:=e0.mod.kin.keeps fun b o e=>(e0.bs b o e).1;have lim:s.heap.NoLimit:=e0.mod.nolimit.keeps fun b o e=>(e0.bs b o e).1
 have hkind:∀ y∈ps.zip us,(Zg st).names.lookup y.1=some .local∨((Zg st).names.lookup y.1=some .cell∧((cellsFrom (s.z+1) (Zg st).names []).lookup y.1).isSome=true):=fun ⟨n,v⟩ hy=>by
  rcases S.par n (List.of_mem_zip hy).1 with q|q
  · exact .inl q
  · exact .inr ⟨q,PySem.W.cellsFrom_some _ _ _ (.inl q)⟩
 refine codeAny_call_function (by have:=hr.dp;omega) (KX _ _ lk) rfl S.co S.gen rfl (PySem.W.codeRec_of KX hcd) (hb _ _ _ _ ?_);refine wpAny_newFunctionEnv_cells S.kind hkind fun env he s1 x=>?_;subst he;refine ⟨lim.keeps x.toInCall.keep,codeAny_func ?_⟩;obtain ⟨t,ht,hq⟩:=hbody cdv A outer s H vs Q (hr.deeper _) hsp;have e1:Env0 P w K mg base { A with handled:=none } outer s H:=⟨e0.frames,e0.mod,e0.bs,e0.bsz,e0.funs,e0.frf,e0.hok,e0.bare⟩;have I0:Inv (cxOf CX0 P w K mg base N qual (Zg st) f cdv { A with handled:=none } outer s H E0) [] (start N vs) H s1:=Zig S rfl e1 hl r x
 have I:Inv (cxH P w K mg base N qual (Zg st) f cdv A outer s H) [] (start N vs) H s1 :=
  let ok:=I0.ok
  ⟨⟨ok.mod,ok.kind,ok.glob,ok.blt,ok.above,ok.inj,ok.has,ok.cab,fun z=>(nomatch z),Around.frames_deeper e0.frames,ok.stk,ok.exf,ok.bs,ok.bsz,ok.noex,ok.exfs,ok.funs,ok.frf⟩,I0.os,I0.bare,I0.base,I0.loc,I0.cell,I0.free,I0.freeC,I0.pin,I0.hok,I0.len⟩
 refine n36_ (ht [] s1 (start N vs) H _ I hq) (fun fl s' hs=>?_) fun e s' hs=>hs.elim
 have fin:∀ {σ':St} {H':Hp} {v:V} {u:Value},Inv (cxH P w K mg base N qual (Zg st) f cdv A outer s H) [] σ' H' s'→RelV v u→Q v H'→CE outer P w H s Q u s' :=
  fun {σ' H' v u} J rv q=>⟨v,H',J.os,J.bare,J.base,J.hok,rv,q⟩
 cases fl with
 | ret u =>
   obtain ⟨v,σ',H',J,rv,q⟩:=hs;exact fin J rv q
 | next =>
   obtain ⟨σ',H',J,q⟩:=hs;exact fin (v:=V.non) (u:=Value.none) J rfl q
 | brk =>
   obtain ⟨_,_,_,q⟩:=hs;exact False.elim q
 | cont =>
   obtain ⟨_,_,_,q⟩:=hs;exact False.elim q
structure CalH (P:Program) (w:World) (K:PySem.W.Frag) (mg:Str→Option Value) (base:Heap) (x:Str) (k:Nat) (ps:List Str) (sp:Sp):Prop where
 ex:∃ (f:Addr) (fd:FuncData),FnOkH P w K mg base k f fd ps sp∧mg x=some (.ref f)∧PySem.W.keepIn K (.ref f)=true∧Binds K fd ps []
theorem Zqw {X:Cx} {x:Str} {k j:Nat} {ps:List Str} {sp:Sp} {p pos:Pos} {e:Expr} {es:List Expr} {t:TA} (C:CalH X.prog X.w X.K X.mg X.base x k ps sp) (hr:RoomH j X.A) (hj:k≤j) (hg:Gl X x) (ha:PA X (e :: es) t)
 (hdb:(x == ("__debug__" : Str))=false:=by decide) (he:starEach (e :: es) X.env=(false,eval e X.env) :: starEach es X.env:=by rfl) (hpl:(backTo pos (starEach es X.env)).any (·.1)=false:=by rfl) :
 PE X (.Call (.Name x p) (e :: es) [] pos) (fun σ H Q=>t σ H fun vs H1=>sp vs H1 Q E0):=by
 obtain ⟨f,fd,F,hm,hk,hb⟩:=C.ex;intro pins s σ H Q I h;refine wpAny_Call_Name_kw (Zcl I hg hm ?_ hdb);refine PySem.W.callWith_K (h₀:=X.base) I.ok.mod.kin hk (thn (ha pos pins s σ H _ I h) fun us s1 ⟨vs,H1,I1,r,q⟩=>⟨I1.kIn,?_⟩) he hpl;have hl:us.length=ps.length:=by rw [← r.length];exact F.len _ _ _ _ q
 have hb':=hb s1 us I1.kIn (by rw [List.append_nil];exact hl);rw [List.append_nil] at hb';refine wpAny_call (codeAny_mono (F.run X.A X.stack s1 H1 ⟨us,[]⟩ us vs Q (hr.mono hj) I1.env0 hb' r q) fun r s' hq=>?_);cases r with
 | error e=>exact False.elim hq
 | ok fl =>
   cases fl with
   | ret u=>exact I1.after hq
   | next=>exact False.elim hq
   | brk=>exact False.elim hq
   | cont=>exact False.elim hq
end
section
variable {X:Cx}
theorem Zsq:EqT X 0 (fun _ v (b:Bool)=>v=.bl b):=by
 intro A pins σ H s v u a b x y hu I h1 h2 r1 r2;subst h1 h2;obtain rfl:a=.bool x:=r1;obtain rfl:b=.bool y:=r2;have e:(x == y)=decide (x=y):=by cases x<;>cases y<;>rfl
 exact e ▸ SeqAt.EqAt.bool_bool x y
theorem Zt8 {H:Hp}:∀ (bs:List Bool),Al (fun v b=>v=V.bl b) (bs.map V.bl) bs:=fun bs=>⟨by rw [n23_],fun i v b e1 e2=>by
 rw [n11_,e2] at e1;exact (Option.some.inj e1).symm⟩
theorem Znq (hu:X.A.units+1<cLine):MtR X "list.index" (fun x xs H Q=>∃ (p:Addr) (bs:List Bool) (j:Nat),x=.ref p∧xs=[.bl true]∧H p=some (.lst (bs.map V.bl))∧bs[j]? = some true∧(∀ m,m<j→bs[m]?≠some true)∧bs.length≤1000∧Q (.int j) H):=by
 intro pins s σ H x xs v us Q I rx rv h;obtain ⟨p,bs,j,rfl,rfl,e,h1,h2,h3,q⟩:=h;exact Znx (Zsq (X:=X)) (fun _ _ _ _ a b=>by rw [a] at b;exact V.bl.inj b) (by omega) pins s σ H _ _ v us Q I rx rv ⟨p,_,bs,_,true,j,rfl,rfl,e,Zt8 (H:=H) bs,rfl,h1,h2,h3,q⟩
structure ExcLook (K:PySem.W.Frag) (C:Addr):Prop where
 cls:(PySem.W.clsIn K C).isSome=true
 ga:PySem.W.findIn K (.ref C) "__getattribute__" = some (some (.builtin "BaseException.__getattribute__"))
 gt:PySem.W.findIn K (.ref C) "__getattr__" = some none
 find:PySem.W.findObj K C none "__class__" = some (.bind (.builtin "getset_descriptor.__get__") (.builtin "object.__class__"))
 mro:PySem.W.mroIn K C (.type "object")=some true
 bas:PySem.W.mroIn K C (.type "BaseException")=some true
section
variable {prog:Program} {w:World} {A:Around} {E:Value→Shared→Prop} {h:Heap} {g:Array GenState} {d:PySem.Drawn} {t:Nat} {os:OsState} {x C:Addr} {ox:Obj} {K:PySem.W.Frag}
theorem Zmv {tk:Tok} {Q:Fin→Shared→Prop} (X:K.In h) (I:PySem.W.InstAt h x ox C none) (Z:ExcLook K C) (hq:Q (.done (.ret (.ref C))) ⟨h,g,d,t,os⟩) :
 wpAny (model prog w) A (Builtin.«object.__getattribute__» ⟨[.ref x,.str "__class__" tk],[]⟩) Q E ⟨h,g,d,t,os⟩:=by
 have L0:=I.type (M:=model prog w);have L1:=PySem.W.looks_find (M:=model prog w) X I Z.find;unfold Builtin.«object.__getattribute__»
 repeat (any_goals (first|assumption|with_reducible refine L0.at ?_|with_reducible refine L1.at ?_|wp_step))
 refine PySem.W.class_get (s:=⟨h,g,d,t,os⟩) (ox:=ox) (od:=none) X I Z.mro ?_
 repeat (any_goals (first|assumption|wp_step))
theorem Zmq {M:Model} {nameV:Value} {Q:Unit→Shared→Prop} (X:K.In h) (I:PySem.W.InstAt h x ox C none) (Z:ExcLook K C) (hq:Q () ⟨h,g,d,t,os⟩):wpAny M A (checkBuiltinCall "BaseException.__getattribute__" ⟨[.ref x,nameV],[]⟩) Q E ⟨h,g,d,t,os⟩:=by
 have two:(builtinKind "BaseException.__getattribute__",splitId "BaseException.__getattribute__")=(some .slot,some ("BaseException","__getattribute__")):=by decide +kernel
 obtain ⟨z1,z2⟩:=Prod.mk.inj two;have fits:=F.args_bexc_ga (.ref x) nameV;have L0:=I.type (M:=M);have L1:=PySem.W.looks_mroIn (M:=M) X Z.bas;simp only [checkBuiltinCall,z1,z2];refine n0_ ?_
 · unfold isInstance
   repeat (first|with_reducible refine L0.at ?_|with_reducible refine L1.at ?_|wp_step)
   exact hq
theorem Zne {Q:Option Value→Shared→Prop} (X:K.In h) (I:PySem.W.InstAt h x ox C none) (Z:ExcLook K C) (hq:Q (some (.ref C)) ⟨h,g,d,t+1,os⟩) :
 wpAny (model prog w) A (getAttr? (.ref x) "__class__") Q E ⟨h,g,d,t,os⟩:=by
 have L0:=I.type (M:=model prog w);have L1:=PySem.W.looks_findIn (M:=model prog w) X Z.ga;have L2:=PySem.W.looks_findIn (M:=model prog w) X Z.gt;have f3:=F.attr_ValueError.ga.bind (.ref x);have un:(Value.builtin "BaseException.__getattribute__" == .builtin "object.__getattribute__")=false:=by decide +kernel
 have off:(onTheHeap (.ref C)&&Value.builtin "BaseException.__getattribute__" == .builtin "object.__getattribute__")=false:=by rw [un];rfl
 unfold getAttr? getAttrBy? getAttrBy
 repeat (any_goals (first|assumption|with_reducible refine L0.at ?_|with_reducible refine L1.at ?_|with_reducible refine L2.at ?_|wp_step))
 refine codeAny_call_builtin F.attr_ValueError.ga.plain F.entry_bexc_ga (Zmq X I Z (Zmv X I Z ?_))
 repeat (any_goals (first|assumption|wp_step))
end
theorem Zj3 {K:PySem.W.Frag} {ea C:Addr} (Z:ExcLook K C):PySem.W.KitX K (.ref ea) (.ref C) (fun h=>∃ vs,FO h ea (.ref C) none vs) where
 ty:=fun M h _ ⟨vs,o,e,ec,_⟩=>ec ▸ (PySem.W.Looks.ld e).andThen .now
 it:=fun M h XK _=>by
  obtain ⟨cd,hc⟩:=Option.isSome_iff_exists.mp Z.cls;unfold PySem.W.clsIn at hc;split at hc
  · rename_i c' d' cd' sl' ho
    intro A' Q' E' s' k q;unfold isType loadHead;exact n0_ (wpAny_loadPart (k _ _ (XK _ _ ho)) (n4_ q))
  · cases hc
 ne:=fun h tp dd its n sl XK htp=>Bool.eq_false_iff.mpr fun q=>by
  have e:C=tp:=Value.ref.inj (beq_iff_eq.mp q);obtain ⟨cd,hc⟩:=Option.isSome_iff_exists.mp Z.cls;unfold PySem.W.clsIn at hc;split at hc
  · rename_i c' d' cd' sl' ho
    have z:=(XK _ _ ho).symm.trans (e ▸ htp);cases z
  · cases hc
 ca:=fun {prog w A E Q s} XK ⟨vs,o,e,ec,ed,ev⟩ k=>by
  have I:PySem.W.InstAt s.heap ea o C none:=⟨e,ec,by unfold PySem.W.notCls;rw [ev],by rw [ed];trivial⟩;obtain ⟨h,g,d,t,os⟩:=s;exact Zne XK I Z k
theorem Zv:Xz X (.builtin "isinstance") (fun xs H Q=>∃ (ea C:Addr) (d:V) (b:Bool),xs=[.ref ea,d]∧H ea=some (excA ea C)∧ExcLook X.K C∧((∃ D,d=.ref D∧PySem.W.kitOne X.K (.ref C) (.ref D)=some b)∨∃ T,d=.ty T∧PySem.W.kitOne X.K (.ref C) (.type T)=some b)∧Q (.bl b) H):=by
 intro pins s σ H xs us Q I r h;obtain ⟨ea,C,d,b,rfl,hA,Z,hd,q⟩:=h;obtain ⟨u,v,rfl,r1,r2⟩:=r.two;cases (show u=.ref ea from r1)
 have ob:=(show ObjOk X.prog X.w H s.heap ea (excA ea C) from I.hok ea _ hA).1
 rcases hd with ⟨D,rfl,hk⟩|⟨T,rfl,hk⟩
 · cases (show v=.ref D from r2)
   exact n46_ (Zj3 Z) I.kIn ob hk (by simp) fun tk=>⟨.bl b,H,I.tok _,rfl,q⟩
 · cases (show v=.type T from r2)
   exact n46_ (Zj3 Z) I.kIn ob hk (by simp) fun tk=>⟨.bl b,H,I.tok _,rfl,q⟩
end
section
variable {P:Program} {w:World} {K:PySem.W.Frag} {mg:Str→Option Value} {base:Heap}
theorem Fun.okC {x qual:Str} {st:Stmt} {f:Addr} {fd:FuncData} {N ps:List Str} {k:Nat} {sp:Sp} (F:Fun K x qual st f fd) (S:FnScope N ps (Zg st)) (len:∀ vs H Q E,sp vs H Q E→vs.length=ps.length)
 (hbody:∀ (cdv:Value),fd.code=cdv→∀ (A:Around) (outer:List Env) (s:Shared) (H:Hp) (vs:List V) (Q:VK) (E:XK),Room k (A.deeper (envOfC qual (Zg st) s.z f cdv))→sp vs H Q E →
   ∃ t,PSs (cxOf CX0 P w K mg base N qual (Zg st) f cdv A outer s H E).nox (Y0 st) t∧t { nx:=fun _ H'=>Q .non H',rt:=Q } (start N vs) H):FnOk P w K mg base CX0 (k+1) f fd ps sp:=by
 obtain ⟨oc,od,kV,doc,pm,an,cdv,ct,osl,rfl,lk,hcd⟩:=F.ex;refine Zrj lk hcd S len fun A outer s H vs Q E hr hsp=>?_;obtain ⟨t,h,q⟩:=hbody cdv rfl A outer s H vs Q E hr hsp;exact ⟨t,h.nox,q⟩
end
theorem Zsj {A:Around} {k:Nat} (hr:RoomH k A):A.units+1<cLine:=by have:=hr.un;omega
section
variable {X:Cx}
theorem Zrl:EqT X 0 (fun _ v (x:Str)=>v=.str x):=by
 intro A pins σ H s v u a b x y hu I h1 h2 r1 r2;subst h1 h2;obtain ⟨t,rfl⟩:=r1;obtain ⟨t',rfl⟩:=r2
 have e:(x == y)=decide (x=y):=by
  by_cases h:x=y
  · rw [h,n19_ rfl];exact beq_self_eq_true y
  · rw [n8_ h];exact beq_eq_false_iff_ne.mpr h
 exact e ▸ SeqAt.EqAt.str_str x t y t'
end
variable {N:Addr→Prop} {k:Nat}
section
variable {H H':Hp} {P c c1:Addr} {q:Str}
theorem CodeF.mv (x:CodeF H c q) (k:∀ o,H c=some (fzO o)→H' c=some (fzO o)):CodeF H' c q:=let ⟨o,vs,t,e,r⟩:=x;⟨o,vs,t,k o e,r⟩
theorem CodeF.neC (x:CodeF H c q) {o1:Obj} {u:Option Value} (e:H c1=some (fzO o1)) (hd:o1.data=.cell u):c≠c1:=fun z=>by
 obtain ⟨o,vs,t,e',hv,_⟩:=x;rw [z,e] at e';cases e';rw [hd] at hv;cases hv
theorem CodeF.neL (x:CodeF H c q) {L:Addr} {xs:List V} (e:H L=some (.lst xs)):c≠L:=fun z=>by
 obtain ⟨o,vs,t,e',_⟩:=x;rw [z,e] at e';cases e'
theorem TabF.mv (x:TabF H P q) (k0:∀ ps,H P=some (.tbl ps)→H' P=some (.tbl ps)) (k:∀ c,CodeF H c q→CodeF H' c q):TabF H' P q :=
 let ⟨ps,e,t,h⟩:=x
 ⟨ps,k0 _ e,t,fun p v z=>let ⟨d,e1,e2⟩:=h p v z;⟨d,e1,k _ e2⟩⟩
theorem TabF.same (x:TabF H P q) (s:Same H H'):TabF H' P q:=x.mv (fun _ e=>s _ _ e) fun _ c=>c.mv fun _ e=>s _ _ e
theorem TabF.keepL (x:TabF H P q) {L:Addr} {xs:List V} (e:H L=some (.lst xs)) (s:Keep L H H'):TabF H' P q :=
 x.mv (fun _ z=>s _ _ (fun w=>by rw [w,e] at z;cases z) z) fun _ c=>c.mv fun _ z=>s _ _ (c.neL e) z
theorem TabF.del (x:TabF H P q) {o1:Obj} {u:Option Value} (e:H c1=some (fzO o1)) (hd:o1.data=.cell u):TabF (del H c1) P q :=
 x.mv (fun _ z=>by rw [Xm fun w=>by rw [w,e] at z;cases z];exact z) fun _ c=>c.mv fun _ z=>by rw [Xm (c.neC e hd)];exact z
variable {a:Addr} {params:Arguments} {body:Expr} {scope:Scope} {clos:List (Str×Addr)} {pm:Value}
end
variable {N:Addr→Prop} {k:Nat}
def Gv (P1 P2:Addr) (H H':Hp):Prop:=∀ b o,b≠P1→b≠P2→H b=some o→H' b=some o
section
variable {P1 P2:Addr} {H H1 H2:Hp} {q:Str}
end
theorem Zrx {K:PySem.W.Frag} {P1 P2 a:Addr} {H H':Hp} {xs:List V} {q1 q2:Str} (h:SqL K H a xs) (g:Gv P1 P2 H H') (t1:TabF H P1 q1) (t2:TabF H P2 q2):SqL K H' a xs:=by
 obtain ⟨p1,e1,_⟩:=t1;obtain ⟨p2,e2,_⟩:=t2
 rcases h with (h|⟨o,h⟩)|h
 · exact .inl (.inl (g _ _ (fun z=>by rw [z,e1] at h;cases h) (fun z=>by rw [z,e2] at h;cases h) h))
 · exact .inl (.inr ⟨o,g _ _ (fun z=>by rw [z,e1] at h;cases h) (fun z=>by rw [z,e2] at h;cases h) h⟩)
 · exact .inr h
theorem Zo6 {H:Hp} {P:Addr} {q:Str} (e:H P=some (.tbl #[])):TabF H P q:=⟨#[],e,by first|trivial|exact .nil|simp [TriplesOk],fun p v z=>by have z':codeAmong p []=some v:=z;first|(cases z';done)|simp [codeAmong] at z'⟩
theorem Zlz {P:Program} {w:World} {K:PySem.W.Frag} {mg mb:Str→Option Value} {k:Nat} {fa a:Addr} {fd:FuncData} {x:Str} {sp:Sp} {s₁:Shared} {vs:List Value} {ns:List Int} {c1 c2 P1 P2:Addr}
 (KX:K.In s₁.heap) (hns:s₁.heap.Ns mainGlobals mg) (hb:s₁.heap.Ns builtinsNs mb) (hbb:∀ x:Str,x ≠ "__name__" → mb x=bootBuiltins x) (hlim:s₁.heap.NoLimit) (hg:s₁.gens=#[])
 (ha:s₁.heap.get? a=some { cls:=.type "list",data:=.seq vs.toArray }) (hi:IntsAre vs ns) (hl:ns.length≤sizeLine) (hr:Room k callerA)
 (C1:PySem.W.CodeHd s₁.heap c1 P1) (C2:PySem.W.CodeHd s₁.heap c2 P2) (T1:s₁.heap.get? P1=some (PySem.W.tabObj #[])) (T2:s₁.heap.get? P2=some (PySem.W.tabObj #[])) (k1:K.lookup P1=none) (k2:K.lookup P2=none)
 (F:∀ base:Heap,K.In base→base.Ns mainGlobals mg→FnOk P w K mg base CX0 k fa fd [x] sp) (hbind:∀ (s:Shared) (u:Value),BindsTo s fd ⟨[u],[]⟩ [(x,u)])
 (hsp:∀ H:Hp,SqL K H a (ns.map V.int)→H P1=some (.tbl #[])→H P2=some (.tbl #[])→sp [.ref a] H (fun v _=>v=.bl true) fun _ _ _=>False) :
 codeAny (model P w) callerA (.call (.ref fa) ⟨[.ref a],[]⟩) (fun r s'=>r=.ok (.ret (.bool true))∧OldK s₁.heap s'.heap∧s'.os=s₁.os∧AllBare s'.gens) s₁:=by
 have rv:=Zhu hi;have lenV:=hi.length;have a1:a≠P1:=fun z=>by rw [z,T1] at ha;cases ha
 have a2:a≠P2:=fun z=>by rw [z,T2] at ha;cases ha
 have core:∀ H:Hp,SqL K H a (ns.map V.int)→HOk P w H s₁.heap→(∀ b u,H b=some u→(b=a∧(∃ o xs,u=.frz o (.lst xs))∧K.lookup a=none)∨((b=P1∨b=P2)∧u=.tbl #[]))→H P1=some (.tbl #[])→H P2=some (.tbl #[]) →
  codeAny (model P w) callerA (.call (.ref fa) ⟨[.ref a],[]⟩) (fun r s'=>r=.ok (.ret (.bool true))∧OldK s₁.heap s'.heap∧s'.os=s₁.os∧AllBare s'.gens) s₁:=by
  intro H hS hok hA h1 h2;have Zgq:∀ {b:Addr} {o:Obj},s₁.heap.get? b=some o→H b=none→(hidT s₁.heap H).get? b=some o:=fun e n=>Zoq e n
  have noA:∀ {b:Addr} {o:Obj} {es:Array DictEntry} {ep:Nat},s₁.heap.get? b=some o→o.data=.dict es ep→H b=none:=fun {b o es ep} e d=>by
   cases q:H b with
   | none=>rfl
   | some u =>
     rcases hA b u q with ⟨rfl,_⟩|⟨rfl|rfl,_⟩
     · rw [ha] at e;cases e;cases d
     · rw [T1] at e;cases e;cases d
     · rw [T2] at e;cases e;cases d
  have nsK:∀ {b:Addr} {m:Str→Option Value},s₁.heap.Ns b m→(hidT s₁.heap H).Ns b m:=fun {b m} ⟨o,es,ep,e,d,r⟩=>⟨o,es,ep,Zgq e (noA e d),d,r⟩
  have hKb:K.In (hidT s₁.heap H):=fun b o e=>Zgq (KX b o e) (by
   cases q:H b with
   | none=>rfl
   | some u =>
     rcases hA b u q with ⟨rfl,_,z⟩|⟨rfl|rfl,_⟩
     · rw [z] at e;cases e
     · rw [k1] at e;cases e
     · rw [k2] at e;cases e)
  have hM:Mod K mg (hidT s₁.heap H):=⟨hKb,nsK hns,⟨mb,nsK hb,hbb⟩,let ⟨mc,h1,h2⟩:=hlim;⟨mc,nsK h1,h2⟩⟩;have e0:Env0 P w K mg (hidT s₁.heap H) callerA [] s₁ H:=⟨rfl,hM,fun b o e=>Zq3 e,Nat.le_of_eq (Zn3 _ _),trivial,fun b hb=>absurd (show b∈([]:List Addr) from hb) (by simp),hok,.of_eq hg⟩;refine codeAny_mono ((F _ hKb (nsK hns)).run callerA [] s₁ H ⟨[.ref a],[]⟩ [.ref a] [.ref a] _ _ hr e0 (hbind s₁ (.ref a)) (.cons rfl .nil) (hsp H hS h1 h2)) fun r s' h=>?_;cases r with
  | error e=>exact False.elim h
  | ok fl =>
    cases fl with
    | next=>exact False.elim h
    | brk=>exact False.elim h
    | cont=>exact False.elim h
    | ret u =>
      obtain ⟨v,H',os,bare,un,hok',r',q⟩:=h;have q':v=.bl true:=q;subst q';obtain rfl:u=Value.bool true:=r'
      have tb:∀ (c b:Addr) (o:Obj),PySem.W.CodeHd s₁.heap c b→s₁.heap.get? b=some (PySem.W.tabObj #[])→H b=some (.tbl #[])→s₁.heap.get? b=some o→asItWas s₁.heap s'.heap b o∧∃ o',s'.heap.get? b=some o':=fun c b o hc ht hb e=>by
       obtain ⟨more,e'⟩:=un.tbls b _ hb;have z:s'.heap.get? b=some { cls:=.none,data:=.fields (#[]++more) }:=hok' b _ e';rw [ht] at e;cases e
       exact ⟨.inr (.inl ⟨(hc.tab ht).isCodeTable,rfl,#[],more,rfl,z⟩),_,z⟩
      have all:∀ b o,s₁.heap.get? b=some o→asItWas s₁.heap s'.heap b o∧∃ o',s'.heap.get? b=some o':=fun b o e=>by
       cases q:H b with
       | none =>
         have z:=un.keep b o e q (by intro z;exact absurd (show b∈([]:List Addr) from z) (by simp)) (by simp);exact ⟨.inl z,_,z⟩
       | some u =>
         rcases hA b u q with ⟨rfl,⟨ob,xs,rfl⟩,_⟩|⟨rfl|rfl,rfl⟩
         · have z2:=un.frzs _ ob _ q;obtain ⟨e1,_⟩:=hok _ _ q;obtain ⟨e2,_⟩:=hok' _ _ z2;rw [e] at e1;cases e1;exact ⟨.inl e2,_,e2⟩
         · exact tb c1 _ _ C1 T1 h1 e
         · exact tb c2 _ _ C2 T2 h2 e
      exact ⟨rfl,⟨fun b o e=>(all b o e).1,fun b o e=>(all b o e).2⟩,os,bare⟩
 have kT:∀ (H:Hp) b,s₁.heap.get? b=some (PySem.W.tabObj #[])→ObjOk P w H s₁.heap b (.tbl #[]):=fun H b e=>e;cases hk:K.lookup a with
 | some o =>
   have e:=KX a o hk;rw [ha] at e;cases e
   refine core (fun b=>if b=P1∨b=P2 then some (.tbl #[]) else none) (.inr ⟨_,vs.toArray,_,hk,rfl,rfl,rfl,by rw [n5_,lenV];exact hl,by simpa using rv⟩) (fun b u z=>?_) (fun b u z=>?_) (if_pos (.inl rfl)) (if_pos (.inr rfl))
   · by_cases hb:b=P1∨b=P2
     · have z':=(if_pos hb).symm.trans z;cases z'
       rcases hb with rfl|rfl
       · exact T1
       · exact T2
     · have z':=(if_neg hb).symm.trans z;cases z'
   · by_cases hb:b=P1∨b=P2
     · have z':=(if_pos hb).symm.trans z;cases z'
       exact .inr ⟨hb,rfl⟩
     · have z':=(if_neg hb).symm.trans z;cases z'
 | none =>
   refine core (fun b=>if b=a then some (.frz { cls:=.type "list",data:=.seq vs.toArray } (.lst (ns.map V.int))) else if b=P1∨b=P2 then some (.tbl #[]) else none) (.inl (.inr ⟨{ cls:=.type "list",data:=.seq vs.toArray },if_pos rfl⟩)) (fun b u z=>?_) (fun b u z=>?_) ((if_neg (Ne.symm a1)).trans (if_pos (.inl rfl))) ((if_neg (Ne.symm a2)).trans (if_pos (.inr rfl)))
   · by_cases ha':b=a
     · have z':=(if_pos ha').symm.trans z;cases z'
       subst ha';exact ⟨ha,by rw [n23_];exact hl,vs,_,rv,ha⟩
     · have z:=(if_neg ha').symm.trans z
       by_cases hb:b=P1∨b=P2
       · have z':=(if_pos hb).symm.trans z;cases z'
         rcases hb with rfl|rfl
         · exact T1
         · exact T2
       · have z':=(if_neg hb).symm.trans z;cases z'
   · by_cases ha':b=a
     · have z':=(if_pos ha').symm.trans z;cases z'
       exact .inl ⟨ha',⟨_,_,rfl⟩,hk⟩
     · have z:=(if_neg ha').symm.trans z
       by_cases hb:b=P1∨b=P2
       · have z':=(if_pos hb).symm.trans z;cases z'
         exact .inr ⟨hb,rfl⟩
       · have z':=(if_neg hb).symm.trans z;cases z'
theorem Zo1 {l:PySem.W.OpenLaw} {n k:Nat} {q:Program} {loose:List Str} {XP:(Str→Option Value)→Heap→Prop} {YP:World→Heap→Prop} {d:DefRec} {K:Params→PySem.W.Frag} {sp:World→Sp} {x:Str} {c1 c2 P1 P2:Addr}
 (hn:l.most=some n) (hn2:n≤sizeLine) (hdf:d.params.defaults=[]) (hr:Room k callerA)
 (hY:∀ (w:World) (h:Heap),YP w h→(K w.params).In h∧h.get? P1=some (PySem.W.tabObj #[])∧h.get? P2=some (PySem.W.tabObj #[]))
 (hc:∀ P,PySem.W.codeHdIn (K P) c1 P1=true∧PySem.W.codeHdIn (K P) c2 P2=true∧(K P).lookup P1=none∧(K P).lookup P2=none)
 (F:∀ (w:World) (mg:Str→Option Value) (fa:Addr) (h:Heap),(K w.params).In h→h.Ns mainGlobals mg→mg d.name=some (.ref fa) →
   ∃ fd:FuncData,(∀ (s:Shared) (u:Value),BindsTo s fd ⟨[u],[]⟩ [(x,u)]) ∧
     ∀ base:Heap,(K w.params).In base→base.Ns mainGlobals mg→FnOk l.prog w (K w.params) mg base CX0 k fa fd [x] (sp w))
 (hsp:∀ (w:World) (H:Hp) (a:Addr) (ns:List Int),ns.length≤n→SqL (K w.params) H a (ns.map V.int)→H P1=some (.tbl #[])→H P2=some (.tbl #[])→sp w [.ref a] H (fun v _=>v=.bl true) fun _ _ _=>False) :
 PySem.W.WalkO q loose XP YP l.row.toRowW d [] (fun f vs=>PySem.call f vs):=by
 refine Att.attach_call hn hdf fun w s₀ s₁ mg mb fa o pm cd doc a vs ns G Y ho hd hcd hmg hobj hints hlen hg=>?_;obtain ⟨KX,T1,T2⟩:=hY w _ Y;obtain ⟨q1,q2,q3,q4⟩:=hc w.params;obtain ⟨fd,hb,hF⟩:=F w mg fa _ KX G.T.g hmg;exact Zlz KX G.T.g G.T.b G.T.builtins G.T.nolimit hg hobj hints (n32_ hlen hn2) hr (PySem.W.codeHd_of_K KX q1) (PySem.W.codeHd_of_K KX q2) T1 T2 q3 q4 hF hb (fun H hS=>hsp w H a ns hlen hS)
end L2
theorem L2.gen_upd {H H1:L2.Hp} {p:PySem.Addr} {o:L2.HO} (g:L2.upd H p o=H1) (n:H p=none):L2.Same H H1∧H1 p=some o:=g▸⟨L2.Same.new n,L2.Zc⟩
namespace My
open PySem PySem.Spec PyProof.Rows L2
def top (i:Nat):Stmt:=PySem.Challenge.pw_platerest_k23_stresses_judged.main.body.getD i (.Pass ⟨0,0,0,0⟩)
theorem Zj5:bootBuiltins "abs" = some (.builtin "abs"):=by decide +kernel
theorem Xa:bootBuiltins "all" = some (.builtin "all"):=by decide +kernel
theorem Zse:bootBuiltins "any" = some (.builtin "any"):=by decide +kernel
theorem Zi8:bootBuiltins "bool" = some (.type "bool"):=by decide +kernel
theorem Zkh:bootBuiltins "int" = some (.type "int"):=by decide +kernel
theorem Zj:bootBuiltins "isinstance" = some (.builtin "isinstance"):=by decide +kernel
theorem Z8:bootBuiltins "len" = some (.builtin "len"):=by decide +kernel
theorem Zd0:bootBuiltins "list" = some (.type "list"):=by decide +kernel
theorem Zpw:bootBuiltins "max" = some (.builtin "max"):=by decide +kernel
theorem Zpz:bootBuiltins "min" = some (.builtin "min"):=by decide +kernel
theorem Zga:bootBuiltins "repr" = some (.builtin "repr"):=by decide +kernel
theorem Zpy:bootBuiltins "set" = some (.type "set"):=by decide +kernel
theorem Zhs:bootBuiltins "sorted" = some (.builtin "sorted"):=by decide +kernel
theorem Yl:bootBuiltins "tuple" = some (.type "tuple"):=by decide +kernel
structure Bt (mg:Str→Option Value):Prop where
 b_abs:mg "abs" = none
 b_all:mg "all" = none
 b_any:mg "any" = none
 b_bool:mg "bool" = none
 b_enumerate:mg "enumerate" = none
 b_int:mg "int" = none
 b_isinstance:mg "isinstance" = none
 b_len:mg "len" = none
 b_list:mg "list" = none
 b_max:mg "max" = none
 b_min:mg "min" = none
 b_range:mg "range" = none
 b_repr:mg "repr" = none
 b_set:mg "set" = none
 b_sorted:mg "sorted" = none
 b_tuple:mg "tuple" = none
 b_zip:mg "zip" = none
 n_FARTHEST:∃ t,mg "FARTHEST" = some (.int 100 t)
 n_FEWEST_CORNERS:∃ t,mg "FEWEST_CORNERS" = some (.int 3 t)
 n_GREAT_BITS:∃ t,mg "GREAT_BITS" = some (.int 4000 t)
 n_MOST_CORNERS:∃ t,mg "MOST_CORNERS" = some (.int 30 t)
 n_MOST_PIECES:∃ t,mg "MOST_PIECES" = some (.int 40 t)
 n_MOST_STUFF:∃ t,mg "MOST_STUFF" = some (.int 9 t)
 n_THICKEST:∃ t,mg "THICKEST" = some (.int 9 t)
abbrev rt (q:Rat):List V:=[.int q.num,.int q.den]
def Zjw:Sp:=fun vs H Q _=>∃ a b:Int,vs=[.int a,.int b]∧Q (.int (Int.gcd a b)) H
def Zfk:Sp:=fun vs H Q _=>∃ a b:Int,vs=[.int a,.int b]∧b.natAbs<2^4000∧Q (.int (Int.gcd a b)) H
theorem Yp {a n:Nat} (h:a<2^64) (hn:64≤n:=by decide):a<2^n:=n9_ h (n41_ (by decide) hn)
theorem Zsg {a:Nat} (h:a<2^4000):a<2^8999:=n9_ h (n41_ (by decide) (by decide))
theorem Zqf {x y:Int} (h:y.natAbs<2^4000):decide ((4000:Int)<if (Builtin.Int.intBits y:Int)<(Builtin.Int.intBits x:Int) then (Builtin.Int.intBits y:Int) else (Builtin.Int.intBits x:Int))=false:=by
 have:=Zip h (by decide)
 refine n8_ ?_;split<;>omega
def Zds:Sp:=fun vs H Q _=>∃ a:Int,vs=[.int a]∧Q (.bl true) H
def StAt (H:Hp) (l:Addr):Prop:=∃ s0 s1 s2:Int,H l=some (.lst [.int s0,.int s1,.int s2])∧0≤s1∧s1<4294967296
theorem StAt.keep {H H':Hp} {l m:Addr} (s:StAt H l) (k:Keep m H H') (n:l≠m):StAt H' l:=by
 obtain ⟨a,b,c,h,r⟩:=s;exact ⟨a,b,c,k _ _ n h,r⟩
theorem StAt.same {H H':Hp} {l:Addr} (s:StAt H l) (k:Same H H'):StAt H' l:=by
 obtain ⟨a,b,c,h,r⟩:=s;exact ⟨a,b,c,k _ _ h,r⟩
theorem StAt.new {H:Hp} {l p:Addr} {o:HO} (s:StAt H l) (h:H p=none):StAt (upd H p o) l:=by
 obtain ⟨a,b,c,e,r⟩:=s;exact ⟨a,b,c,by rw [Zs (Zr e h)];exact e,r⟩
theorem StAt.ne {H:Hp} {l p:Addr} (s:StAt H l) (h:H p=none):l≠p:=by
 obtain ⟨a,b,c,e,r⟩:=s;exact Zr e h
theorem StAt.neT {H:Hp} {l p:Addr} {xs:List V} (s:StAt H l) (h:H p=some (.tup xs)):p≠l:=by
 obtain ⟨a,b,c,e,r⟩:=s;exact Zdd h e (by intro z;cases z)
def Zmd (K:PySem.W.Frag):Sp:=fun vs H Q _=>∃ (a:Addr) (ns:List Int) (k:Nat),vs=[.ref a,.int k]∧SqL K H a (ns.map V.int)∧∀ c:Int,Q (.int c) H
def Zjr (K:PySem.W.Frag):Sp:=fun vs H Q _=>∃ (a:Addr) (ns:List Int) (k:Nat),vs=[.ref a,.int k]∧SqL K H a (ns.map V.int) ∧
 ∀ (p:Addr) (H':Hp),H p=none→Same H H'→StAt H' p→Q (.ref p) H'
def Zd3:Sp:=fun vs H Q _=>∃ (l:Addr) (m:Int),vs=[.ref l,.int m]∧StAt H l∧0<m∧m.natAbs<2^8999∧∀ (r:Int) (H':Hp),0≤r→r<m→Keep l H H'→StAt H' l→Q (.int r) H'
def Zpm:Sp:=fun vs H Q _=>∃ t b:Int,vs=[.int t,.int b]∧b≠0∧b.natAbs<2^4000∧∀ (p:Addr) (H':Hp),Same H H'→H' p=some (.tup (rt (Rat.divInt t b)))→Q (.ref p) H'
theorem mulS {a b:Int} (ha:a.natAbs<2^64) (hb:b.natAbs<2^64):CMulB a b:=⟨n9_ ha (n41_ (by decide) (by decide)),n9_ hb (n41_ (by decide) (by decide))⟩
theorem p64:(2:Nat)^64=18446744073709551616:=by decide
def Zbz:Sp:=fun vs H Q _=>∃ N k v d,vs=[v]∧Dt N H k v d∧Q (.bl (isI d)) H
def Zpp:Sp:=fun vs H Q _=>∃ N k v d,vs=[v]∧Dt N H k v d∧k≤4000∧Q (.bl (isFr d)) H
def Zjn:Sp:=fun vs H Q _=>∃ N k v d,vs=[v]∧Dt N H k v d∧k≤4000∧∀ H',Same H H'→Q (.bl (isFr d)) H'
theorem StAt.lst' {H:Hp} {l:Addr} (s:StAt H l):∃ ys,H l=some (.lst ys):=by
 obtain ⟨a,b,c,h,_⟩:=s;exact ⟨_,h⟩
theorem Tg.keepS {N:Addr→Prop} {l:Addr} {H H':Hp} {k n m:Nat} {v:V} (hN:N l) (s:StAt H l) (h:Tg N H k n m v) (q:Keep l H H'):Tg N H' k n m v:=let ⟨_,e⟩:=s.lst';h.keep hN e q
theorem Tgs.keepS {N:Addr→Prop} {l:Addr} {H H':Hp} {k n m:Nat} {v:List V} (hN:N l) (s:StAt H l) (h:Tgs N H k n m v) (q:Keep l H H'):Tgs N H' k n m v:=let ⟨_,e⟩:=s.lst';h.keep hN e q
theorem Dt.keepS {N:Addr→Prop} {l:Addr} {H H':Hp} {k:Nat} {v:V} {d:PyData} (hN:N l) (s:StAt H l) (h:Dt N H k v d) (q:Keep l H H'):Dt N H' k v d:=let ⟨_,e⟩:=s.lst';h.keep hN e q
theorem Dts.keepS {N:Addr→Prop} {l:Addr} {H H':Hp} {k:Nat} {v:List V} {d:List PyData} (hN:N l) (s:StAt H l) (h:Dts N H k v d) (q:Keep l H H'):Dts N H' k v d:=let ⟨_,e⟩:=s.lst';h.keep hN e q
theorem Zl2 {i:Int} {k:Nat} (h:i.natAbs<2^k) (hk:k≤4000):i.natAbs<2^4000:=n9_ h (n41_ (by decide) (by omega))
theorem Dom.keepS {N:Addr→Prop} {l:Addr} {H H':Hp} (h:Dom N H) (s:Keep l H H') (hl:StAt H' l):Dom N H':=let ⟨_,e⟩:=hl.lst';h.keep s e
theorem dint {N:Addr→Prop} {H:Hp} {k:Nat} (i:Int) (hk:100≤k) (hi:i.natAbs<2^100):Dt N H k (.int i) (.int i):=.int (n9_ hi (n41_ (by decide) hk))
def Zjo:Sp:=fun vs H Q _=>∃ N k v u d,vs=[v,u]∧Dt N H k v d∧Dt N H k u d∧k<1920∧d.depth≤20∧nz d≤8000∧Q (.bl true) H
theorem blT {p:Prop} [Decidable p] (h:p):V.bl (decide p)=V.bl true:=by rw [n19_ h]
theorem qT {p:Prop} [Decidable p] (h:p) {Q:VK} {H:Hp} (q:Q (.bl true) H):Q (.bl (decide p)) H:=by rw [blT h];exact q
theorem mul3 {a b:Int} (ha:a.natAbs≤1000) (hb:b.natAbs≤1000):CMulB a b:=⟨n52_ ha (n9_ (by decide:(1000:Nat)<2^10) (n41_ (by decide) (by decide))),n52_ hb (n9_ (by decide:(1000:Nat)<2^10) (n41_ (by decide) (by decide)))⟩
def Zfd:Sp:=fun vs H Q _=>∃ i lo hi:Int,vs=[.int i,.int lo,.int hi]∧lo≤i∧i≤hi∧Q (.bl true) H
def Zpj:Sp:=fun vs H Q _=>∃ (a:Addr) (us:List V) (lo hi:Int),vs=[.ref a,.int lo,.int hi]∧H a=some (.tup us)∧lo≤us.length∧(us.length:Int)≤hi∧Q (.bl true) H
def Ze9:Sp:=fun vs H Q _=>∃ (a:Addr) (ns:List Int),vs=[.ref a]∧H a=some (.tup (ns.map V.int))∧ns.length≤1000∧(∀ (i:Nat) (x y:Int),ns[i]? = some x→ns[i+1]? = some y→x<y)∧∀ H',Same H H'→Q (.bl true) H'
def Zfj:Sp:=fun vs H Q _=>∃ (a:Addr) (us:List V) (ks:List (List Int)),vs=[.ref a]∧H a=some (.tup us)∧Al (IsI H) us ks∧us.length≤1000∧(∀ (i:Nat) (x y:List Int),ks[i]? = some x→ks[i+1]? = some y→HT.lexLt x y=true)∧∀ H',Same H H'→Q (.bl true) H'
def Zg9:Sp:=fun vs H Q _=>∃ (v:V) (p:Pnt),vs=[v]∧IsP H v p∧near p∧∀ H',Same H H'→Q (.bl true) H'
def Ze2:Sp:=fun vs H Q _=>∃ (v:V) (cs:List Pnt),vs=[v]∧IsCs H v cs∧3≤cs.length∧cs.length≤30∧(∀ p∈cs,near p)∧cs.Nodup∧∀ H',Same H H'→Q (.bl true) H'
def Zm2:Sp:=fun vs H Q _=>∃ (u v w:V) (a b c:Pnt),vs=[u,v,w]∧IsP H u a∧IsP H v b∧IsP H w c∧near a∧near b∧near c∧Q (.int (tn a b c)) H
theorem cut1 (xs:List V):cutV xs (some 1) none=xs.drop 1:=by
 unfold cutV;have e1:HT.sIx xs.length xs.length none=xs.length:=rfl
 have e2:HT.sIx xs.length 0 (some 1)=min 1 xs.length:=by
  unfold HT.sIx
  simp
  try omega
 rw [e1,e2];cases xs with
 | nil=>rfl
 | cons x xs=>simp
theorem Zdh {α:Type} (x:α):∀ n:Nat,(List.replicate n [x]).flatten=List.replicate n x
 | 0=>rfl
 | n+1=>by rw [n45_,List.flatten_cons,Zdh x n];rfl
theorem allT (n:Nat):(List.replicate n true).all id=true:=by rw [List.all_replicate];split<;>rfl
theorem repT {n i:Nat} (h:i<n):(List.replicate n true)[i]? = some true:=by rw [List.getElem?_replicate,if_pos h]
theorem Yv {α:Type} {l:List α} {i:Nat} {x:α} (h:l[i]? = some x):i<l.length:=(n21_.mp h).1
abbrev RB:Hp→V→Bool→Prop:=fun _ v b=>v=V.bl b
theorem hRB:∀ H1 H2 v x,Tk H1 H2→RB H1 v x→RB H2 v x:=fun _ _ _ _ _ e=>e
abbrev RI:Hp→V→Int→Prop:=fun _ v b=>v=V.int b
theorem hRI:∀ H1 H2 v x,Tk H1 H2→RI H1 v x→RI H2 v x:=fun _ _ _ _ _ e=>e
theorem hRP:∀ H1 H2 v x,Tk H1 H2→IsP H1 v x→IsP H2 v x:=fun _ _ _ _ t h=>h.tk t
theorem hRT:∀ H1 H2 v x,Tk H1 H2→IsT H1 v x→IsT H2 v x:=fun _ _ _ _ t h=>h.tk t
def Zho:Sp:=fun vs H Q _=>∃ (u v:V) (cs:List Pnt) (p:List Int),vs=[u,v]∧IsCs H u cs∧IsI H v p∧p.length=3∧(∀ i∈p,0≤i∧i≤(cs.length:Int)-1)∧(∀ p∈cs,near p)∧Q (.int (dOf cs p)) H
def Zfe:Sp:=fun vs H Q _=>∃ (u v:V) (cs:List Pnt) (p:List Int),vs=[u,v]∧IsCs H u cs∧IsI H v p∧PieceOk cs p∧(∀ p∈cs,near p)∧∀ H',Same H H'→Q (.bl true) H'
def Zii:Sp:=fun vs H Q _=>∃ (u v:V) (cs:List Pnt) (ps:List (List Int)),vs=[u,v]∧IsCs H u cs∧IsPs H v ps∧1≤ps.length∧ps.length≤40∧(∀ p∈ps,PieceOk cs p)∧(∀ i:Nat,i+1<ps.length→HT.lexLt (ps.getD i []) (ps.getD (i+1) [])=true)∧(∀ p∈cs,near p)∧∀ H',Same H H'→Q (.bl true) H'
def Zh7:Sp:=fun vs H Q _=>∃ (u v:V) (ps:List (List Int)) (ts:List Int),vs=[u,v]∧IsPs H u ps∧IsI H v ts∧ts.length=ps.length∧ps.length≤40∧(∀ t∈ts,1≤t∧t≤9)∧∀ H',Same H H'→Q (.bl true) H'
def Zkn:Sp:=fun vs H Q _=>∃ (v:V) (l m:Int),vs=[v]∧IsI H v [l,m]∧(0≤l∧l≤9)∧(1≤m∧m≤9)∧Q (.bl true) H
theorem Zn9 {H:Hp} {cs:List Pnt} {us:List V} (A:Al (IsP H) us cs) {i:Int} (h0:0≤i) (h1:i≤(cs.length:Int)-1):∃ v,atI us i=some v∧IsP H v (cAt cs i):=by
 obtain ⟨n,rfl⟩:∃ n:Nat,i=n:=⟨i.toNat,by omega⟩;have hn:n<cs.length:=by omega
 obtain ⟨v,ev,r⟩:=A.got (n1_ hn);refine ⟨v,Zay ev,?_⟩
 have:cAt cs (n:Int)=cs[n]:=by unfold cAt;simp [n3_,hn]
 rw [this];exact r
theorem Zak {cs:List Pnt} {i:Int} (h0:0≤i) (h1:i≤(cs.length:Int)-1):cAt cs i∈cs:=by
 have hn:i.toNat<cs.length:=by omega
 unfold cAt;rw [n3_,n1_ hn];exact n39_ hn
def IsE (H:Hp) (v:V) (e:Pnt×Pnt):Prop:=∃ a x y,v=.ref a∧H a=some (.tup [x,y])∧IsP H x e.1∧IsP H y e.2
def IsQ (H:Hp) (v:V) (q:Rat):Prop:=∃ a,v=.ref a∧H a=some (.tup (rt q))
theorem IsQ.tk {H H':Hp} {v:V} {q:Rat} (t:Tk H H') (h:IsQ H v q):IsQ H' v q:=let ⟨a,e,h1⟩:=h;⟨a,e,t _ _ h1⟩
def Zpl:Sp:=fun vs H Q _=>∃ (u v:V) (cs:List Pnt) (p:List Int),vs=[u,v]∧IsCs H u cs∧IsI H v p∧p.length=3∧(∀ i∈p,0≤i∧i≤(cs.length:Int)-1)∧(∀ p∈cs,near p)∧∀ H' w,Same H H'→IsT H' w (trOf cs p)→Q w H'
def Zko:Sp:=fun vs H Q _=>∃ (v:V) (t:Tri),vs=[v]∧IsT H v t∧∀ H' w,Same H H'→IsTup' IsE H' w t.edges→Q w H'
def Zhk:Sp:=fun vs H Q _=>∃ (u v:V) (p:Pnt) (t:Tri),vs=[u,v]∧IsP H u p∧IsT H v t∧near p∧t.near∧∀ H',Same H H'→Q (.bl (Zca p t)) H'
def Zc6:Sp:=fun vs H Q _=>∃ (u v:V) (t r:Tri),vs=[u,v]∧IsT H u t∧IsT H v r∧t.near∧r.near∧∀ H',Same H H'→Q (.bl (Y9 t r)) H'
def Zke:Sp:=fun vs H Q _=>∃ (u v:V) (t r:Tri),vs=[u,v]∧IsT H u t∧IsT H v r∧t.near∧r.near∧∀ H',Same H H'→Q (.bl (L2.apart t r)) H'
def Zmx:Sp:=fun vs H Q _=>∃ (u v:V) (cs:List Pnt) (ps:List (List Int)),vs=[u,v]∧IsCs H u cs∧IsPs H v ps∧(∀ p∈ps,p.length=3)∧ps.length≤40∧cntS ps.flatten=cs.length∧cs.length≤30∧∀ H',Same H H'→Q (.bl true) H'
def Zey:Sp:=fun vs H Q _=>∃ (u v w:V) (cs:List Pnt) (p:List Int) (t:Tri),vs=[u,v,w]∧IsCs H u cs∧IsI H v p∧IsT H w t∧cs.length≤30∧(∀ p∈cs,near p)∧t.near∧(∀ j:Nat,j<cs.length→(j:Int)∉p→Zca (cs.getD j (0,0)) t=false)∧∀ H',Same H H'→Q (.bl true) H'
structure FitOk (cs:List Pnt) (ps:List (List Int)):Prop where
 c30:cs.length≤30
 nr:∀ p∈cs,near p
 p40:ps.length≤40
 pc:∀ p∈ps,PieceOk cs p
 strange:∀ p∈ps,∀ j:Nat,j<cs.length→(j:Int)∉p→Zca (cs.getD j (0,0)) (trOf cs p)=false
 apart:∀ i j:Nat,i<j→j<ps.length→L2.apart (trOf cs (ps.getD j [])) (trOf cs (ps.getD i []))=true
def Zpq:Sp:=fun vs H Q _=>∃ (u v:V) (cs:List Pnt) (ps:List (List Int)),vs=[u,v]∧IsCs H u cs∧IsPs H v ps∧FitOk cs ps∧∀ H',Same H H'→Q (.bl true) H'
def Zcg:Sp:=fun vs H Q _=>∃ (v:V) (P:Pl),vs=[v]∧IsPl H v P∧PlOk P∧∀ H',Same H H'→Q (.bl true) H'
def Zcu:Sp:=fun vs H Q _=>∃ (v:V) (P:Pl),vs=[v]∧IsPl H v P∧PlOk P∧∀ H',Same H H'→Q .non H'
theorem Zg1 {cs:List Pnt} {p:List Int} (hb:∀ i∈p,0≤i∧i≤(cs.length:Int)-1) (hl:p.length=3) (nr:∀ p∈cs,near p):(trOf cs p).near:=by
 match p,hl with
 | [a,b,c],_ =>
   have ha:=nr _ (Zak (hb a (by simp)).1 (hb a (by simp)).2);have hb':=nr _ (Zak (hb b (by simp)).1 (hb b (by simp)).2);have hc:=nr _ (Zak (hb c (by simp)).1 (hb c (by simp)).2);show (tri (cAt cs a) (cAt cs b) (cAt cs c)).near
   unfold tri;split
   · exact ⟨ha,hc,hb'⟩
   · exact ⟨ha,hb',hc⟩
theorem Zg6 {t:Tri} (n:t.near) {e:Pnt×Pnt} (h:e∈t.edges):near e.1∧near e.2:=by
 obtain ⟨a,b,c⟩:=n;simp only [Tri.edges,n14_,n17_,or_false] at h
 rcases h with rfl|rfl|rfl
 · exact ⟨a,b⟩
 · exact ⟨b,c⟩
 · exact ⟨c,a⟩
theorem Zq7 {t:Tri} (n:t.near) {e:Pnt} (h:e∈t.pts):near e:=by
 obtain ⟨a,b,c⟩:=n;simp only [Tri.pts,n14_,n17_,or_false] at h
 rcases h with rfl|rfl|rfl
 · exact a
 · exact b
 · exact c
theorem Zr3 {H:Hp} {v:V} {t:Tri} (h:IsT H v t):∃ a vs,v=.ref a∧H a=some (.tup vs)∧vs.length=3∧Al (IsP H) vs t.pts:=by
 obtain ⟨a,x,y,z,rfl,ha,hx,hy,hz⟩:=h;exact ⟨a,_,rfl,ha,rfl,.cons hx (.cons hy (.cons hz .nil))⟩
theorem cs3 {H:Hp} {us:List V} {cs:List Pnt} (al:Al (IsP H) us cs) {p:List Int} (hl:p.length=3) (bd:∀ i∈p,0≤i∧i≤(cs.length:Int)-1) {vs:List V} (a2:Al (IsP H) vs (p.map (cAt cs))):∃ x y z,vs=[x,y,z]∧IsP H x (cAt cs (p.getD 0 0))∧IsP H y (cAt cs (p.getD 1 0))∧IsP H z (cAt cs (p.getD 2 0)):=by
 match p,hl with
 | [i,j,k],_ =>
   have:=a2.1
   match vs,this with
   | [x,y,z],_=>exact ⟨x,y,z,rfl,a2.2 0 x _ rfl rfl,a2.2 1 y _ rfl rfl,a2.2 2 z _ rfl rfl⟩
theorem Zuk (xs:List V) (i:Nat) (h:i≤xs.length):cutV xs none (some (i:Int))=xs.take i:=by
 unfold cutV;rw [HT.sIx_none,HT.sIx_nat];simp [Nat.min_eq_left h]
theorem anyM {α:Type} {l:List α} {f:α→Bool} (h:∀ x∈l,f x=false):(l.map f).any id=false:=by
 rw [List.any_map];exact List.any_eq_false.mpr fun x hx=>by simp [h x hx]
theorem prs {H:Hp} {vs:List V} {es:List (Pnt×Pnt)} (al:Al (IsE H) vs es):∀ (i:Nat) (w:V),vs[i]? = some w→∃ p x y,w=.ref p∧H p=some (.tup [x,y]):=fun i w e=>by
 obtain ⟨_,_,p,x,y,rfl,h,_⟩:=al.get e;exact ⟨p,x,y,rfl,h⟩
theorem pr1 {H:Hp} {vs:List V} {es:List (Pnt×Pnt)} (al:Al (IsE H) vs es) {i:Nat} {p:Addr} {x y:V} (e:vs[i]? = some (.ref p)) (hp:H p=some (.tup [x,y])):∃ q,es[i]? = some q∧IsP H x q.1∧IsP H y q.2:=by
 obtain ⟨q,eq,p',x',y',e1,h,h1,h2⟩:=al.get e;cases e1
 rw [hp] at h;cases h
 exact ⟨q,eq,h1,h2⟩
theorem Zo8 (n:Int) (p:List Int):inV (V.int n) (p.map V.int)=decide (n∈p):=by
 unfold inV;rw [List.any_map]
 induction p with
 | nil=>rfl
 | cons x p ih =>
   rw [List.any_cons,ih]
   by_cases h:n=x
   · subst h
     have:eqV (V.int n) (V.int n)=true:=by simp [eqV]
     simp [Function.comp,this]
   · have:eqV (V.int x) (V.int n)=false:=by simp [eqV];exact fun z=>h z.symm
     simp [Function.comp,this,h]
abbrev IsQs (H:Hp) (v:V) (ms:List Rat):Prop:=IsTup' IsQ H v ms
theorem Zhv {α β:Type} (f:α→β):∀ (l:List α) (i:Nat),(l.map f).eraseIdx i=(l.eraseIdx i).map f
 | [],i=>by cases i<;>rfl
 | x :: l,0=>rfl
 | x :: l,i+1=>by simp only [n58_,List.eraseIdx_cons_succ,Zhv f l i]
theorem Zfi {α:Type}:∀ (l:List α) (i:Nat) (h:i<l.length),(l[i] :: l.eraseIdx i).Perm l
 | [],i,h=>by simp at h
 | x :: l,0,h=>.refl _
 | x :: l,i+1,h=>by
   simp only [List.eraseIdx_cons_succ,List.getElem_cons_succ];exact (List.Perm.swap x _ _).trans ((Zfi l i (by simpa using h)).cons x)
theorem Zto {α:Type} {R:V→α→Prop} {vs:List V} {xs:List α} {v:V} {x:α} (h:Al R vs xs) (j:Nat) (r:R v x):Al R (vs.set j v) (xs.set j x):=by
 refine ⟨by simp [h.1],fun i w y e1 e2=>?_⟩;rw [List.getElem?_set] at e1 e2
 by_cases hi:j=i
 · subst hi;rw [if_pos rfl] at e1 e2;split at e1
   · split at e2
     · cases e1;cases e2;exact r
     · cases e2
   · cases e1
 · rw [if_neg hi] at e1 e2;exact h.2 i w y e1 e2
theorem Znj {S:V→List Int→Prop} {T:List Int→List Int→Prop}:∀ {vs:List V} {ps:List (List Int)},Al (fun v p=>∃ r,S v r∧T r p) vs ps→∃ kl:List (List Int),kl.length=ps.length∧Al S vs kl∧∀ i:Nat,i<ps.length→T (kl.getD i []) (ps.getD i [])
 | [],[],_=>⟨[],rfl,.nil,fun i hi=>by simp at hi⟩
 | [],p :: ps,h=>by have:=h.1;simp at this
 | v :: vs,[],h=>by have:=h.1;simp at this
 | v :: vs,p :: ps,h=>by
   obtain ⟨r,s,t⟩:=h.2 0 v p rfl rfl;obtain ⟨kl,l,a,k⟩:=Znj (vs:=vs) (ps:=ps) ⟨by have:=h.1;simpa using this,fun i w x e1 e2=>h.2 (i+1) w x (by simpa using e1) (by simpa using e2)⟩;refine ⟨r :: kl,by simp [l],.cons s a,fun i hi=>?_⟩;cases i with
   | zero=>exact t
   | succ i=>simpa using k i (by simpa using hi)
theorem Zlw {n:Nat} {k:Int} (h0:0≤k) (h1:k<n):ixN n k=some k.toNat:=by
 unfold ixN;rw [if_pos h0,if_pos (by omega)]
theorem seqI {n:Nat} {k:Int} (h0:0≤k) (h1:k<n):seqIndex? k n=some k.toNat:=(Zjb (Zlw h0 h1)).1
theorem tkS {H H':Hp} {l:Addr} (k:Keep l H H') (s:StAt H l):Tk H H':=by
 obtain ⟨a,b,c,e,_⟩:=s;exact Tk.of_keep k e
theorem StAt.neN {H:Hp} {l p:Addr} (s:StAt H l) (h:H p=none):p≠l:=fun z=>s.ne h z.symm
theorem Zio {J:It} {n:Nat} {l D:Addr} {g:TG} {te:TE} {σ0:L2.St} {H:Hp} {Q:VK} {α:Type} (R:Hp→V→α→Prop) (hR:∀ H1 H2 v x,Tk H1 H2→R H1 v x→R H2 v x) (hz:n≤1000) (ok:L2.St→Prop) (h0:ok σ0) (hD:H D=none) (hl:StAt H l)
 (hgo:∀ i H2,Keep l H H2→i<n→J.go i H2) (hstop:∀ H2,Keep l H H2→J.stop n H2)
 (hs:∀ i x σ2 H2 H3 (C:L2.St→V→Hp→Prop),i<n→Keep l H H2→StAt H2 l→J.yld i H2 x H3→ok σ2→(∀ σ4 y H5 z,ok σ4→Keep l H2 H5→StAt H5 l→R H5 y z→C σ4 y H5)→g x σ2 H3 fun σ4 H4=>te σ4 H4 (C σ4))
 (hd:∀ H2 vs ys,Keep l H H2→StAt H2 l→H2 D=some (.lst vs)→ys.length=n→Al (R H2) vs ys→Q (.ref D) H2):LcGo J g tYes te σ0 H D Q:=by
 have neD:D≠l:=hl.neN hD;refine Zj2 (n:=n) (fun i σ H2=>Keep l H H2∧StAt H2 l∧ok σ∧∃ vs ys,ys.length=i∧H2 D=some (.lst vs)∧Al (R H2) vs ys) ⟨Keep.new hD,hl.new hD,h0,[],[],rfl,Zc,.nil⟩ (fun i σ H2 hi p=>hgo i H2 p.1 hi) (fun σ H2 p=>hstop H2 p.1) (fun i x σ2 H2 H3 hi y p=>?_) (fun σ2 H2 p=>?_)
 · obtain ⟨s2,l2,o2,vs,ys,hy,e2,a2⟩:=p;refine hs i x σ2 H2 H3 (fun σ4 y H6=>∃ ys,H6 D=some (.lst ys)∧ys.length<sizeLine∧∃ m',m'<n-i∧LcN n (fun i σ H2=>Keep l H H2∧StAt H2 l∧ok σ∧∃ vs ys,ys.length=i∧H2 D=some (.lst vs)∧Al (R H2) vs ys) (i+1) m' σ4 (upd H6 D (.lst (ys++[y])))) hi s2 l2 y o2 ?_;intro σ4 v H5 z o4 s5 l5 rz;have e5:H5 D=some (.lst vs):=s5 _ _ neD e2;have tk:Tk H5 (upd H5 D (.lst (vs++[v]))):=Tk.upd_lst e5;refine ⟨vs,e5,?_,n-(i+1),by omega,by omega,rfl,fun b o nb e=>?_,?_,o4,vs++[v],ys++[z],by simp [hy],Zc,?_⟩
   · rw [a2.1,sizeLine_eq];omega
   · rw [Zs (Zr e hD)];exact s5 _ _ nb (s2 _ _ nb e)
   · obtain ⟨a,b,c,e,r⟩:=l5;exact ⟨a,b,c,by rw [Zs neD.symm];exact e,r⟩
   · exact (a2.imp fun v x r=>hR _ _ v x tk (hR _ _ v x (tkS s5 l2) r)).snoc (hR _ _ _ _ tk rz)
 · obtain ⟨s2,l2,_,vs,ys,hy,e2,a2⟩:=p;exact hd H2 vs ys s2 l2 e2 hy a2
def Zjq:Sp:=fun vs H Q _=>∃ (l:Addr) (n:Nat),vs=[.ref l,.int n]∧StAt H l∧n≤60∧∀ (H':Hp) (r:Addr) (o:List Int),Keep l H H'→StAt H' l→H r=none→H' r=some (.lst (o.map V.int))→o.Perm ((List.range n).map fun i:Nat=>(i:Int))→Q (.ref r) H'
def Zh4:Sp:=fun vs H Q _=>vs=[]∧∀ (H':Hp) (r:Addr) (us:List V),Same H H'→H r=none→H' r=some (.lst us)→Al (IsSh H') us Zd5→Q (.ref r) H'
def Zku:Sp:=fun vs H Q _=>∃ l:Addr,vs=[.ref l,.int 8]∧StAt H l∧∀ (H':Hp) (v:V) (P:Pl),Keep l H H'→StAt H' l→IsPl H' v P→PlOk P→P.ps.length≤4→P.cs.length≤6→(∀ p∈P.cs,p.1≤98)→Q v H'
def Zm8:Sp:=fun vs H Q _=>∃ (l:Addr) (n:Nat),vs=[.ref l,.int n]∧StAt H l∧n≤1000∧∀ (H':Hp) (v:V) (ms:List Rat),Keep l H H'→StAt H' l→IsQs H' v ms→ms.length=n→(∀ q∈ms,FM.B 60 q)→(∀ q∈ms,q.den∣60)→Q v H'
def Zhe (n:Nat):Sp:=fun vs H Q _=>∃ l:Addr,vs=[.ref l]∧StAt H l∧∀ (H':Hp) (p:Addr) (q:Rat),Keep l H H'→StAt H' l→H' p=some (.tup (rt q))→FM.B n q∧q.den∣60→Q (.ref p) H'
theorem Zqk (t:Int) {b:Int} (h:b≠0):((Rat.divInt t b).den:Int)∣b:=by
 rw [← FM.fdiv_den h]
 have hs:FM.sg t b∣b:=by
  unfold FM.sg;split
  · exact Int.neg_dvd.mpr (Int.gcd_dvd_right t b)
  · exact Int.gcd_dvd_right t b
 obtain ⟨k,hk⟩:=hs
 have e:b.fdiv (FM.sg t b)=k:=by
  have h0:=FM.sg_ne (t:=t) h;generalize FM.sg t b=g at *;rw [hk,Int.mul_comm];exact FM.fdiv_mul h0
 rw [e];exact ⟨_,by rw [Int.mul_comm];exact hk⟩
theorem Zro (t:Int) {b:Int} (h1:1≤b) (h6:b≤6):(Rat.divInt t b).den∣60:=by
 have h:=Zqk t (show b≠0 by omega)
 have h2:b∣60:=by
  have:b=1∨b=2∨b=3∨b=4∨b=5∨b=6:=by omega
  rcases this with rfl|rfl|rfl|rfl|rfl|rfl<;>decide
 exact_mod_cast Int.dvd_trans h h2
theorem Zof {H:Hp} {us:List V} (al:Al (IsSh H) us Zd5) {r:Int} (h0:0≤r) (h1:r<8):∃ (v:V) (s:List Pnt×List (List Int)),atI us r=some v∧IsSh H v s∧s∈Zd5:=by
 obtain ⟨k,rfl⟩:∃ k:Nat,r=k:=⟨r.toNat,by omega⟩;have hk:k<Zd5.length:=by show k<8;omega
 obtain ⟨v,ev,rv⟩:=al.got (n1_ hk);exact ⟨v,_,Zay ev,rv,n39_ hk⟩
theorem Zpr {α:Type} {R:V→α→Prop} {v:V} {x:α} (r:R v x):∀ n:Nat,Al R (List.replicate n v) (List.replicate n x)
 | 0=>.nil
 | n+1=>by rw [n45_,n45_];exact .cons r (Zpr r n)
theorem mul4 {a b:Int} (ha:a.natAbs≤1000) (hb:b.natAbs≤1000):CMulB a b:=mul3 ha hb
theorem o_at {o:List Int} {n:Nat} (O:CoOrd n o) {i:Int} (h0:0≤i) (h1:i<n):atI (o.map V.int) i=some (.int (oAt o i)):=by
 obtain ⟨k,rfl⟩:∃ k:Nat,i=k:=⟨i.toNat,by omega⟩;have hk:k<o.length:=by rw [O.len];omega
 refine Zay ?_;rw [n11_,n1_ hk];unfold oAt;simp [n3_,hk]
theorem Zo3 {p:Pnt} (h:p.1.natAbs≤6∧p.2.natAbs≤6):p.1.natAbs≤1000∧p.2.natAbs≤1000:=⟨by omega,by omega⟩
theorem Zt1 {H:Hp} {vs:List V} {kl:List (List Int)} (al:Al (IsI H) vs kl) {q:List Nat} (hq:∀ i∈q,i<kl.length):Al (IsI H) (q.map fun i=>vs.getD i .non) (q.map fun i=>kl.getD i []):=by
 refine ⟨by simp,fun n v r e1 e2=>?_⟩;rw [n11_] at e1 e2;obtain ⟨i,ei,rfl⟩:=n38_.mp e1;rw [ei] at e2;cases e2
 have hi:=hq i (n12_ ei);have hv:i<vs.length:=by rw [al.1];exact hi
 have:=al.2 i vs[i] kl[i] (n1_ hv) (n1_ hi)
 show IsI H (vs.getD i .non) (kl.getD i [])
 rw [n3_,n3_,n1_ hv,n1_ hi];exact this
def dQ (q:Rat):PyData:=.tuple [.int q.num,.int q.den]
def dQs (qs:List Rat):PyData:=.tuple (qs.map dQ)
theorem Zkb {α:Type} {N:Addr→Prop} {H:Hp} {k:Nat} {R:V→α→Prop} {f:α→PyData}:∀ {vs:List V} {xs:List α},Al R vs xs→(∀ v x,x∈xs→R v x→Dt N H k v (f x))→Dts N H k vs (xs.map f)
 | [],[],_,_=>.nil
 | [],x :: xs,h,_=>by have:=h.1;simp at this
 | v :: vs,[],h,_=>by have:=h.1;simp at this
 | v :: vs,x :: xs,h,g=>.cons (g v x n34_ (h.2 0 v x rfl rfl)) (Zkb ⟨by have:=h.1;simpa using this,fun i w y e1 e2=>h.2 (i+1) w y (by simpa using e1) (by simpa using e2)⟩ fun v x hx=>g v x (n18_ _ hx))
theorem Zcb {α:Type} {f:α→PyData} {c:Nat}:∀ {xs:List α},(∀ x∈xs,(f x).depth≤c)→PyData.depthAll (xs.map f)≤c
 | [],_=>n43_ _
 | x :: xs,h=>by
   have h1:=h x n34_;have h2:=Zcb (xs:=xs) fun y hy=>h y (n18_ _ hy);simp only [n58_,PyData.depthAll];omega
theorem Zjz {α:Type} {f:α→PyData} {c:Nat}:∀ {xs:List α},(∀ x∈xs,nz (f x)≤c)→Z0 (xs.map f)≤xs.length*(c+1)
 | [],_=>n43_ _
 | x :: xs,h=>by
   have h1:=h x n34_;have h2:=Zjz (xs:=xs) fun y hy=>h y (n18_ _ hy);simp only [n58_,Z0,n16_,Nat.add_mul,Nat.one_mul];omega
theorem dtQ {N:Addr→Prop} {H:Hp} {k:Nat} {v:V} {q:Rat} (h:IsQ H v q) (hb:FM.B k q):Dt N H k v (dQ q):=by
 obtain ⟨a,rfl,e⟩:=h;exact .tup e (.cons (.int hb.1) (.cons (.int (by simpa using hb.2)) .nil))
theorem dtQs {N:Addr→Prop} {H:Hp} {k:Nat} {v:V} {qs:List Rat} (h:IsQs H v qs) (hb:∀ q∈qs,FM.B k q):Dt N H k v (dQs qs):=by
 obtain ⟨a,vs,rfl,e,al⟩:=h;exact .tup e (Zkb al fun v x hx r=>dtQ r (hb x hx))
theorem Zqu (qs:List Rat):(dQs qs).depth≤2:=by
 have:=Zcb (f:=dQ) (c:=1) (xs:=qs) fun x _=>n6_ _
 simp only [dQs,PyData.depth];omega
theorem nzQs (qs:List Rat):nz (dQs qs)≤1+qs.length*6:=by
 have:=Zjz (f:=dQ) (c:=5) (xs:=qs) fun x _=>n6_ _
 simp only [dQs,nz];omega
def isBt (d:PyData) (lo hi:Int):Bool:=match d with
 | .int i=>decide (lo≤i)&&decide (i≤hi)
 | _=>false
def NoT (K:PySem.W.Frag) (H:Hp) (v:V):Prop:=∃ t,TyOf K H v t∧PySem.W.kitOne K t (.type "tuple")=some false
def Zp8:Sp:=fun vs H Q _=>∃ N k v d lo hi,vs=[v,.int lo,.int hi]∧Dt N H k v d∧Q (.bl (isBt d lo hi)) H
def RowN (K:PySem.W.Frag) (H:Hp) (v:V) (lo hi:Int):Prop:=NoT K H v∨∃ a us,v=.ref a∧H a=some (.tup us)∧¬ (lo≤(us.length:Int)∧(us.length:Int)≤hi)
def Znr (K:PySem.W.Frag):Sp:=fun vs H Q _=>∃ v lo hi,vs=[v,.int lo,.int hi]∧RowN K H v lo hi∧Q (.bl false) H
def Zdu (K:PySem.W.Frag):Sp:=fun vs H Q _=>∃ v,vs=[v]∧NoT K H v∧Q (.bl false) H
def Ze5 (K:PySem.W.Frag):Sp:=fun vs H Q _=>∃ u a,vs=[u,.ref a]∧H a=some (.tup [])∧Q (.bl false) H
def Zfl:Sp:=fun vs H Q _=>∃ (a:Addr) (us:List V) (ks:List (List Int)),vs=[.ref a]∧H a=some (.tup us)∧Al (IsI H) us ks∧us.length≤1000∧(∃ (i:Nat) (x y:List Int),ks[i]? = some x∧ks[i+1]? = some y∧HT.lexLt x y=false)∧∀ H',Same H H'→Q (.bl false) H'
def Ze3:Sp:=fun vs H Q _=>∃ (u v:V) (cs:List Pnt) (ps:List (List Int)),vs=[u,v]∧IsCs H u cs∧IsPs H v ps∧1≤ps.length∧ps.length≤40∧(∀ p∈ps,PieceOk cs p)∧(∃ (i:Nat) (x y:List Int),ps[i]? = some x∧ps[i+1]? = some y∧HT.lexLt x y=false)∧(∀ p∈cs,near p)∧∀ H',Same H H'→Q (.bl false) H'
def Ze8:Sp:=fun vs H Q _=>∃ (u:V) (b:Addr) (ps:List (List Int)) (us:List V),vs=[u,.ref b]∧IsPs H u ps∧H b=some (.tup us)∧us.length≠ps.length∧Q (.bl false) H
def Zff:Sp:=fun vs H Q _=>∃ (u v:V) (ps:List (List Int)) (ts:List Int),vs=[u,v]∧IsPs H u ps∧IsI H v ts∧ts.length=ps.length∧ps.length≤40∧(∀ t∈ts,t.natAbs≤100)∧(∃ t∈ts,¬ (1≤t∧t≤9))∧∀ H',Same H H'→Q (.bl false) H'
def Zie:Sp:=fun vs H Q _=>∃ (v:V) (l m:Int),vs=[v]∧IsI H v [l,m]∧l.natAbs≤100∧m.natAbs≤100∧¬ ((0≤l∧l≤9)∧(1≤m∧m≤9))∧Q (.bl false) H
def Zj4:Sp:=fun vs H Q _=>∃ (u v:V) (cs:List Pnt) (ps:List (List Int)),vs=[u,v]∧IsCs H u cs∧IsPs H v ps∧(∀ p∈ps,p.length=3)∧ps.length≤40∧cntS ps.flatten≠cs.length∧cs.length≤30∧∀ H',Same H H'→Q (.bl false) H'
inductive BadPl (K:PySem.W.Frag) (H:Hp):V→Nat→Prop
 | row {v:V} (h:RowN K H v 4 4):BadPl K H v 0
 | cs {a:Addr} {c p t s:V} (ha:H a=some (.tup [c,p,t,s])) (hc:NoT K H c):BadPl K H (.ref a) 1
 | psN {a b:Addr} {c t s:V} {cs:List Pnt} (ha:H a=some (.tup [c,.ref b,t,s])) (hc:IsCs H c cs) (c3:3≤cs.length) (c30:cs.length≤30) (nr:∀ p∈cs,near p) (nd:cs.Nodup) (hb:H b=some (.tup [])):BadPl K H (.ref a) 2
 | psR {a:Addr} {c p t s:V} {cs:List Pnt} {ps:List (List Int)} (ha:H a=some (.tup [c,p,t,s])) (hc:IsCs H c cs) (c3:3≤cs.length) (c30:cs.length≤30) (nr:∀ p∈cs,near p) (nd:cs.Nodup) (hp:IsPs H p ps) (p1:1≤ps.length) (p40:ps.length≤40) (pc:∀ p∈ps,PieceOk cs p)
    (rf:∃ (i:Nat) (x y:List Int),ps[i]? = some x∧ps[i+1]? = some y∧HT.lexLt x y=false):BadPl K H (.ref a) 3
 | tsN {a b:Addr} {c p s:V} {cs:List Pnt} {ps:List (List Int)} {us:List V} (ha:H a=some (.tup [c,p,.ref b,s])) (hc:IsCs H c cs) (c3:3≤cs.length) (c30:cs.length≤30) (nr:∀ p∈cs,near p) (nd:cs.Nodup) (hp:IsPs H p ps) (p1:1≤ps.length) (p40:ps.length≤40) (pc:∀ p∈ps,PieceOk cs p)
    (rise:∀ i:Nat,i+1<ps.length→HT.lexLt (ps.getD i []) (ps.getD (i+1) [])=true) (hb:H b=some (.tup us)) (hl:us.length≠ps.length):BadPl K H (.ref a) 4
 | tsO {a:Addr} {c p t s:V} {cs:List Pnt} {ps:List (List Int)} {ts:List Int} (ha:H a=some (.tup [c,p,t,s])) (hc:IsCs H c cs) (c3:3≤cs.length) (c30:cs.length≤30) (nr:∀ p∈cs,near p) (nd:cs.Nodup) (hp:IsPs H p ps) (p1:1≤ps.length) (p40:ps.length≤40) (pc:∀ p∈ps,PieceOk cs p)
    (rise:∀ i:Nat,i+1<ps.length→HT.lexLt (ps.getD i []) (ps.getD (i+1) [])=true) (ht:IsI H t ts) (tl:ts.length=ps.length) (tb:∀ t∈ts,t.natAbs≤100) (to:∃ t∈ts,¬ (1≤t∧t≤9)):BadPl K H (.ref a) 5
 | st {a:Addr} {c p t s:V} {cs:List Pnt} {ps:List (List Int)} {ts:List Int} {l m:Int} (ha:H a=some (.tup [c,p,t,s])) (hc:IsCs H c cs) (c3:3≤cs.length) (c30:cs.length≤30) (nr:∀ p∈cs,near p) (nd:cs.Nodup) (hp:IsPs H p ps) (p1:1≤ps.length) (p40:ps.length≤40) (pc:∀ p∈ps,PieceOk cs p)
    (rise:∀ i:Nat,i+1<ps.length→HT.lexLt (ps.getD i []) (ps.getD (i+1) [])=true) (ht:IsI H t ts) (tl:ts.length=ps.length) (t9:∀ t∈ts,1≤t∧t≤9) (hs:IsI H s [l,m]) (hl:l.natAbs≤100) (hm:m.natAbs≤100) (no:¬ ((0≤l∧l≤9)∧(1≤m∧m≤9))):BadPl K H (.ref a) 6
 | us {a:Addr} {c p t s:V} {cs:List Pnt} {ps:List (List Int)} {ts:List Int} {l m:Int} (ha:H a=some (.tup [c,p,t,s])) (hc:IsCs H c cs) (c3:3≤cs.length) (c30:cs.length≤30) (nr:∀ p∈cs,near p) (nd:cs.Nodup) (hp:IsPs H p ps) (p1:1≤ps.length) (p40:ps.length≤40) (pc:∀ p∈ps,PieceOk cs p)
    (rise:∀ i:Nat,i+1<ps.length→HT.lexLt (ps.getD i []) (ps.getD (i+1) [])=true) (ht:IsI H t ts) (tl:ts.length=ps.length) (t9:∀ t∈ts,1≤t∧t≤9) (hs:IsI H s [l,m]) (l9:0≤l∧l≤9) (m9:1≤m∧m≤9) (un:cntS ps.flatten≠cs.length):BadPl K H (.ref a) 7
def Xk (K:PySem.W.Frag) (n:Nat):Sp:=fun vs H Q _=>∃ v,vs=[v]∧BadPl K H v n∧∀ H',Same H H'→Q (.bl false) H'
def spOr (s1 s2:Sp):Sp:=fun vs H Q E=>s1 vs H Q E∨s2 vs H Q E
theorem fnOr {P:Program} {w:World} {K:PySem.W.Frag} {mg:Str→Option Value} {base:Heap} {CX:CXT} {k:Nat} {f:Addr} {fd:FuncData} {ps:List Str} {s1 s2:Sp} (a:FnOk P w K mg base CX k f fd ps s1) (b:FnOk P w K mg base CX k f fd ps s2):FnOk P w K mg base CX k f fd ps (spOr s1 s2) :=
 ⟨fun vs H Q E h=>h.elim (a.len vs H Q E) (b.len vs H Q E),fun A o s H args us vs Q E hr e hb r h=>h.elim (a.run A o s H args us vs Q E hr e hb r) (b.run A o s H args us vs Q E hr e hb r)⟩
def Zbl (K:PySem.W.Frag):Sp:=spOr Zcg (spOr (Xk K 0) (spOr (Xk K 1) (spOr (Xk K 2) (spOr (Xk K 3) (spOr (Xk K 4) (spOr (Xk K 5) (spOr (Xk K 6) (Xk K 7))))))))
def PlB (K:PySem.W.Frag) (H:Hp) (v:V) (b:Bool):Prop:=(b=true∧∃ P',IsPl H v P'∧PlOk P')∨(b=false∧∃ n,BadPl K H v n)
theorem Zsc {K:PySem.W.Frag} {H:Hp} {v:V} {n:Nat} (h:BadPl K H v n):n≤7:=by cases h<;>decide
theorem plM {K:PySem.W.Frag} {H:Hp} {v:V} {b:Bool} (h:PlB K H v b) {Q:VK} {E:XK} (q:∀ H',Same H H'→Q (.bl b) H'):Zbl K [v] H Q E:=by
 rcases h with ⟨rfl,P',h,ok⟩|⟨rfl,n,h⟩
 · exact .inl ⟨v,P',rfl,h,ok,q⟩
 · have g:Xk K n [v] H Q E:=⟨v,rfl,h,q⟩
   match n,Zsc h,g with
   | 0,_,g=>exact .inr (.inl g)
   | 1,_,g=>exact .inr (.inr (.inl g))
   | 2,_,g=>exact .inr (.inr (.inr (.inl g)))
   | 3,_,g=>exact .inr (.inr (.inr (.inr (.inl g))))
   | 4,_,g=>exact .inr (.inr (.inr (.inr (.inr (.inl g)))))
   | 5,_,g=>exact .inr (.inr (.inr (.inr (.inr (.inr (.inl g))))))
   | 6,_,g=>exact .inr (.inr (.inr (.inr (.inr (.inr (.inr (.inl g)))))))
   | 7,_,g=>exact .inr (.inr (.inr (.inr (.inr (.inr (.inr (.inr g)))))))
def CLS:List Str:=["NoWhole","NoFraction","NoRows","NoPlate","NoMotions","NoLoads","NoHolding","NoWays","NoWay","NoPiece","NoStresses","NoBalance","NoRest","NoRounds","NoFrame","NoLot","NoInner","NoTurning","NoFirm","NoThick","NoDeed","NoDeeds","NotHeld","NoLine","TooMany","NoText"]
def WRD:List Str:=["whole","fraction","rows","plate","motions","loads","holding","ways","way","piece","stresses","balance","rest","rounds","frame","lot","inner","turning","firm","thick","deed","deeds","held","line"]
structure Kind (K:PySem.W.Frag) (cl:Str→Addr) (C:Addr) (ix:Nat):Prop where
 is:∀ (i:Nat) x,CLS[i]? = some x→PySem.W.kitOne K (.ref C) (.ref (cl x))=some (decide (i=ix))
 ve:PySem.W.kitOne K (.ref C) (.type "ValueError")=some true
 pe:PySem.W.exmOne K (.ref C) (.ref (cl "PlateError"))=some true
 lk:ExcLook K C
structure Ek (K:PySem.W.Frag) (mg:Str→Option Value) (cl:Str→Addr):Prop where
 nm:∀ x,x∈CLS→mg x=some (.ref (cl x))
 vb:mg "ValueError" = none
 mpe:mg "PlateError" = some (.ref (cl "PlateError"))
 e_NoPlate:ExcK K (cl "NoPlate")
 k_NoPlate:Kind K cl (cl "NoPlate") 3
theorem Ek.m_NoPlate {K:PySem.W.Frag} {mg:Str→Option Value} {cl:Str→Addr} (Z:Ek K mg cl):mg "NoPlate" = some (.ref (cl "NoPlate")):=Z.nm _ (by decide)
theorem Zt7:bootBuiltins "ValueError" = some (.type "ValueError"):=by decide +kernel
def mk26 (ix:Nat):List Bool:=[decide (0=ix),decide (1=ix),decide (2=ix),decide (3=ix),decide (4=ix),decide (5=ix),decide (6=ix),decide (7=ix),decide (8=ix),decide (9=ix),decide (10=ix),decide (11=ix),decide (12=ix),decide (13=ix),decide (14=ix),decide (15=ix),decide (16=ix),decide (17=ix),decide (18=ix),decide (19=ix),decide (20=ix),decide (21=ix),decide (22=ix),decide (23=ix),decide (24=ix),decide (25=ix)]
def IxOk (ix:Nat):Prop:=ix=3
def Zji (K:PySem.W.Frag) (cl:Str→Addr):Sp:=fun vs H Q _=>∃ ea C ix,vs=[.ref ea]∧H ea=some (excA ea C)∧Kind K cl C ix∧IxOk ix∧∀ T H',Same H H'→H' T=some (.tup [.str (WRD.getD ix "")])→Q (.ref T) H'
def Mono (sp:Hp→VK→XK→Prop):Prop:=∀ H (Q Q':VK) (E E':XK),(∀ v H1,Q v H1→Q' v H1)→(∀ c a H1,E c a H1→E' c a H1)→sp H Q E→sp H Q' E'
def Zi4 (P:Program) (w:World) (K:PySem.W.Frag) (mg:Str→Option Value) (base:Heap) (cl:Str→Addr):Sp:=fun vs H Q _=>∃ a sp o fd,vs=[.ref a]∧H a=some (fzO o)∧o.data=.func fd∧Zld P w K mg base 8 a sp∧Mono sp ∧
 sp H (fun v H1=>∀ L,H1 L=none→Q (.ref L) (upd H1 L (.lst [v]))) (fun c _ H1=>∃ C ix,c=.ref C∧Kind K cl C ix∧IxOk ix∧∀ T H2,Same H1 H2→H2 T=some (.tup [.str (WRD.getD ix "")])→Q (.ref T) H2)
def Zcr (K:PySem.W.Frag) (c:Addr):Sp:=fun vs H Q E=>∃ v b,vs=[v]∧PlB K H v b∧∀ H',Same H H'→(if b=true then Q .non H' else E (.ref c) none H')
def Znw:Sp:=fun vs H Q _=>∃ l N,vs=[.ref l]∧StAt H l∧N l∧Dom N H∧∀ H' v,Keep l H H'→StAt H' l→Tg N H' 100 2 8 v→Q v H'
theorem Zr7 (d:PyData):1≤nz d:=by
 cases d with
 | str x=>exact n32_ (show 1≤2 by decide) (PySem.StrLaws.reprText_ge2 x)
 | _=>simp only [nz]<;>omega
theorem Zl0:∀ ds:List PyData,2*ds.length≤Z0 ds
 | []=>n43_ _
 | x :: xs=>by have:=Zl0 xs;have:=Zr7 x;simp only [n16_,Z0];omega
theorem row4 {K:PySem.W.Frag} {N:Addr→Prop} {H:Hp} {k:Nat} {u:V} {d:PyData} (h:Dt N H k u d) (hz:nz d≤8):RowN K H u 4 4:=by
 rcases h.isT with ⟨a,xs,ds,rfl,rfl,ha,hs⟩|e
 · have z:1+Z0 ds≤8:=hz
   have:=Zl0 ds
   have:=hs.len
   exact .inr ⟨a,xs,rfl,ha,by omega⟩
 · obtain ⟨t,ty,ki⟩:=h.ty (K:=K);rw [e] at ki;exact .inl ⟨t,ty,ki⟩
def Bds (K:PySem.W.Frag) (H:Hp) (l:List V):Prop:=∀ w∈l,∃ n,BadPl K H w n
theorem Bds.nil {K:PySem.W.Frag} {H:Hp}:Bds K H []:=fun _ h=>by simp at h
theorem Bds.cons {K:PySem.W.Frag} {H:Hp} {v:V} {l:List V} {n:Nat} (a:BadPl K H v n) (b:Bds K H l):Bds K H (v :: l):=fun w h=>(n14_.mp h).elim (fun e=>e ▸ ⟨n,a⟩) (b w)
theorem Bds.app {K:PySem.W.Frag} {H:Hp} {l m:List V} (a:Bds K H l) (b:Bds K H m):Bds K H (l++m):=fun w h=>(n57_.mp h).elim (a w) (b w)
def Zh1 (K:PySem.W.Frag):Sp:=fun vs H Q _=>∃ v u P' N k d,vs=[v,u]∧IsPl H v P'∧PlOk P'∧(∀ p∈P'.cs,p.1≤98)∧P'.ps.length≤4∧P'.cs.length≤6∧Dt N H k u d∧nz d≤8∧∀ L vs' H',Same H H'→H' L=some (.lst vs')→H L=none→Bds K H' vs'→vs'.length≤100→Q (.ref L) H'
theorem Zr2 {α:Type} {R:V→α→Prop} {vs ws:List V} {xs ys:List α} (a:Al R vs xs) (b:Al R ws ys):Al R (vs++ws) (xs++ys):=⟨by rw [n25_,n25_,a.1,b.1],fun i v x e1 e2=>by
 by_cases h:i<vs.length
 · rw [n48_ h] at e1;rw [n48_ (by rw [← a.1];exact h)] at e2;exact a.2 i v x e1 e2
 · rw [n54_ (by omega)] at e1;rw [n54_ (by rw [← a.1];omega),← a.1] at e2;exact b.2 _ v x e1 e2⟩
theorem Zil {cs:List Pnt} {q:Pnt} {i:Int} (h0:0≤i) (h1:i≤(cs.length:Int)-1):cAt (cs++[q]) i=cAt cs i:=by
 unfold cAt;rw [n3_,n3_,n48_ (by omega)]
theorem Zma {cs:List Pnt} {q:Pnt} {p:List Int} (h:PieceOk cs p):PieceOk (cs++[q]) p:=by
 have bd:=h.bd;refine ⟨h.len,fun i hi=>⟨(bd i hi).1,?_⟩,h.rise,?_⟩
 · have:=(bd i hi).2
   rw [n25_];simp only [n16_,n59_];omega
 · have hd:=h.d;have hl:=h.len
   match p,hl,bd,hd with
   | [x,y,z],_,bd,hd =>
     unfold dOf at hd ⊢;simp only [List.getD_cons_zero,List.getD_cons_succ] at hd ⊢;rw [Zil (bd x (by simp)).1 (bd x (by simp)).2,Zil (bd y (by simp)).1 (bd y (by simp)).2,Zil (bd z (by simp)).1 (bd z (by simp)).2];exact hd
theorem Zkq {ks:List (List Int)} {m:Nat} (hm:∀ k∈ks,k.length=m) (h:∀ i:Nat,i+1<ks.length→HT.lexLt (ks.getD i []) (ks.getD (i+1) [])=true):∀ (d i:Nat),i+d+1<ks.length→HT.lexLt (ks.getD i []) (ks.getD (i+d+1) [])=true
 | 0,i,hi=>h i hi
 | d+1,i,hi=>by
   have ln:∀ j,j<ks.length→(ks.getD j []).length=m:=fun j hj=>by rw [n3_,n1_ hj];exact hm _ (n39_ hj)
   exact Zm0 _ (ks.getD (i+d+1) []) _ (by rw [ln _ (by omega),ln _ (by omega)]) (by rw [ln _ (by omega),ln _ (by omega)]) (Zkq hm h d i (by omega)) (h (i+d+1) hi)
theorem Znt {ps:List (List Int)} (h1:1≤ps.length) (h3:∀ p∈ps,p.length=3) (h:∀ i:Nat,i+1<ps.length→HT.lexLt (ps.getD i []) (ps.getD (i+1) [])=true):∃ (i:Nat) (x y:List Int),(ps++ps)[i]? = some x∧(ps++ps)[i+1]? = some y∧HT.lexLt x y=false:=by
 have e0:ps[0]? = some (ps.getD 0 []):=by rw [n3_,n1_ (by omega)];rfl
 have e1:ps[ps.length-1]? = some (ps.getD (ps.length-1) []):=by rw [n3_,n1_ (by omega)];rfl
 refine ⟨ps.length-1,_,_,by rw [n48_ (by omega)];exact e1,by rw [n54_ (by omega),show ps.length-1+1-ps.length=0 by omega];exact e0,?_⟩
 by_cases hn:ps.length=1
 · rw [hn];exact Zgs _
 · have r:=Zkq h3 h (ps.length-2) 0 (by omega);rw [show 0+(ps.length-2)+1=ps.length-1 by omega] at r;have ln:∀ j,j<ps.length→(ps.getD j []).length=3:=fun j hj=>by rw [n3_,n1_ hj];exact h3 _ (n39_ hj)
   have:=Zix (ps.getD 0 []) (ps.getD (ps.length-1) []) (by rw [ln _ (by omega),ln _ (by omega)]) (fun z=>by rw [z,Zgs] at r;cases r)
   rw [this,r];rfl
abbrev noPs:Arguments:={ posonlyargs:=[],args:=[],vararg:=none,kwonlyargs:=[],kw_defaults:=[],kwarg:=none,defaults:=[] }
abbrev lsc (ns:List (Str×NameKind)):Scope:={ kind:=.function,names:=ns,isGenerator:=false,isCoroutine:=false }
theorem lk3 {a b c x:Str} (h:List.lookup x [(a,NameKind.free),(b,.free),(c,.globalImplicit)]=some .free):x=a∨x=b:=by
 simp only [List.lookup] at h;split at h
 · rename_i e;exact .inl (beq_iff_eq.mp e)
 · split at h
   · rename_i e;exact .inr (beq_iff_eq.mp e)
   · split at h<;>cases h
theorem Zr5 {H:Hp} {c:Addr} {v:V} (h:Zn6 H c v):∃ o v,H c=some (fzO o)∧o.data=.cell v:=let ⟨o,u,a,b,_⟩:=h;⟨o,_,a,b⟩
section
variable {P:Program} {w:World} {K:PySem.W.Frag} {mg:Str→Option Value} {base:Heap} {c c' a:Addr} {pm:Value} {q:Str} {p0 p1 p2 p3:Pos} {j0:Nat}
def spB2 (sp:V→V→Hp→VK→XK→Prop) (body:Expr) (f:Str) (a c1 c2:Addr) (q:Str) (pm:Value):Hp→VK→XK→Prop:=fun H Q E =>
 LamF H a q noPs body (lsc [("_law_bad",.free),("_law_some",.free),(f,.globalImplicit)]) [("_law_some",c2),("_law_bad",c1)] pm∧∃ v u,Zn6 H c1 v∧Zn6 H c2 u∧sp v u H Q E
theorem Zly {sp:V→V→Hp→VK→XK→Prop} {body:Expr} {f:Str} {c1 c2:Addr} (m:∀ v u,Mono (sp v u)):Mono (spB2 sp body f a c1 c2 q pm):=fun H Q Q' E E' hQ hE ⟨l,v,u,h1,h2,s⟩=>⟨l,v,u,h1,h2,m v u H Q Q' E E' hQ hE s⟩
theorem Zt6 {sp:V→V→Hp→VK→XK→Prop} {body:Expr} {f:Str} {c1 c2:Addr} (hne:c1≠c2)
 (hpe:∀ (A:Around) (outer:List Env) (s:Shared) (H:Hp) (Q:VK) (E:XK) (cd:Value) (v u:V),Room 7 (A.deeper (Zfm (lsc [("_law_bad",.free),("_law_some",.free),(f,.globalImplicit)]) s.z [("_law_some",c2),("_law_bad",c1)] q a cd))→sp v u H Q E →
   ∃ t,PE (cxL P w K mg base ["_law_bad","_law_some"] (Zfm (lsc [("_law_bad",.free),("_law_some",.free),(f,.globalImplicit)]) s.z [("_law_some",c2),("_law_bad",c1)] q a cd) A outer s H E) body t∧t [some v,some u] H Q) :
 Zld P w K mg base 8 a (spB2 sp body f a c1 c2 q pm):=by
 refine Zsy (k:=7) (N:=["_law_bad","_law_some"]) (q:=q) (params:=noPs) (body:=body) (scope:=lsc [("_law_bad",.free),("_law_some",.free),(f,.globalImplicit)]) (clos:=[("_law_some",c2),("_law_bad",c1)]) (pm:=pm) rfl rfl rfl ?_ ?_ ?_ ?_ ?_ ?_ ?_
 · intro x hx;simp only [n14_,n17_,or_false] at hx;rcases hx with rfl|rfl|rfl<;>(intro z;cases z)
 · intro _ _;rfl
 · intro x y d h1 h2;simp only [List.lookup] at h1 h2;split at h1<;>split at h2
   · rename_i e1 _ e2;exact (beq_iff_eq.mp e1).trans (beq_iff_eq.mp e2).symm
   · rename_i e1 _ e2
     split at h2
     · cases h1;cases h2;exact absurd rfl hne
     · cases h2
   · rename_i e1 _ e2
     split at h1
     · cases h1;cases h2;exact absurd rfl hne
     · cases h1
   · rename_i e1 _ e2
     split at h1
     · split at h2
       · rename_i a1 _ a2;exact (beq_iff_eq.mp a1).trans (beq_iff_eq.mp a2).symm
       · cases h2
     · cases h1
 · intro x hx
   rcases lk3 hx with rfl|rfl
   · exact ⟨c1,rfl⟩
   · exact ⟨c2,rfl⟩
 · intro i x e
   match i,e with
   | 0,e=>cases e;rfl
   | 1,e=>cases e;rfl
   | n+2,e=>simp at e
 · rintro H Q E ⟨l,v,u,h1,h2,_⟩
   refine ⟨l,fun x d e=>?_⟩;simp only [List.lookup] at e;split at e
   · cases e;exact Zr5 h2
   · split at e
     · cases e;exact Zr5 h1
     · cases e
 · rintro A outer s H Q E cd hr ⟨l,v,u,h1,h2,h3⟩
   obtain ⟨t,ht,hq⟩:=hpe A outer s H Q E cd v u hr h3;refine ⟨[some v,some u],t,rfl,fun i x z e1 e2=>?_,ht,hq⟩
   match i,e1,e2 with
   | 0,e1,e2=>cases e1;cases e2;exact ⟨c1,rfl,h1⟩
   | 1,e1,e2=>cases e1;cases e2;exact ⟨c2,rfl,h2⟩
   | n+2,e1,e2=>simp at e1
end
theorem Drawn.far {pts:List Pnt} {pcs:List (List Int)} {A:Aff} {o:List Int} {cs:List Pnt} {kl:List (List Int)} {q:List Nat} (D:Drawn pts pcs A o cs kl q):∀ p∈cs,p.1≤98:=by
 intro p hp;obtain ⟨k,hk,e⟩:=n40_ hp;have hl:=D.len;obtain ⟨j,hj,ej⟩:=D.ord.sur k (by omega);have at':=D.at_ j hj;rw [ej,n62_,n1_ hk,e] at at';have e2:=Option.some.inj at';have bd:=D.base.bd (pts.getD j (0,0)) (by rw [n3_,n1_ hj];exact n39_ hj);rw [e2];have S:=D.small;generalize pts.getD j (0,0)=x at bd;have h1:(A.a*x.1).natAbs≤3*6:=by rw [n64_];exact n53_ S.a bd.1
 have h2:(A.b*x.2).natAbs≤3*6:=by rw [n64_];exact n53_ S.b bd.2
 have h5:=S.s;unfold Aff.at;dsimp only;omega
def Zua (K:PySem.W.Frag):R2:=fun x y H Q=>∃ a b xs,x=.ref a∧y=.ref b∧SqL K H a xs∧SqL K H b []∧Q (.bl (decide (xs=[]))) H
theorem Zml {X:Cx} (hu:X.A.units<cLine):OpR X (compareOp .Eq) (Zua X.K):=by
 intro pins s σ H x y v u Q I rx ry h;obtain ⟨a,b,xs,rfl,rfl,h1,h2,q⟩:=h;cases rx;cases ry
 obtain ⟨us,r1,p1,_⟩:=I.list h1;obtain ⟨ws,r2,p2,_⟩:=I.list h2;have l1:=r1.length;have e:ws=[]:=r2.nil_iff.mpr rfl;subst e;cases hx:xs with
 | nil =>
   subst hx;have e:us=[]:=r1.nil_iff.mpr rfl;subst e;exact SeqAt.eq_listAt (e:=fun j=>true) p1.isList p2.isList rfl hu (fun j h1 h2=>absurd h2 (by simp)) ⟨.bl _,H,I,rfl,q⟩
 | cons y ys =>
   subst hx;exact SeqAt.eq_list_lengthsAt p1.isList p2.isList (by simp at l1;simp [← l1]) hu ⟨.bl _,H,I,rfl,q⟩
def Zqo:V→List V→Hp→VK→Prop:=fun x vs H Q=>∃ (l:Addr) (xs:List V) (i:Int) (k:Nat) (y:V),x=.ref l∧vs=[.int i,y]∧i=(k:Int)∧H l=some (.lst xs)∧k≤xs.length∧k<2^62∧xs.length<sizeLine∧Q .non (upd H l (.lst (xs.take k++y :: xs.drop k)))
theorem Zhm {X:Cx}:MtM X "list.insert" Zqo:=by
 intro pins s σ H x vs v us Q I rx rv h;obtain ⟨l,xs,i,k,y,rfl,rfl,hik,hH,hk,h62,hz,q⟩:=h;cases rx
 obtain ⟨u,w,rfl,ru,rw'⟩:=rv.two;obtain ⟨t,rfl⟩:=ru;obtain ⟨z,its,n,r,hl,e⟩:=I.lstM hH;have hf:Builtin.List.listFitsIndex i=true:=fitsIndex_both (by omega) (by omega);refine call_meets PySem.F.slot_list_insert ⟨_,e,rfl⟩ PySem.F.entry_list_insert (PySem.F.args_list_insert_3 _ _ _) (AutoSeq1.list_insert_list_int_val_1 l its.toArray n i t w (by simp [hf]) (by rw [n5_];omega)) ⟨e,?_⟩;refine ⟨.non,_,I.lset (its':=its.take k++w :: its.drop k) hH e ?_ ((r.take k).append (.cons rw' (r.drop k))) ?_,rfl,q⟩
 · show (its.toArray.extract 0 (if i<0 then (i+(its.toArray.size:Int)).toNat else min i.toNat its.toArray.size)).push w++its.toArray.extract (if i<0 then (i+(its.toArray.size:Int)).toNat else min i.toNat its.toArray.size)=(its.take k++w :: its.drop k).toArray
   subst hik;rw [if_neg (by omega),n62_,n5_,Nat.min_eq_left (by omega)]
   simp
   exact n55_ (by rw [List.length_drop];exact n6_ _)
 · simp only [n25_,n61_,n16_,List.length_drop];omega
theorem Zhw (K:PySem.W.Frag) {X:Cx} {a:Expr} {ta:TE} (hK:X.K=K) (ha:PE X a ta) (he:∀ whole,isTrue a X.env whole=(do let v ← whole;standAt a.pos;holding [v] (truthy v))):PT X a (fun σ H Q=>ta σ H fun x H'=>∃ k,TruV K x H' k∧Q k H'):=hK ▸ Zk ha he
def rEq0 (K:PySem.W.Frag):R2:=fun x y H Q=>∃ a b xs,x=.ref a∧y=.ref b∧SqT K H a xs∧SqT K H b []∧Q (.bl (decide (xs=[]))) H
theorem Zsm {X:Cx} (hu:X.A.units<cLine):OpR X (compareOp .Eq) (rEq0 X.K):=by
 intro pins s σ H x y v u Q I rx ry h;obtain ⟨a,b,xs,rfl,rfl,h1,h2,q⟩:=h;cases rx;cases ry
 obtain ⟨us,r1,p1,_⟩:=I.tuple h1;obtain ⟨ws,r2,p2,_⟩:=I.tuple h2;have l1:=r1.length;have e:ws=[]:=r2.nil_iff.mpr rfl;subst e;refine SeqAt.eq_tupleAt (e:=fun j=>true) p1 p2 hu (fun j h1 h2=>absurd h2 (by simp)) ⟨.bl _,H,I,rfl,?_⟩
 have z:((List.range (min us.toArray.size (([]:List Value).toArray).size)).all (fun _=>true)&&us.toArray.size == (([]:List Value).toArray).size)=decide (xs=[]):=by
  rw [n5_,← l1];cases xs<;>simp
 rw [z];exact q
mutual
theorem Dt.less {N:Addr→Prop} {p:Addr} {H:Hp} {k:Nat}:∀ {v:V} {d:PyData},Dt (fun b=>N b∨b=p) H k v d→Dt N H k v d
 | _,_,.non=>.non
 | _,_,.bl b=>.bl b
 | _,_,.int h=>.int h
 | _,_,.str x=>.str x
 | _,_,.tup h r=>.tup h (Dts.less r)
 | _,_,.lst h n m r=>.lst h (fun z=>n (.inl z)) m (Dts.less r)
 | _,_,.dic h=>.dic h
theorem Dts.less {N:Addr→Prop} {p:Addr} {H:Hp} {k:Nat}:∀ {vs:List V} {ds:List PyData},Dts (fun b=>N b∨b=p) H k vs ds→Dts N H k vs ds
 | _,_,.nil=>.nil
 | _,_,.cons a b=>.cons (Dt.less a) (Dts.less b)
end
theorem bfin {N:Addr→Prop} {p:Addr} {H:Hp} {k m M rn j:Nat} {xs mid:List V} {ds es:List PyData} {t:Addr} (hs:Dts (fun b=>N b∨b=p) H k xs ds) (hm:Dts (fun b=>N b∨b=p) H k mid es) (d1:PyData.depthAll ds+1≤m) (d2:PyData.depthAll es+1≤m) (z:1+(Z0 (ds.take rn)+(Z0 es+Z0 (ds.drop j)))≤M) (nt:H t=none):Tg N (upd H t (.tup (xs.take rn++(mid++xs.drop j)))) k m M (.ref t) :=
 ⟨.tuple (ds.take rn++(es++ds.drop j)),.tup Zc (Dts.less (((hs.take rn).app (hm.app (hs.drop j))).same (Same.new nt))),by
  show PyData.depthAll _+1≤_
  rw [Yt,Yt]
  have:=Zby rn ds
  have:=Zb1 j ds
  omega,by
  show 1+Z0 _≤_
  rw [Xj,Xj];exact z⟩
theorem Zfy {l p:Addr} {H H3 H6 H7:Hp} (K3:Keep l H H3) (n4:H3 p=none) (K36:Keep l H3 H6) (u:Keep p H6 H7):Keep l H H7:=fun b o nb e=>u b o (Zr (K3 b o nb e) n4) (K36 b o nb (K3 b o nb e))
def Zfh (n:Nat):Sp:=fun vs H Q _=>∃ l N k v d m,vs=[.ref l,v,.int (n:Int)]∧StAt H l∧N l∧Dom N H∧Dt N H k v d∧100≤k∧d.depth≤m∧n+3≤m∧nz d≤100000∧∀ H' v',Keep l H H'→StAt H' l→Tg N H' (k+1) m (2*nz d+40) v'→Q v' H'
def Za6 (n:Nat) (d:PyData):Bool:=match d with
 | .tuple ds=>decide (ds.length=n)&&ds.all isFr
 | _=>false
def Zm1 (n:Nat) (d:PyData):Bool:=match d with
 | .tuple ds=>decide (ds.length=n)&&ds.all (Za6 3)
 | _=>false
theorem Zj0 {n:Nat} {d:PyData} (h:isT d=false):Za6 n d=false:=by cases d<;>first|rfl|(cases h)
theorem Zkr {n:Nat} {d:PyData} (h:isT d=false):Zm1 n d=false:=by cases d<;>first|rfl|(cases h)
theorem Zjm {n:Nat} {ds:List PyData} (h:ds.length≠n):Za6 n (.tuple ds)=false:=by
 show (decide (ds.length=n)&&_)=false
 rw [n8_ h];rfl
theorem Zj9 {n:Nat} {ds:List PyData} (h:ds.length≠n):Zm1 n (.tuple ds)=false:=by
 show (decide (ds.length=n)&&_)=false
 rw [n8_ h];rfl
theorem Zka {n:Nat} {ds:List PyData} (h:ds.length=n):Za6 n (.tuple ds)=ds.all isFr:=by
 show (decide (ds.length=n)&&_)=_
 rw [n19_ h];rfl
theorem Zks {n:Nat} {ds:List PyData} (h:ds.length=n):Zm1 n (.tuple ds)=ds.all (Za6 3):=by
 show (decide (ds.length=n)&&_)=_
 rw [n19_ h];rfl
theorem Zpe {H:Hp} {us:List V} (ds:List PyData) (p:PyData→Bool) (h:Al (fun _ (_:Unit)=>True) us ((List.range ds.length).filterMap fun i=>if p (ds.getD i .none)=true then none else some ())):decide (us=[])=ds.all p:=by
 have hl:=h.1;cases e:ds.all p with
 | true =>
   have:(List.range ds.length).filterMap (fun i=>if p (ds.getD i .none)=true then none else some ())=[]:=by
    rw [List.filterMap_eq_nil_iff];intro i hi;have hi':=n35_.mp hi;rw [if_pos];rw [n3_,n1_ hi'];exact n33_.mp e _ (n39_ hi')
   rw [this] at hl;exact n19_ (List.eq_nil_of_length_eq_zero hl)
 | false =>
   refine n8_ fun z=>?_;subst z;have hn:(List.range ds.length).filterMap (fun i=>if p (ds.getD i .none)=true then none else some ())=[]:=List.eq_nil_of_length_eq_zero hl.symm
   have:ds.all p=true:=n33_.mpr fun x hx=>by
    obtain ⟨i,hi,e⟩:=n40_ hx
    have:=List.filterMap_eq_nil_iff.mp hn i (n35_.mpr hi)
    rw [n3_,n1_ hi] at this;rw [← e];cases q:p ds[i] with
    | true=>rfl
    | false=>simp [q] at this
   rw [this] at e;cases e
theorem Zjt {ds:List PyData} {i:Nat} {dx:PyData} (h:ds[i]? = some dx):nz dx≤nz (.tuple ds):=by
 have:=(Zdm h).1
 show _≤1+Z0 ds
 omega
def Zij:Sp:=fun vs H Q _=>∃ N k v d n,vs=[v,.int ((n:Nat):Int)]∧Dt N H k v d∧k≤4000∧nz d≤1000∧∀ H',Same H H'→Q (.bl (Za6 n d)) H'
def Zj1:Sp:=fun vs H Q _=>∃ N k v d n,vs=[.int ((n:Nat):Int),v]∧Dt N H k v d∧k≤4000∧nz d≤1000∧∀ H',Same H H'→Q (.bl (Za6 n d)) H'
def Zah:Sp:=fun vs H Q _=>∃ N k u v d P',vs=[u,v]∧IsPl H u P'∧PlOk P'∧Dt N H k v d∧k≤4000∧nz d≤1000∧∀ H',Same H H'→Q (.bl (Zm1 P'.ps.length d)) H'
def Zaf (K:PySem.W.Frag) (cl:Str→Addr):Sp:=fun vs H Q E=>∃ v u n,vs=[v,u]∧BadPl K H v n∧∀ H',Same H H'→E (.ref (cl "NoPlate")) none H'
theorem Zue {A:Around} {k:Nat} (hr:Room k A):A.units+0+1<cLine:=by have:=hr.un;omega
theorem al1s (x:Str):Al (fun v (x:Str)=>v=V.str x) [V.str x] [x]:=⟨rfl,fun i v y e1 e2=>by
 match i,e1,e2 with
 | 0,e1,e2=>cases e1;cases e2;rfl
 | n+1,e1,e2=>simp at e1⟩
def Zju (K:PySem.W.Frag) (Pw Pl:Addr):Sp:=fun vs H Q _=>∃ (a:Addr) (ns:List Int),vs=[.ref a]∧SqL K H a (ns.map V.int)∧ns.length≤63∧TabF H Pl "law.<locals>.<lambda>" ∧ ∀ H',Q (.bl true) H'
theorem Zob {K:PySem.W.Frag} {H H':Hp} {P:Addr} {q:Str} {v:V} {ty:Value} (t:TabF H P q) (s:Zde P H H') (h:TyOf K H v ty):TyOf K H' v ty:=by
 obtain ⟨ps,ep,_⟩:=t;have ne:∀ {b:Addr} {o:HO},H b=some o→(∀ ps,o≠.tbl ps)→H' b=some o:=fun {b o} e n=>s _ _ (fun z=>by rw [z,ep] at e;cases e;exact n _ rfl) e;cases h with
 | non=>exact .non
 | bl x=>exact .bl x
 | int i=>exact .int i
 | str x=>exact .str x
 | flt x=>exact .flt x
 | lst e=>exact .lst (ne e (by intro _ z;cases z))
 | frz e=>exact .frz (ne e (by intro _ z;cases z))
 | tup e=>exact .tup (ne e (by intro _ z;cases z))
 | dK e=>exact .dK (ne e (by intro _ z;cases z))
 | dT e=>exact .dT (ne e (by intro _ z;cases z))
 | ins e a b c d f=>exact .ins (ne e (by intro _ z;cases z)) a b c d f
theorem Zox {H H':Hp} {P:Addr} {q:Str} (t:TabF H P q) (s:Zde P H H'):Tk H H':=fun b xs e=>by
 obtain ⟨ps,ep,_⟩:=t;exact s _ _ (Zdd e ep (by intro z;cases z)) e
theorem Zia {K:PySem.W.Frag} {H H':Hp} {P:Addr} {q:Str} {v:V} {n:Nat} (t:TabF H P q) (s:Zde P H H') (h:BadPl K H v n):BadPl K H' v n:=by
 have k:=Zox t s;have nt:∀ {c:V},NoT K H c→NoT K H' c:=fun ⟨ty,a,b⟩=>⟨ty,Zob t s a,b⟩;cases h with
 | row h=>exact .row (h.elim (fun x=>.inl (nt x)) fun ⟨a,us,e,ha,x⟩=>.inr ⟨a,us,e,k _ _ ha,x⟩)
 | cs ha hc=>exact .cs (k _ _ ha) (nt hc)
 | psN ha hc c3 c30 nr nd hb=>exact .psN (k _ _ ha) (hc.tk k) c3 c30 nr nd (k _ _ hb)
 | psR ha hc c3 c30 nr nd hp p1 p40 pc rf=>exact .psR (k _ _ ha) (hc.tk k) c3 c30 nr nd (hp.tk k) p1 p40 pc rf
 | tsN ha hc c3 c30 nr nd hp p1 p40 pc rise hb hl=>exact .tsN (k _ _ ha) (hc.tk k) c3 c30 nr nd (hp.tk k) p1 p40 pc rise (k _ _ hb) hl
 | tsO ha hc c3 c30 nr nd hp p1 p40 pc rise ht tl tb to=>exact .tsO (k _ _ ha) (hc.tk k) c3 c30 nr nd (hp.tk k) p1 p40 pc rise (ht.tk k) tl tb to
 | st ha hc c3 c30 nr nd hp p1 p40 pc rise ht tl t9 hs hl hm no=>exact .st (k _ _ ha) (hc.tk k) c3 c30 nr nd (hp.tk k) p1 p40 pc rise (ht.tk k) tl t9 (hs.tk k) hl hm no
 | us ha hc c3 c30 nr nd hp p1 p40 pc rise ht tl t9 hs l9 m9 un=>exact .us (k _ _ ha) (hc.tk k) c3 c30 nr nd (hp.tk k) p1 p40 pc rise (ht.tk k) tl t9 (hs.tk k) l9 m9 un
theorem Zo9 {K:PySem.W.Frag} {H H':Hp} {v:V} {n:Nat} (s:Same H H') (h:BadPl K H v n):BadPl K H' v n:=by
 have k:=s.tk
 have ty:∀ {v ty},TyOf K H v ty→TyOf K H' v ty:=fun h=>by
  cases h with
  | non=>exact .non
  | bl x=>exact .bl x
  | int i=>exact .int i
  | str x=>exact .str x
  | flt x=>exact .flt x
  | lst e=>exact .lst (s _ _ e)
  | frz e=>exact .frz (s _ _ e)
  | tup e=>exact .tup (s _ _ e)
  | dK e=>exact .dK (s _ _ e)
  | dT e=>exact .dT (s _ _ e)
  | ins e a b c d f=>exact .ins (s _ _ e) a b c d f
 have nt:∀ {c:V},NoT K H c→NoT K H' c:=fun ⟨t,a,b⟩=>⟨t,ty a,b⟩;cases h with
 | row h=>exact .row (h.elim (fun x=>.inl (nt x)) fun ⟨a,us,e,ha,x⟩=>.inr ⟨a,us,e,k _ _ ha,x⟩)
 | cs ha hc=>exact .cs (k _ _ ha) (nt hc)
 | psN ha hc c3 c30 nr nd hb=>exact .psN (k _ _ ha) (hc.tk k) c3 c30 nr nd (k _ _ hb)
 | psR ha hc c3 c30 nr nd hp p1 p40 pc rf=>exact .psR (k _ _ ha) (hc.tk k) c3 c30 nr nd (hp.tk k) p1 p40 pc rf
 | tsN ha hc c3 c30 nr nd hp p1 p40 pc rise hb hl=>exact .tsN (k _ _ ha) (hc.tk k) c3 c30 nr nd (hp.tk k) p1 p40 pc rise (k _ _ hb) hl
 | tsO ha hc c3 c30 nr nd hp p1 p40 pc rise ht tl tb to=>exact .tsO (k _ _ ha) (hc.tk k) c3 c30 nr nd (hp.tk k) p1 p40 pc rise (ht.tk k) tl tb to
 | st ha hc c3 c30 nr nd hp p1 p40 pc rise ht tl t9 hs hl hm no=>exact .st (k _ _ ha) (hc.tk k) c3 c30 nr nd (hp.tk k) p1 p40 pc rise (ht.tk k) tl t9 (hs.tk k) hl hm no
 | us ha hc c3 c30 nr nd hp p1 p40 pc rise ht tl t9 hs l9 m9 un=>exact .us (k _ _ ha) (hc.tk k) c3 c30 nr nd (hp.tk k) p1 p40 pc rise (ht.tk k) tl t9 (hs.tk k) l9 m9 un
theorem Ziy {K:PySem.W.Frag} {cl:Str→Addr} {vs:List V}:Mono (fun H Q E=>Zaf K cl vs H Q E):=by
 rintro H Q Q' E E' hQ hE ⟨v,u,n,e,b,h⟩
 exact ⟨v,u,n,e,b,fun H' s=>hE _ _ _ (h H' s)⟩
section
variable {P:Program} {w:World} {K:PySem.W.Frag} {mg:Str→Option Value} {base:Heap} {a:Addr} {q:Str} {pm:Value} {p0 p1 p2 p3:Pos} {cl:Str→Addr} {c1 c2:Addr} (X_t:CalX P w K mg base "are_stresses" 7 ["plate","thing"] (Zaf K cl))
include X_t
theorem lamS (hne:c1≠c2):Zld P w K mg base 8 a (spB2 (fun v u H Q E=>Zaf K cl [v,u] H Q E) (.Call (.Name "are_stresses" p0) [.Name "_law_bad" p1,.Name "_law_some" p2] [] p3) "are_stresses" a c1 c2 q pm) :=
 Zt6 hne fun A outer s H Q E cd v u hr h=>⟨_,Zmu X_t Zt9.passes hr (by decide) rfl (Za (pv 0) (Za (pv 1) Zb rfl) rfl),⟨_,rfl,_,rfl,h⟩⟩
end
theorem Zlx {H H':Hp} {v:V} {qs:List Rat} (t:Tk H H') (h:IsQs H v qs):IsQs H' v qs:=IsTup'.tk (R:=IsQ) (fun _ _ _ _ t r=>r.tk t) t h
theorem Znv {N:Addr→Prop} {H:Hp} {k:Nat} {v:V} {d:PyData} (h:Dt N H k v d):∀ n:Nat,Dts N H k (List.replicate n v) (List.replicate n d)
 | 0=>.nil
 | n+1=>.cons h (Znv h n)
theorem Zhj (d:PyData):∀ n:Nat,PyData.depthAll (List.replicate n d)≤d.depth
 | 0=>n43_ _
 | n+1=>by have:=Zhj d n;simp only [n45_,PyData.depthAll];omega
theorem Zpd (d:PyData):∀ n:Nat,Z0 (List.replicate n d)=n*(nz d+1)
 | 0=>by simp [Z0]
 | n+1=>by have:=Zpd d n;simp only [n45_,Z0,Nat.add_mul,Nat.one_mul];omega
theorem Zd2 {N:Addr→Prop} {H:Hp} {k n m:Nat} {a:Addr} {xs:List V} {ds:List PyData} (h:H a=some (.tup xs)) (hs:Dts N H k xs ds) (hd:PyData.depthAll ds+1≤n) (hz:1+Z0 ds≤m):Tg N H k n m (.ref a):=⟨.tuple ds,.tup h hs,hd,hz⟩
section
variable (P:Program) (w:World) (K:PySem.W.Frag) (mg:Str→Option Value) (base:Heap)
abbrev a0_:=Cal P w K mg base "plain_divisor" 1 ["one","other"] Zjw
abbrev a1_:=Cal P w K mg base "divisor" 2 ["one","other"] Zfk
abbrev a2_:=Cal P w K mg base "is_whole" 1 ["thing"] Zbz
abbrev a3_:=Cal P w K mg base "is_whole" 1 ["thing"] Zds
abbrev a4_:=Cal P w K mg base "is_between" 2 ["thing","least","most"] Zfd
abbrev a5_:=Cal P w K mg base "is_row" 1 ["thing","fewest","most"] Zpj
abbrev a6_:=Cal P w K mg base "is_corner" 3 ["thing"] Zg9
abbrev a7_:=Cal P w K mg base "turn" 1 ["first","second","third"] Zm2
abbrev a8_:=Cal P w K mg base "are_rising" 1 ["things"] Ze9
abbrev a9_:=Cal P w K mg base "turn_of" 2 ["corners","piece"] Zho
abbrev a10_:=Cal P w K mg base "are_rising" 1 ["things"] Zfj
abbrev a11_:=Cal P w K mg base "is_piece" 3 ["corners","thing"] Zfe
abbrev a12_:=Cal P w K mg base "edges" 1 ["points"] Zko
abbrev a13_:=Cal P w K mg base "parts_from" 2 ["points","others"] Zc6
abbrev a14_:=Cal P w K mg base "lies_in" 2 ["point","points"] Zhk
abbrev a15_:=Cal P w K mg base "are_apart" 3 ["points","others"] Zke
abbrev a16_:=Cal P w K mg base "no_strange_corner" 3 ["corners","piece","points"] Zey
abbrev a17_:=Cal P w K mg base "triangle" 2 ["corners","piece"] Zpl
abbrev a18_:=Cal P w K mg base "are_corners" 4 ["thing"] Ze2
abbrev a19_:=Cal P w K mg base "are_pieces" 4 ["corners","thing"] Zii
abbrev a20_:=Cal P w K mg base "are_thicks" 3 ["pieces","thing"] Zh7
abbrev a21_:=Cal P w K mg base "every_corner_is_used" 2 ["corners","pieces"] Zmx
abbrev a22_:=Cal P w K mg base "fit_together" 4 ["corners","pieces"] Zpq
abbrev a23_:=Cal P w K mg base "is_stuff" 3 ["thing"] Zkn
abbrev a24_:=Cal P w K mg base "is_row" 1 ["thing","fewest","most"] (Znr K)
abbrev a25_:=Cal P w K mg base "are_rising" 1 ["things"] Zfl
abbrev a26_:=Cal P w K mg base "is_between" 2 ["thing","least","most"] Zp8
abbrev a27_:=Cal P w K mg base "are_corners" 4 ["thing"] (Zdu K)
abbrev a28_:=Cal P w K mg base "are_pieces" 4 ["corners","thing"] (Ze5 K)
abbrev a29_:=Cal P w K mg base "are_pieces" 4 ["corners","thing"] Ze3
abbrev a30_:=Cal P w K mg base "are_thicks" 3 ["pieces","thing"] Ze8
abbrev a31_:=Cal P w K mg base "are_thicks" 3 ["pieces","thing"] Zff
abbrev a32_:=Cal P w K mg base "is_stuff" 3 ["thing"] Zie
abbrev a33_:=Cal P w K mg base "every_corner_is_used" 2 ["corners","pieces"] Zj4
abbrev a34_:=Cal P w K mg base "is_plate" 5 ["thing"] Zcg
abbrev a35_:=Cal P w K mg base "is_plate" 5 ["thing"] (Zbl K)
abbrev a36_:=Cal P w K mg base "is_fraction" 3 ["thing"] Zpp
abbrev a37_:=Cal P w K mg base "are_fractions" 4 ["thing","many"] Zij
abbrev a38_:=Cal P w K mg base "are_stresses_of" 5 ["plate","thing"] Zah
abbrev a39_:=Cal P w K mg base "look_at_plate" 6 ["plate"] Zcu
abbrev a40_:=Cal P w K mg base "_law_cell_at" 1 ["_law_script","_law_k"] (Zmd K)
abbrev a41_:=Cal P w K mg base "_law_choice" 1 ["_law_state_here","_law_many"] Zd3
abbrev a42_:=Cal P w K mg base "_law_low" 1 ["_law_top","_law_bottom"] Zpm
abbrev a43_:=Cal P w K mg base "_law_order" 2 ["_law_state_here","_law_many"] Zjq
abbrev a44_:=Cal P w K mg base "_law_shapes" 1 [] Zh4
abbrev a45_:=Cal P w K mg base "_law_fraction" 2 ["_law_state_here"] (Zhe 60)
abbrev a46_:=Cal P w K mg base "_law_whole" 1 ["_law_thing"] Zbz
abbrev a47_:=Cal P w K mg base "_law_is_fraction" 2 ["_law_thing"] Zjn
abbrev a48_:=Cal P w K mg base "_law_is_row" 4 ["_law_many","_law_thing"] Zj1
abbrev a49_:=Cal P w K mg base "_law_odd" 2 ["_law_state_here"] Znw
abbrev a50_:=Cal P w K mg base "_law_are_stresses" 5 ["_law_plate_here","_law_thing"] Zah
abbrev a51_:=Cal P w K mg base "_law_bad_plates" 1 ["_law_plate_here","_law_odd_here"] (Zh1 K)
abbrev a52_:=Cal P w K mg base "_law_bent" 6 ["_law_state_here","_law_thing","_law_deep"] (Zfh 3)
abbrev a53_:=Cal P w K mg base "_law_plate" 3 ["_law_state_here","_law_most"] Zku
abbrev a54_:=Cal P w K mg base "_law_row" 3 ["_law_state_here","_law_many"] Zm8
abbrev a55_:=Cal P w K mg base "_law_same" 1 ["_law_found","_law_due"] Zjo
abbrev a56_:=Cal P w K mg base "_law_state" 2 ["_law_script","_law_k"] (Zjr K)
abbrev a57_:=Cal P w K mg base "are_stresses" 7 ["plate","thing"] Zah
end
section
variable {P:Program} {w:World} {K:PySem.W.Frag} {mg:Str→Option Value} {base:Heap} {f:Addr} {fd:FuncData} (T:Bt mg)
include T
abbrev Xx:Stmt:=top 31
theorem Zc8 (F:Fun K "plain_divisor" "plain_divisor" Xx f fd):FnOk P w K mg base CX0 1 f fd ["one","other"] Zjw:=by
 have sc:FnScope ["one","other"] ["one","other"] (Zg Xx):=fsc (by decide +kernel);refine F.ok sc (fun vs H Q E h=>by obtain ⟨a,b,rfl,_⟩:=h;rfl) fun cdv A outer s H vs Q E hr h=>?_;obtain ⟨a,b,rfl,q⟩:=h;have nd:=sc.nd;refine' ⟨_,?term,?read⟩
 case term=>refine' @Ze _ _ _ _ _ ?g1 (Zf (Zl (Zh Zdi rfl T.b_abs Zj5 (Za (pv 0) Zb rfl))));case g1=>refine' @Zdg _ _ _ _ _ _ PassesOwn.never ?g2 ?g3;(case g2=>refine' @Zk _ _ _ (pv 1) (fun _=>rfl));case g3=>refine' @Zf _ _ _ ?g4;case g4=>refine' @Zha _ _ (0) (1) _ _ _ _ _ _ _ _ _ _ _ rfl nd rfl rfl (by decide) rfl rfl (Za (pv 1) (Za (Zt Za2 (pv 0) (pv 1)) Zb rfl) rfl) rfl (by rfl)
 refine Zdf (fun σ H'=>∃ x y:Int,σ=[some (.int x),some (.int y)]∧H'=H∧Int.gcd x y=Int.gcd a b) (fun σ _=>match σ with|[_,some (.int y)]=>y.natAbs|_=>0) ⟨a,b,rfl,rfl,rfl⟩ ?_ ?_
 · rintro σ H' ⟨x,y,rfl,rfl,e⟩
   refine ⟨_,rfl,(y != 0),rfl,?_⟩
   by_cases hy:y=0
   · subst hy;refine iteF ?_;refine ⟨_,rfl,x,rfl,?_⟩
     have z:(if x<0 then -x else x)=(Int.gcd a b:Int):=by
      rw [← e,Int.gcd_zero_right];split<;>omega
     rw [z];exact q
   · rw [show (y != 0)=true by simpa using hy];refine iteT ?_;refine ⟨_,rfl,_,rfl,_,rfl,x,y,rfl,rfl,hy,_,_,rfl,⟨y,x.fmod y,rfl,rfl,by rw [FM.gcd_fmod hy];exact e⟩,FM.fmod_abs_lt hy⟩
 · rintro σ H' Q1 Q2 hq ⟨v,e,k,t,q'⟩
   exact ⟨v,e,k,t,hq _ _ q'⟩
abbrev Zd6:Stmt:=top 35
theorem Zlb (F:Fun K "divisor" "divisor" Zd6 f fd) (Cai_:a0_ P w K mg base):FnOk P w K mg base CX0 2 f fd ["one","other"] Zfk:=by
 have sc:FnScope ["one","other","half"] ["one","other"] (Zg Zd6):=fsc (by decide +kernel);refine F.ok sc (fun vs H Q E h=>by obtain ⟨a,b,rfl,_⟩:=h;rfl) fun cdv A outer s H vs Q E hr h=>?_;obtain ⟨a,b,rfl,hb,q⟩:=h;refine' ⟨_,?term,?read⟩
 case term=>refine' @Ze _ _ _ _ _ ?g1 (Zf (Zl (Zi Cai_ hr (by decide) rfl (Za (pv 0) (Za (pv 1) Zb rfl) rfl))));case g1=>refine' @Zdg _ _ _ _ _ _ PassesOwn.never ?g2 Zhh;case g2=>refine' @Z4 _ _ _ _ _ _ _ _ Zln ?g3 (Yw T.n_GREAT_BITS rfl) (Zx _);case g3=>refine' @Zh _ _ _ _ _ _ _ _ _ (Zgz rfl) rfl T.b_min Zpz ?g4 (by decide) (by decide) (by rfl) (by rfl);case g4=>refine' @Za _ _ _ _ _ ?g5 ?g6 rfl;(case g5=>refine' @Zp1 _ _ _ _ _ _ _ _ _ PySem.F.plainAttrs_int PySem.F.slot_int_bit_length PySem.F.type_int_bit_length Znb (pv 0) (by rfl) (by rfl));case g6=>refine' @Za _ _ _ _ _ ?g7 Zb rfl;case g7=>refine' @Zp1 _ _ _ _ _ _ _ _ _ PySem.F.plainAttrs_int PySem.F.slot_int_bit_length PySem.F.type_int_bit_length Znb (pv 1) (by rfl) (by rfl)
 refine Zdf (fun σ H'=>σ=[some (.int a),some (.int b),none]∧H'=H) (fun σ _=>0) ⟨rfl,rfl⟩ ?_ ?_
 · rintro σ H' ⟨rfl,rfl⟩
   refine ⟨_,rfl,rfl,_,rfl,rfl,_,rfl,rfl,_,rfl,rfl,_,_,rfl,_,_,rfl,rfl,_,rfl,?_⟩;rw [Zqf hb];refine iteF ?_;exact ⟨_,rfl,_,rfl,a,b,rfl,q⟩
 · rintro σ H' Q1 Q2 hq ⟨v1,e1,t1,i1,a1,n1,v2,e2,t2,i2,a2,n2,i,j,e3,i4,j4,e4,e5,b,e6,q'⟩
   exact ⟨v1,e1,t1,i1,a1,n1,v2,e2,t2,i2,a2,n2,i,j,e3,i4,j4,e4,e5,b,e6,hq _ _ q'⟩
abbrev Zck:Stmt:=top 37
theorem Zi5 (F:Fun K "is_whole" "is_whole" Zck f fd):FnOk P w K mg base CX0 1 f fd ["thing"] Zds:=by
 have sc:FnScope ["thing"] ["thing"] (Zg Zck):=fsc (by decide +kernel);refine F.ok sc (fun vs H Q E h=>by obtain ⟨a,rfl,_⟩:=h;rfl) fun cdv A outer s H vs Q E hr h=>?_;obtain ⟨a,rfl,q⟩:=h;refine' ⟨_,?term,?read⟩
 case term=>refine' @Zf _ _ _ ?g1;case g1=>refine' @Zl _ _ _ _ ?g2;case g2=>refine' @Y3 _ _ _ _ _ _ _ (Zh Yn rfl T.b_isinstance Zj (Za (pv 0) (Za (Y1 (v:=.ty "int") rfl T.b_int Zkh rfl) Zb rfl) rfl)) ?g3;case g3=>refine' @Yy _ _ _ _ _ ?g4;case g4=>refine' @Zjk _ _ _ _ (Zh Yn rfl T.b_isinstance Zj (Za (pv 0) (Za (Y1 (v:=.ty "bool") rfl T.b_bool Zi8 rfl) Zb rfl) rfl))
 refine ⟨_,rfl,_,_,_,_,rfl,TyOf.int a,rfl,true,rfl,iteT ?_⟩;refine ⟨_,rfl,_,_,_,_,rfl,TyOf.int a,rfl,false,rfl,q⟩
abbrev Zdp:Stmt:=top 37
theorem Zib (F:Fun K "is_whole" "is_whole" Zdp f fd):FnOk P w K mg base CX0 1 f fd ["thing"] Zbz:=by
 have sc:FnScope ["thing"] ["thing"] (Zg Zdp):=fsc (by decide +kernel);refine F.ok sc (fun vs H Q E h=>by obtain ⟨N,k,v,d,rfl,_⟩:=h;rfl) fun cdv A outer s H vs Q E hr h=>?_;obtain ⟨N,k,v,d,rfl,h,q⟩:=h;refine' ⟨_,?term,?read⟩
 case term=>refine' @Zf _ _ _ ?g1;case g1=>refine' @Zl _ _ _ _ ?g2;case g2=>refine' @Y3 _ _ _ _ _ _ _ (Zh Yn rfl T.b_isinstance Zj (Za (pv 0) (Za (Y1 (v:=.ty "int") rfl T.b_int Zkh rfl) Zb rfl) rfl)) ?g3;case g3=>refine' @Yy _ _ _ _ _ ?g4;case g4=>refine' @Zjk _ _ _ _ (Zh Yn rfl T.b_isinstance Zj (Za (pv 0) (Za (Y1 (v:=.ty "bool") rfl T.b_bool Zi8 rfl) Zb rfl) rfl))
 cases h with
 | non=>exact ⟨_,rfl,_,_,_,_,rfl,TyOf.non,rfl,false,rfl,iteF q⟩
 | bl b=>exact ⟨_,rfl,_,_,_,_,rfl,TyOf.bl b,rfl,true,rfl,iteT ⟨_,rfl,_,_,_,_,rfl,TyOf.bl b,rfl,true,rfl,q⟩⟩
 | int hi=>exact ⟨_,rfl,_,_,_,_,rfl,TyOf.int _,rfl,true,rfl,iteT ⟨_,rfl,_,_,_,_,rfl,TyOf.int _,rfl,false,rfl,q⟩⟩
 | str x=>exact ⟨_,rfl,_,_,_,_,rfl,TyOf.str x,rfl,false,rfl,iteF q⟩
 | tup h r=>exact ⟨_,rfl,_,_,_,_,rfl,TyOf.tup h,rfl,false,rfl,iteF q⟩
 | lst h n m r=>exact ⟨_,rfl,_,_,_,_,rfl,TyOf.lst h,rfl,false,rfl,iteF q⟩
 | dic h=>exact ⟨_,rfl,_,_,_,_,rfl,TyOf.dK h,rfl,false,rfl,iteF q⟩
abbrev Zaq:Stmt:=top 38
theorem Zeo (F:Fun K "is_fraction" "is_fraction" Zaq f fd) (Ca5_:a1_ P w K mg base) (Co_:a2_ P w K mg base):FnOk P w K mg base CX0 3 f fd ["thing"] Zpp:=by
 have sc:FnScope ["thing","top","bottom"] ["thing"] (Zg Zaq):=fsc (by decide +kernel);refine F.ok sc (fun vs H Q E h=>by obtain ⟨N,k,v,d,rfl,_⟩:=h;rfl) fun cdv A outer s H vs Q E hr h=>?_;obtain ⟨N,k,v,d,rfl,h,hk,q⟩:=h;have nd:=sc.nd;refine' ⟨_,?term,?read⟩
 case term=>refine' @Ze _ _ _ _ _ ?g1 ?g2;(case g1=>refine' @Zy _ _ _ _ _ _ _ _ ?g3 (Zf (Zl Z2)) Zp;case g3=>refine' @PW.pt _ _ _ ?g4;case g4=>refine' @Ys _ _ _ _ _ _ _ ?g5 ?g6;(case g5=>refine' @Zq _ _ _ _ ?g7;case g7=>refine' @Zk _ _ _ (Zh Yn rfl T.b_isinstance Zj (Za (pv 0) (Za (Y1 (v:=.ty "tuple") rfl T.b_tuple Yl rfl) Zb rfl) rfl)) (fun _=>rfl));case g6=>refine' @Z6 _ _ _ _ (Z4 Zgj (Zh Zn rfl T.b_len Z8 (Za (pv 0) Zb rfl)) Zd (Zx _)));case g2=>refine' @Ze _ _ _ _ _ ?g8 ?g9;(case g8=>refine' @Y8 _ _ _ _ _ _ (pv 0) ?ga (by rfl) (by rfl) (by rfl);case ga=>refine' @Yu _ _ _ _ _ (2) rfl (Zm (Zo (i:=1) nd rfl (Or.inl rfl)) (Zm (Zo (i:=2) nd rfl (Or.inl rfl)) Yb)) (by rfl) (by rfl));case g9=>refine' @Ze _ _ _ _ _ ?gb (Zf (Zl (Yx Zco (Zi Ca5_ hr (by decide) rfl (Za (pv 1) (Za (pv 2) Zb rfl) rfl)) Zd (Zx _))));case gb=>refine' @Zy _ _ _ _ _ _ _ _ ?gc (Zf (Zl Z2)) Zp;case gc=>refine' @PW.pt _ _ _ ?gd;case gd=>refine' @Ys _ _ _ _ _ _ _ ?ge ?gf;(case ge=>refine' @Zq _ _ _ _ ?gg;case gg=>refine' @Zk _ _ _ (Zi Co_ hr (by decide) rfl (Za (pv 1) Zb rfl)) (fun _=>rfl));case gf=>refine' @Ys _ _ _ _ _ _ _ ?gh ?gi;(case gh=>refine' @Zq _ _ _ _ ?gj;case gj=>refine' @Zk _ _ _ (Zi Co_ hr (by decide) rfl (Za (pv 2) Zb rfl)) (fun _=>rfl));case gi=>refine' @Z6 _ _ _ _ (Z4 Zlv (pv 2) Zd (Zx _))
 rcases h.isT with ⟨p,xs,ds,rfl,rfl,hp,hs⟩|e
 case inr =>
  obtain ⟨t,ty,ki⟩:=h.ty (K:=K);refine ⟨_,rfl,_,_,t,_,rfl,ty,ki,_,rfl,?_⟩;rw [e];have z:isFr d=false:=by cases d<;>first|rfl|(cases e)
  rw [z] at q;exact iteT (iteT (q))
 refine ⟨_,rfl,_,_,_,_,rfl,TyOf.tup hp,rfl,true,rfl,iteF ?_⟩
 by_cases h2:xs.length=2
 case neg =>
  rw [hs.len0 h2] at q;refine ⟨_,rfl,p,_,rfl,.inr (SqT.of hp),rfl,_,rfl,?_⟩;rw [show decide (V.int (xs.length:Int)=V.int 2)=false from n8_ (fun z=>h2 (by have:=V.int.inj z;omega))];exact iteT q
 obtain ⟨x,y,d1,d2,rfl,rfl,k1,k2⟩:∃ x y d1 d2,xs=[x,y]∧ds=[d1,d2]∧Dt N H k x d1∧Dt N H k y d2:=by
  match xs,ds,hs,h2 with
  | [x,y],[d1,d2],.cons a (.cons b .nil),_=>exact ⟨x,y,d1,d2,rfl,rfl,a,b⟩
 refine ⟨_,rfl,p,_,rfl,.inr (SqT.of hp),rfl,false,rfl,iteF ?_⟩;refine ⟨_,rfl,p,_,rfl,SqT.of hp,rfl,_,_,rfl,_,_,rfl,rfl,?_⟩;refine ⟨_,rfl,N,k,x,d1,rfl,k1,_,rfl,?_⟩
 rcases k1.isI with ⟨i,rfl,rfl,hi⟩|e1
 case inr =>
  rw [e1];rw [fr_1 e1] at q;exact iteT (iteT q)
 refine iteF ?_;refine ⟨_,rfl,N,k,y,d2,rfl,k2,_,rfl,?_⟩
 rcases k2.isI with ⟨j,rfl,rfl,hj⟩|e2
 case inr =>
  rw [e2];rw [fr_2 e2] at q;exact iteT (iteT q)
 refine iteF ?_;refine ⟨_,rfl,_,_,rfl,rfl,_,rfl,?_⟩;have q':Q (.bl (decide (1≤j)&&decide (Int.gcd i j=1))) H:=q;refine ite2 (fun hlt=>?_) (fun hlt=>?_)
 · have z:¬ 1≤j:=by have:=n31_ hlt;omega
   rw [n8_ z] at q';exact q'
 · have z:1≤j:=by have:¬ j<1:=fun z=>hlt (n19_ z);omega
   rw [n19_ z,Bool.true_and] at q';refine ⟨_,rfl,_,rfl,_,_,rfl,Zl2 hj hk,rfl,?_⟩;rw [show decide (V.int (Int.gcd i j:Int)=V.int 1)=decide (Int.gcd i j=1) from decide_eq_decide.mpr ⟨fun z=>by have:=V.int.inj z;omega,fun z=>by rw [z];rfl⟩];exact q'
abbrev Za3:Stmt:=top 47
theorem Zgp (F:Fun K "is_between" "is_between" Za3 f fd) (Ca1_:a3_ P w K mg base):FnOk P w K mg base CX0 2 f fd ["thing","least","most"] Zfd:=by
 have sc:FnScope ["thing","least","most"] ["thing","least","most"] (Zg Za3):=fsc (by decide +kernel);refine F.ok sc (fun vs H Q E h=>by obtain ⟨i,lo,hi,rfl,_⟩:=h;rfl) fun cdv A outer s H vs Q E hr h=>?_;obtain ⟨i,lo,hi,rfl,h1,h2,q⟩:=h;refine' ⟨_,?term,?read⟩
 case term=>refine' @Zf _ _ _ ?g1;case g1=>refine' @Zl _ _ _ _ ?g2;case g2=>refine' @Y3 _ _ _ _ _ _ _ (Zi Ca1_ hr (by decide) rfl (Za (pv 0) Zb rfl)) ?g3;case g3=>refine' @Yy _ _ _ _ _ ?g4;case g4=>refine' @Zdj _ _ _ _ _ _ _ _ _ _ _ _ Zf5 Zf5 (pv 1) (pv 0) (pv 2) (by with_unfolding_all rfl)
 refine ⟨_,rfl,i,rfl,true,rfl,iteT ?_⟩;refine ⟨_,rfl,_,rfl,_,_,rfl,rfl,true,blT h1,iteT ?_⟩;exact ⟨_,rfl,_,_,rfl,rfl,qT h2 q⟩
abbrev Zf3:Stmt:=top 48
theorem Znh (F:Fun K "is_row" "is_row" Zf3 f fd):FnOk P w K mg base CX0 1 f fd ["thing","fewest","most"] Zpj:=by
 have sc:FnScope ["thing","fewest","most"] ["thing","fewest","most"] (Zg Zf3):=fsc (by decide +kernel);refine F.ok sc (fun vs H Q E h=>by obtain ⟨a,us,lo,hi,rfl,_⟩:=h;rfl) fun cdv A outer s H vs Q E hr h=>?_;obtain ⟨a,us,lo,hi,rfl,ha,h1,h2,q⟩:=h;refine' ⟨_,?term,?read⟩
 case term=>refine' @Zf _ _ _ ?g1;case g1=>refine' @Zl _ _ _ _ ?g2;case g2=>refine' @Y3 _ _ _ _ _ _ _ (Zh Yn rfl T.b_isinstance Zj (Za (pv 0) (Za (Y1 (v:=.ty "tuple") rfl T.b_tuple Yl rfl) Zb rfl) rfl)) ?g3;case g3=>refine' @Yy _ _ _ _ _ ?g4;case g4=>refine' @Zdj _ _ _ _ _ _ _ _ _ _ _ _ Zf5 Zf5 (pv 1) (Zh Zn rfl T.b_len Z8 (Za (pv 0) Zb rfl)) (pv 2) (by with_unfolding_all rfl)
 refine ⟨_,rfl,_,_,_,_,rfl,TyOf.tup ha,rfl,true,rfl,iteT ?_⟩;refine ⟨_,rfl,_,rfl,a,_,rfl,.inr (SqT.of ha),_,_,rfl,rfl,true,blT h1,iteT ?_⟩;exact ⟨_,rfl,_,_,rfl,rfl,qT h2 q⟩
abbrev Zai:Stmt:=top 49
theorem Zej (F:Fun K "are_rising" "are_rising" Zai f fd):FnOk P w K mg base CX0 1 f fd ["things"] Ze9:=by
 have sc:FnScope ["things"] ["things"] (Zg Zai):=fsc (by decide +kernel);refine F.ok sc (fun vs H Q E h=>by obtain ⟨a,ns,rfl,_⟩:=h;rfl) fun cdv A outer s H vs Q E hr h=>?_;obtain ⟨a,ns,rfl,ha,hz,hr',q⟩:=h;refine' ⟨_,?term,?read⟩
 case term=>refine' @Zf _ _ _ ?g1;case g1=>refine' @Zl _ _ _ _ ?g2;case g2=>refine' @Zh _ _ _ _ _ _ _ _ _ (Z1 rfl) rfl T.b_all Xa ?g3 (by decide) (by decide) (by rfl) (by rfl);case g3=>refine' @Za _ _ _ _ _ ?g4 Zb rfl;case g4=>refine' @Xg _ _ _ _ _ _ _ (["one","other"]) ([none,none]) _ _ ((gTup K 2 (Za5 (Xn 0) (Za5 (Xn 1) gNil)))) _ _ rfl (Z7 (by decide) rfl (by decide) rfl rfl) ?g5 (fun _ _ _ _=>Yu (n:=2) rfl (Zm (pgB 0) (Zm (pgB 1) Yb))) (fun _ _ _ _=>Zw) (fun _ _ _ _=>Yx Zlv (pv 0) (pv 1) (Zx _)) (by intro _ ;rfl);case g5=>refine' @Zmy _ _ _ _ .t .t _ _ _ _ _ rfl T.b_zip ?g6 (by rfl) (by rfl);case g6=>refine' @Za _ _ _ _ _ (pv 0) ?g7 rfl;case g7=>refine' @Za _ _ _ _ _ ?g8 Zb rfl;case g8=>refine' @Xd _ _ _ _ _ _ _ _ _ _ Zab (pv 0) (Xs Zd) Xv
 refine ⟨_,rfl,_,rfl,_,rfl,a,_,rfl,ha,fun p H1 s1 h1=>?_⟩;rw [cut1] at h1;refine ⟨a,p,rfl,⟨_,SqT.of (s1 _ _ ha)⟩,⟨_,SqT.of h1⟩,fun D nD=>?_⟩;refine lc_Z (k:=.t) (l:=.t) (vs:=ns.map V.int) (ws:=(ns.map V.int).drop 1) (fun _ v b=>v=V.bl b) (fun _ _ _ _ _ e=>e) (List.replicate (ns.length-1) true) (by simp) (by simp;omega) nD (s1 _ _ ha) h1 (fun i v w H2 C hv hw s2 c=>?_) (fun H2 us s2 e2 a2=>?_)
 · rw [List.getElem?_drop,n11_,Nat.add_comm] at hw;rw [n11_] at hv;obtain ⟨x,ex,rfl⟩:=n38_.mp hv;obtain ⟨y,ey,rfl⟩:=n38_.mp hw;refine ⟨_,rfl,_,rfl,_,_,rfl,rfl,qT (hr' i x y ex ey) (c _ _ true (Same.refl _) ?_ rfl)⟩
   have:i+1<ns.length:=(n21_.mp ey).1
   rw [List.getElem?_replicate,if_pos (by omega)]
 · rw [a2.bls] at e2;refine ⟨D,List.replicate (ns.length-1) true,rfl,SqL.of e2,?_⟩;rw [List.all_replicate];split<;>exact q _ (s1.trans s2)
abbrev Zb4:Stmt:=top 49
theorem Zev (F:Fun K "are_rising" "are_rising" Zb4 f fd):FnOk P w K mg base CX0 1 f fd ["things"] Zfj:=by
 have sc:FnScope ["things"] ["things"] (Zg Zb4):=fsc (by decide +kernel);refine F.ok sc (fun vs H Q E h=>by obtain ⟨a,us,ks,rfl,_⟩:=h;rfl) fun cdv A outer s H vs Q E hr h=>?_;obtain ⟨a,us,ks,rfl,ha,al,hz,hr',q⟩:=h;have hu:=Zi6 hr;have hu1:=Nat.lt_of_succ_lt hu;refine' ⟨_,?term,?read⟩
 case term=>refine' @Zf _ _ _ ?g1;case g1=>refine' @Zl _ _ _ _ ?g2;case g2=>refine' @Zh _ _ _ _ _ _ _ _ _ (Z1 rfl) rfl T.b_all Xa ?g3 (by decide) (by decide) (by rfl) (by rfl);case g3=>refine' @Za _ _ _ _ _ ?g4 Zb rfl;case g4=>refine' @Xg _ _ _ _ _ _ _ (["one","other"]) ([none,none]) _ _ ((gTup K 2 (Za5 (Xn 0) (Za5 (Xn 1) gNil)))) _ _ rfl (Z7 (by decide) rfl (by decide) rfl rfl) ?g5 (fun _ _ _ _=>Yu (n:=2) rfl (Zm (pgB 0) (Zm (pgB 1) Yb))) (fun _ _ _ _=>Zw) (fun _ _ _ _=>Yx (show OpR _ (compareOp .Lt) (rLtT K) from Zp6 hu1) (pv 0) (pv 1) (Zx _)) (by intro _ ;rfl);case g5=>refine' @Zmy _ _ _ _ .t .t _ _ _ _ _ rfl T.b_zip ?g6 (by rfl) (by rfl);case g6=>refine' @Za _ _ _ _ _ (pv 0) ?g7 rfl;case g7=>refine' @Za _ _ _ _ _ ?g8 Zb rfl;case g8=>refine' @Xd _ _ _ _ _ _ _ _ _ _ Zab (pv 0) (Xs Zd) Xv
 refine ⟨_,rfl,_,rfl,_,rfl,a,_,rfl,ha,fun p H1 s1 h1=>?_⟩;rw [cut1] at h1;refine ⟨a,p,rfl,⟨_,SqT.of (s1 _ _ ha)⟩,⟨_,SqT.of h1⟩,fun D nD=>?_⟩;refine lc_Z (k:=.t) (l:=.t) (vs:=us) (ws:=us.drop 1) RB hRB (List.replicate (us.length-1) true) (by simp) (by simp;omega) nD (s1 _ _ ha) h1 (fun i v w H2 C hv hw s2 c=>?_) (fun H2 us' s2 e2 a2=>?_)
 · rw [List.getElem?_drop,Nat.add_comm] at hw;obtain ⟨x,ex,a,rfl,qa⟩:=al.get hv;obtain ⟨y,ey,b,rfl,qb⟩:=al.get hw;refine ⟨_,rfl,_,rfl,a,b,x,y,rfl,rfl,SqT.of ((s1.trans s2) _ _ qa),SqT.of ((s1.trans s2) _ _ qb),?_⟩;rw [hr' i x y ex ey];refine c _ _ true (Same.refl _) (repT ?_) rfl
   have:=Yv hw
   omega
 · rw [a2.bls] at e2;refine ⟨D,List.replicate (us.length-1) true,rfl,SqL.of e2,?_⟩;rw [allT];exact q _ (s1.trans s2)
abbrev Zbt:Stmt:=top 50
theorem Zht (F:Fun K "is_corner" "is_corner" Zbt f fd) (Ci_:a4_ P w K mg base) (Cc_:a5_ P w K mg base):FnOk P w K mg base CX0 3 f fd ["thing"] Zg9:=by
 have sc:FnScope ["thing"] ["thing"] (Zg Zbt):=fsc (by decide +kernel);refine F.ok sc (fun vs H Q E h=>by obtain ⟨v,p,rfl,_⟩:=h;rfl) fun cdv A outer s H vs Q E hr h=>?_;obtain ⟨v,p,rfl,⟨a,rfl,ha⟩,⟨⟨n1,n2⟩,n3,n4⟩,q⟩:=h;refine' ⟨_,?term,?read⟩
 case term=>refine' @Zf _ _ _ ?g1;case g1=>refine' @Zl _ _ _ _ ?g2;case g2=>refine' @Y3 _ _ _ _ _ _ _ (Zi Cc_ hr (by decide) rfl (Za (pv 0) (Za Zd (Za Zd Zb rfl) rfl) rfl)) ?g3;case g3=>refine' @Yy _ _ _ _ _ ?g4;case g4=>refine' @Zh _ _ _ _ _ _ _ _ _ (Z1 rfl) rfl T.b_all Xa ?g5 (by decide) (by decide) (by rfl) (by rfl);case g5=>refine' @Za _ _ _ _ _ ?g6 Zb rfl;case g6=>refine' @Xg _ _ _ _ _ _ _ (["part"]) ([none]) _ _ _ _ _ rfl (Z7 (by decide) rfl (by decide) rfl rfl) (Yq (pv 0)) (fun _ _ _ _=>pgB 0) (fun _ _ _ _=>Zw) (fun _ _ _ _=>Zi Ci_ hr (by decide) rfl (Za (pv 0) (Za (Zk8 Ze4 (Yw T.n_FARTHEST rfl)) (Za (Yw T.n_FARTHEST rfl) Zb rfl) rfl) rfl)) (by intro _ ;rfl)
 refine ⟨_,rfl,a,_,2,2,rfl,ha,by simp,by simp,true,rfl,iteT ?_⟩;refine ⟨_,rfl,a,rfl,⟨_,SqT.of ha⟩,fun D nD=>?_⟩;refine lc_T (k:=.t) (vs:=[V.int p.1,V.int p.2]) RB hRB [true,true] rfl (by simp) nD ha (fun i w H2 C hw s2 c=>?_) (fun H2 us' s2 e2 a2=>?_)
 · have hi:i=0∨i=1:=by have:i<2:=Yv hw;omega
   rcases hi with rfl|rfl
   · cases (show V.int p.1=w by simpa using hw)
     exact ⟨_,rfl,_,rfl,p.1,-100,100,rfl,n1,n2,c _ _ true (Same.refl _) rfl rfl⟩
   · cases (show V.int p.2=w by simpa using hw)
     exact ⟨_,rfl,_,rfl,p.2,-100,100,rfl,n3,n4,c _ _ true (Same.refl _) rfl rfl⟩
 · rw [a2.bls] at e2;exact ⟨D,[true,true],rfl,SqL.of e2,q _ s2⟩
abbrev Zan:Stmt:=top 51
theorem Zen (F:Fun K "are_corners" "are_corners" Zan f fd) (Cx_:a6_ P w K mg base) (Cc_:a5_ P w K mg base):FnOk P w K mg base CX0 4 f fd ["thing"] Ze2:=by
 have sc:FnScope ["thing"] ["thing"] (Zg Zan):=fsc (by decide +kernel);refine F.ok sc (fun vs H Q E h=>by obtain ⟨v,cs,rfl,_⟩:=h;rfl) fun cdv A outer s H vs Q E hr h=>?_;obtain ⟨v,cs,rfl,⟨a,us,rfl,ha,al⟩,h3,h30,nr,nd',q⟩:=h;refine' ⟨_,?term,?read⟩
 case term=>refine' @Ze _ _ _ _ _ ?g1 (Zf (Zl (Yx Zco (Zh Zih rfl T.b_len Z8 (Za (Ye (Zg3 rfl hr) rfl T.b_set Zpy (Za (pv 0) Zb rfl)) Zb rfl)) (Zh Zn rfl T.b_len Z8 (Za (pv 0) Zb rfl)) (Zx _))));case g1=>refine' @Zy _ _ _ _ _ _ _ _ ?g2 (Zf (Zl Z2)) Zp;case g2=>refine' @PW.pt _ _ _ ?g3;case g3=>refine' @Ys _ _ _ _ _ _ _ ?g4 ?g5;(case g4=>refine' @Zq _ _ _ _ ?g6;case g6=>refine' @Zk _ _ _ (Zi Cc_ hr (by decide) rfl (Za (pv 0) (Za (Yw T.n_FEWEST_CORNERS rfl) (Za (Yw T.n_MOST_CORNERS rfl) Zb rfl) rfl) rfl)) (fun _=>rfl));case g5=>refine' @Z6 _ _ _ _ ?g7;case g7=>refine' @Zq _ _ _ _ ?g8;case g8=>refine' @Zk _ _ _ ?g9 (fun _=>rfl);case g9=>refine' @Zh _ _ _ _ _ _ _ _ _ (Z1 rfl) rfl T.b_all Xa ?ga (by decide) (by decide) (by rfl) (by rfl);case ga=>refine' @Za _ _ _ _ _ ?gb Zb rfl;case gb=>refine' @Xg _ _ _ _ _ _ _ (["part"]) ([none]) _ _ _ _ _ rfl (Z7 (by decide) rfl (by decide) rfl rfl) (Yq (pv 0)) (fun _ _ _ _=>pgB 0) (fun _ _ _ _=>Zw) (fun _ _ _ _=>Zi Cx_ hr (by decide) rfl (Za (pv 0) Zb rfl)) (by intro _ ;rfl)
 have hl:=al.1;refine ⟨_,rfl,a,_,3,30,rfl,ha,by omega,by omega,true,rfl,iteF ?_⟩;refine ⟨_,rfl,a,rfl,⟨_,SqT.of ha⟩,fun D nD=>?_⟩;refine lc_T (k:=.t) (vs:=us) RB hRB (List.replicate us.length true) (by simp) (by omega) nD ha (fun i w H2 C hw s2 c=>?_) (fun H2 us' s2 e2 a2=>?_)
 · obtain ⟨p,ep,rp⟩:=al.get hw;exact ⟨_,rfl,w,p,rfl,rp.tk s2.tk,nr p (n12_ ep),fun H5 s5=>c _ _ true s5 (repT (Yv hw)) rfl⟩
 · rw [a2.bls] at e2;refine ⟨D,List.replicate us.length true,rfl,SqL.of e2,true,by rw [allT];rfl,iteF ?_⟩;refine ⟨_,rfl,a,us,cs.map (fun p=>[p.1,p.2]),rfl,SqT.of (s2 _ _ ha),by simp [hl],fun i v hv=>?_,?_,by simp;omega,fun S nS=>?_⟩
   · obtain ⟨p,ep,b,rfl,hb⟩:=al.get hv;exact ⟨b,[p.1,p.2],rfl,by rw [n11_,ep];rfl,SqT.of (s2 _ _ hb)⟩
   · rw [List.nodup_iff_pairwise_ne,List.pairwise_map];refine (List.nodup_iff_pairwise_ne.mp nd').imp fun {x y} ne e=>ne ?_;simp at e;exact Prod.ext e.1 e.2
   · have s3:Same H2 (upd H2 S (.ext (Zfa S (cs.map fun p=>[p.1,p.2]).length))):=Same.new nS;refine ⟨S,_,rfl,Zc,by rw [n23_,sizeLine_eq];omega,_,rfl,a,us,rfl,.inr (SqT.of (s3 _ _ (s2 _ _ ha))),rfl,?_⟩;have e:V.int ((cs.map fun p=>[p.1,p.2]).length:Nat)=V.int us.length:=by rw [n23_,hl]
     exact qT e (q _ (s2.trans s3))
abbrev Zn2:Stmt:=top 52
theorem Zqz (F:Fun K "turn" "turn" Zn2 f fd):FnOk P w K mg base CX0 1 f fd ["first","second","third"] Zm2:=by
 have sc:FnScope ["first","second","third","ahead"] ["first","second","third"] (Zg Zn2):=fsc (by decide +kernel);refine F.ok sc (fun vs H Q E h=>by obtain ⟨u,v,w,a,b,c,rfl,_⟩:=h;rfl) fun cdv A outer s H vs Q E hr h=>?_;obtain ⟨u,v,w,a,b,c,rfl,⟨pa,rfl,ha⟩,⟨pb,rfl,hb⟩,⟨pc,rfl,hc⟩,na,nb,nc,q⟩:=h;have nd:=sc.nd;refine' ⟨_,?term,?read⟩
 case term=>refine' @Ze _ _ _ _ _ ?g1 ?g2;(case g1=>refine' @Zz _ _ (3) _ _ _ _ nd rfl (Or.inl rfl) ?g3 (by rfl) (by first|exact Or.inl rfl|exact Or.inr rfl|assumption);case g3=>refine' @Zt _ _ _ _ _ _ _ _ Xf ?g4 ?g5;(case g4=>refine' @Zt _ _ _ _ _ _ _ _ Xw ?g6 ?g7;(case g6=>refine' @Z3 _ _ _ _ _ _ _ Yc (pv 1) Zd (fun _ _=>rfl));case g7=>refine' @Z3 _ _ _ _ _ _ _ Yc (pv 0) Zd (fun _ _=>rfl));case g5=>refine' @Zt _ _ _ _ _ _ _ _ Xw ?g8 ?g9;(case g8=>refine' @Z3 _ _ _ _ _ _ _ Yc (pv 2) Zd (fun _ _=>rfl));case g9=>refine' @Z3 _ _ _ _ _ _ _ Yc (pv 0) Zd (fun _ _=>rfl));case g2=>refine' @Zf _ _ _ ?ga;case ga=>refine' @Zl _ _ _ _ ?gb;case gb=>refine' @Zt _ _ _ _ _ _ _ _ Xw (pv 3) ?gc;case gc=>refine' @Zt _ _ _ _ _ _ _ _ Xf ?gd ?ge;(case gd=>refine' @Zt _ _ _ _ _ _ _ _ Xw ?gf ?gg;(case gf=>refine' @Z3 _ _ _ _ _ _ _ Yc (pv 2) Zd (fun _ _=>rfl));case gg=>refine' @Z3 _ _ _ _ _ _ _ Yc (pv 0) Zd (fun _ _=>rfl));case ge=>refine' @Zt _ _ _ _ _ _ _ _ Xw ?gh ?gi;(case gh=>refine' @Z3 _ _ _ _ _ _ _ Yc (pv 1) Zd (fun _ _=>rfl));case gi=>refine' @Z3 _ _ _ _ _ _ _ Yc (pv 0) Zd (fun _ _=>rfl)
 obtain ⟨⟨a1,a2⟩,a3,a4⟩:=na;obtain ⟨⟨b1,b2⟩,b3,b4⟩:=nb;obtain ⟨⟨c1,c2⟩,c3,c4⟩:=nc;refine ⟨_,rfl,pb,_,0,_,rfl,rfl,SqT.of hb,rfl,_,rfl,pa,_,0,_,rfl,rfl,SqT.of ha,rfl,_,_,rfl,rfl,_,rfl,pc,_,1,_,rfl,rfl,SqT.of hc,rfl,_,rfl,pa,_,1,_,rfl,rfl,SqT.of ha,rfl,_,_,rfl,rfl,_,_,rfl,rfl,mul3 (by omega) (by omega),?_⟩;refine ⟨_,rfl,_,rfl,pc,_,0,_,rfl,rfl,SqT.of hc,rfl,_,rfl,pa,_,0,_,rfl,rfl,SqT.of ha,rfl,_,_,rfl,rfl,_,rfl,pb,_,1,_,rfl,rfl,SqT.of hb,rfl,_,rfl,pa,_,1,_,rfl,rfl,SqT.of ha,rfl,_,_,rfl,rfl,_,_,rfl,rfl,mul3 (by omega) (by omega),_,_,rfl,rfl,?_⟩;exact q
abbrev Zdt:Stmt:=top 53
theorem Zlg (F:Fun K "turn_of" "turn_of" Zdt f fd) (Cv_:a7_ P w K mg base):FnOk P w K mg base CX0 2 f fd ["corners","piece"] Zho:=by
 have sc:FnScope ["corners","piece"] ["corners","piece"] (Zg Zdt):=fsc (by decide +kernel);refine F.ok sc (fun vs H Q E h=>by obtain ⟨u,v,cs,p,rfl,_⟩:=h;rfl) fun cdv A outer s H vs Q E hr h=>?_;obtain ⟨u,v,cs,p,rfl,⟨a,us,rfl,ha,al⟩,⟨b,rfl,hb⟩,hl,bd,nr,q⟩:=h;refine' ⟨_,?term,?read⟩
 case term=>refine' @Zf _ _ _ ?g1;case g1=>refine' @Zl _ _ _ _ ?g2;case g2=>refine' @Zi _ _ _ _ _ _ _ _ _ _ _ Cv_ hr (by decide) rfl ?g3 (by decide) (by rfl) (by rfl);case g3=>refine' @Za _ _ _ _ _ ?g4 ?g5 rfl;(case g4=>refine' @Z3 _ _ _ _ _ _ _ Yc (pv 0) ?g6 (fun _ _=>rfl);case g6=>refine' @Z3 _ _ _ _ _ _ _ Yc (pv 1) Zd (fun _ _=>rfl));case g5=>refine' @Za _ _ _ _ _ ?g7 ?g8 rfl;(case g7=>refine' @Z3 _ _ _ _ _ _ _ Yc (pv 0) ?g9 (fun _ _=>rfl);case g9=>refine' @Z3 _ _ _ _ _ _ _ Yc (pv 1) Zd (fun _ _=>rfl));case g8=>refine' @Za _ _ _ _ _ ?ga Zb rfl;case ga=>refine' @Z3 _ _ _ _ _ _ _ Yc (pv 0) ?gb (fun _ _=>rfl);case gb=>refine' @Z3 _ _ _ _ _ _ _ Yc (pv 1) Zd (fun _ _=>rfl)
 match p,hl with
 | [i,j,k],_ =>
   have bi:=bd i (by simp);have bj:=bd j (by simp);have bk:=bd k (by simp);obtain ⟨x,ex,rx⟩:=Zn9 al bi.1 bi.2;obtain ⟨y,ey,ry⟩:=Zn9 al bj.1 bj.2;obtain ⟨z,ez,rz⟩:=Zn9 al bk.1 bk.2;refine ⟨_,rfl,_,rfl,b,_,0,_,rfl,rfl,SqT.of hb,rfl,a,us,i,x,rfl,rfl,SqT.of ha,ex,?_⟩;refine ⟨_,rfl,_,rfl,b,_,1,_,rfl,rfl,SqT.of hb,rfl,a,us,j,y,rfl,rfl,SqT.of ha,ey,?_⟩;refine ⟨_,rfl,_,rfl,b,_,2,_,rfl,rfl,SqT.of hb,rfl,a,us,k,z,rfl,rfl,SqT.of ha,ez,?_⟩;exact ⟨x,y,z,_,_,_,rfl,rx,ry,rz,nr _ (Zak bi.1 bi.2),nr _ (Zak bj.1 bj.2),nr _ (Zak bk.1 bk.2),q⟩
abbrev Zbb:Stmt:=top 54
theorem Ziz (F:Fun K "is_piece" "is_piece" Zbb f fd) (Cao_:a8_ P w K mg base) (Ci_:a4_ P w K mg base) (Cc_:a5_ P w K mg base) (Ca6_:a9_ P w K mg base):FnOk P w K mg base CX0 3 f fd ["corners","thing"] Zfe:=by
 have sc:FnScope ["corners","thing"] ["corners","thing"] (Zg Zbb):=fsc (by decide +kernel);refine F.ok sc (fun vs H Q E h=>by obtain ⟨u,v,cs,p,rfl,_⟩:=h;rfl) fun cdv A outer s H vs Q E hr h=>?_;obtain ⟨u,v,cs,p,rfl,⟨a,us,rfl,ha,al⟩,⟨b,rfl,hb⟩,ok,nr,q⟩:=h;refine' ⟨_,?term,?read⟩
 case term=>refine' @Ze _ _ _ _ _ ?g1 ?g2;(case g1=>refine' @Zy _ _ _ _ _ _ _ _ ?g3 (Zf (Zl Z2)) Zp;case g3=>refine' @PW.pt _ _ _ ?g4;case g4=>refine' @Ys _ _ _ _ _ _ _ ?g5 ?g6;(case g5=>refine' @Zq _ _ _ _ ?g7;case g7=>refine' @Zk _ _ _ (Zi Cc_ hr (by decide) rfl (Za (pv 1) (Za Zd (Za Zd Zb rfl) rfl) rfl)) (fun _=>rfl));case g6=>refine' @Z6 _ _ _ _ ?g8;case g8=>refine' @Zq _ _ _ _ ?g9;case g9=>refine' @Zk _ _ _ ?ga (fun _=>rfl);case ga=>refine' @Zh _ _ _ _ _ _ _ _ _ (Z1 rfl) rfl T.b_all Xa ?gb (by decide) (by decide) (by rfl) (by rfl);case gb=>refine' @Za _ _ _ _ _ ?gc Zb rfl;case gc=>refine' @Xg _ _ _ _ _ _ _ (["part","corners"]) ([none,some 0]) _ _ _ _ _ rfl (Yz (XN:=["corners","thing"]) (Scope.names (Zg Zbb)) rfl rfl rfl (fun _ h=>Z9 h) (by decide +kernel) rfl) (Yq (pv 1)) (fun _ _ _ _=>pgB 0) (fun _ _ _ _=>Zw) (fun _ _ _ _=>Zi Ci_ hr (by decide) rfl (Za (pv 0) (Za Zd (Za (Zt Xw (Zh (Zfq K rfl) rfl T.b_len Z8 (Za (pv 1) Zb rfl)) Zd) Zb rfl) rfl) rfl)) (by intro _ ;rfl));case g2=>refine' @Zf _ _ _ ?gd;case gd=>refine' @Zl _ _ _ _ ?ge;case ge=>refine' @Y3 _ _ _ _ _ _ _ (Zi Cao_ hr (by decide) rfl (Za (pv 1) Zb rfl)) (Yy (Yx Zgj (Zi Ca6_ hr (by decide) rfl (Za (pv 0) (Za (pv 1) Zb rfl) rfl)) Zd (Zx _)))
 have hl:=ok.len;have hl2:=al.1;refine ⟨_,rfl,b,_,3,3,rfl,hb,by simp [hl],by simp [hl],true,rfl,iteF ?_⟩;refine ⟨_,rfl,b,rfl,⟨_,SqT.of hb⟩,fun D nD=>?_⟩;refine lc_T (k:=.t) (vs:=p.map V.int) RB hRB (List.replicate 3 true) (by simp [hl]) (by simp [hl]) nD hb (fun i w H2 C hw s2 c=>?_) (fun H2 us' s2 e2 a2=>?_)
 · rw [n11_] at hw;obtain ⟨x,ex,rfl⟩:=n38_.mp hw;obtain ⟨b1,b2⟩:=ok.bd x (n12_ ex);refine ⟨_,rfl,_,rfl,a,us,rfl,.inr (SqT.of (s2 _ _ ha)),_,_,rfl,rfl,x,0,_,rfl,b1,by rw [hl2];exact b2,c _ _ true (Same.refl _) (repT ?_) rfl⟩
   have:=Yv ex
   omega
 · rw [a2.bls] at e2;refine ⟨D,List.replicate 3 true,rfl,SqL.of e2,true,by rw [allT];rfl,iteF ?_⟩;refine ⟨_,rfl,b,p,rfl,s2 _ _ hb,by omega,fun i x y ex ey=>?_,fun H3 s3=>⟨true,rfl,iteT ?_⟩⟩
   · have r:=ok.rise
     match p,hl with
     | [i0,i1,i2],_ =>
       match i,ex,ey with
       | 0,ex,ey=>simp at ex ey;subst ex;subst ey;exact r.1
       | 1,ex,ey=>simp at ex ey;subst ex;subst ey;exact r.2
       | 2,ex,ey=>simp at ey
       | (n+3),ex,ey=>simp at ex
   · have s4:=s2.trans s3;refine ⟨_,rfl,_,rfl,_,_,cs,p,rfl,⟨a,us,rfl,s4 _ _ ha,al.imp fun v x r=>r.tk s4.tk⟩,⟨b,rfl,s4 _ _ hb⟩,hl,ok.bd,nr,rfl,?_⟩;have e:decide (V.int (dOf cs p)=V.int 0)=false:=n8_ fun z=>ok.d (V.int.inj z);rw [e];exact q _ s4
abbrev Zaa:Stmt:=top 55
theorem Zf1 (F:Fun K "are_pieces" "are_pieces" Zaa f fd) (Cp_:a10_ P w K mg base) (Cm_:a11_ P w K mg base) (Cc_:a5_ P w K mg base):FnOk P w K mg base CX0 4 f fd ["corners","thing"] Zii:=by
 have sc:FnScope ["corners","thing"] ["corners","thing"] (Zg Zaa):=fsc (by decide +kernel);refine F.ok sc (fun vs H Q E h=>by obtain ⟨u,v,cs,ps,rfl,_⟩:=h;rfl) fun cdv A outer s H vs Q E hr h=>?_;obtain ⟨u,v,cs,ps,rfl,hc,⟨b,ws,rfl,hb,bl⟩,p1,p40,pc,rise,nr,q⟩:=h;refine' ⟨_,?term,?read⟩
 case term=>refine' @Ze _ _ _ _ _ ?g1 (Zf (Zl (Zi Cp_ hr (by decide) rfl (Za (pv 1) Zb rfl))));case g1=>refine' @Zy _ _ _ _ _ _ _ _ ?g2 (Zf (Zl Z2)) Zp;case g2=>refine' @PW.pt _ _ _ ?g3;case g3=>refine' @Ys _ _ _ _ _ _ _ ?g4 ?g5;(case g4=>refine' @Zq _ _ _ _ ?g6;case g6=>refine' @Zk _ _ _ (Zi Cc_ hr (by decide) rfl (Za (pv 1) (Za Zd (Za (Yw T.n_MOST_PIECES rfl) Zb rfl) rfl) rfl)) (fun _=>rfl));case g5=>refine' @Z6 _ _ _ _ ?g7;case g7=>refine' @Zq _ _ _ _ ?g8;case g8=>refine' @Zk _ _ _ ?g9 (fun _=>rfl);case g9=>refine' @Zh _ _ _ _ _ _ _ _ _ (Z1 rfl) rfl T.b_all Xa ?ga (by decide) (by decide) (by rfl) (by rfl);case ga=>refine' @Za _ _ _ _ _ ?gb Zb rfl;case gb=>refine' @Xg _ _ _ _ _ _ _ (["part","corners"]) ([none,some 0]) _ _ _ _ _ rfl (Yz (XN:=["corners","thing"]) (Scope.names (Zg Zaa)) rfl rfl rfl (fun _ h=>Z9 h) (by decide +kernel) rfl) (Yq (pv 1)) (fun _ _ _ _=>pgB 0) (fun _ _ _ _=>Zw) (fun _ _ _ _=>Zi Cm_ hr (by decide) rfl (Za (pv 1) (Za (pv 0) Zb rfl) rfl)) (by intro _ ;rfl)
 have hl:=bl.1;refine ⟨_,rfl,b,_,1,40,rfl,hb,by omega,by omega,true,rfl,iteF ?_⟩;refine ⟨_,rfl,b,rfl,⟨_,SqT.of hb⟩,fun D nD=>?_⟩;refine lc_T (k:=.t) (vs:=ws) RB hRB (List.replicate ws.length true) (by simp) (by omega) nD hb (fun i w H2 C hw s2 c=>?_) (fun H2 us' s2 e2 a2=>?_)
 · obtain ⟨p,ep,rp⟩:=bl.get hw;exact ⟨_,rfl,_,rfl,_,_,cs,p,rfl,hc.tk s2.tk,rp.tk s2.tk,pc p (n12_ ep),nr,fun H5 s5=>c _ _ true s5 (repT (Yv hw)) rfl⟩
 · rw [a2.bls] at e2;refine ⟨D,List.replicate ws.length true,rfl,SqL.of e2,true,by rw [allT];rfl,iteF ?_⟩;refine ⟨_,rfl,b,ws,ps,rfl,s2 _ _ hb,bl.imp fun v x r=>r.tk s2.tk,by omega,fun i x y ex ey=>?_,fun H3 s3=>q _ (s2.trans s3)⟩
   have:=rise i (Yv ey)
   rw [n3_,n3_,ex,ey] at this;exact this
abbrev Za1:Stmt:=top 56
theorem Zf9 (F:Fun K "are_thicks" "are_thicks" Za1 f fd) (Ci_:a4_ P w K mg base) (Cc_:a5_ P w K mg base):FnOk P w K mg base CX0 3 f fd ["pieces","thing"] Zh7:=by
 have sc:FnScope ["pieces","thing"] ["pieces","thing"] (Zg Za1):=fsc (by decide +kernel);refine F.ok sc (fun vs H Q E h=>by obtain ⟨u,v,ps,ts,rfl,_⟩:=h;rfl) fun cdv A outer s H vs Q E hr h=>?_;obtain ⟨u,v,ps,ts,rfl,⟨a,us,rfl,ha,al⟩,⟨b,rfl,hb⟩,hl,p40,t9,q⟩:=h;refine' ⟨_,?term,?read⟩
 case term=>refine' @Ze _ _ _ _ _ ?g1 ?g2;(case g1=>refine' @Zy _ _ _ _ _ _ _ _ ?g3 (Zf (Zl Z2)) Zp;case g3=>refine' @Zq _ _ _ _ ?g4;case g4=>refine' @Zk _ _ _ (Zi Cc_ hr (by decide) rfl (Za (pv 1) (Za (Zh Zn rfl T.b_len Z8 (Za (pv 0) Zb rfl)) (Za (Zh Zn rfl T.b_len Z8 (Za (pv 0) Zb rfl)) Zb rfl) rfl) rfl)) (fun _=>rfl));case g2=>refine' @Zf _ _ _ ?g5;case g5=>refine' @Zl _ _ _ _ ?g6;case g6=>refine' @Zh _ _ _ _ _ _ _ _ _ (Z1 rfl) rfl T.b_all Xa ?g7 (by decide) (by decide) (by rfl) (by rfl);case g7=>refine' @Za _ _ _ _ _ ?g8 Zb rfl;case g8=>refine' @Xg _ _ _ _ _ _ _ (["part"]) ([none]) _ _ _ _ _ rfl (Z7 (by decide) rfl (by decide) rfl rfl) (Yq (pv 1)) (fun _ _ _ _=>pgB 0) (fun _ _ _ _=>Zw) (fun _ _ _ _=>Zi Ci_ hr (by decide) rfl (Za (pv 0) (Za Zd (Za (Yw T.n_THICKEST rfl) Zb rfl) rfl) rfl)) (by intro _ ;rfl)
 have hl2:=al.1;have hl3:((ts.map V.int).length:Int)=us.length:=by simp;omega
 refine ⟨_,rfl,_,rfl,a,us,rfl,.inr (SqT.of ha),_,rfl,a,us,rfl,.inr (SqT.of ha),b,_,_,_,rfl,hb,by rw [hl3];exact Int.le_refl _,by rw [hl3];exact Int.le_refl _,true,rfl,iteF ?_⟩;refine ⟨_,rfl,b,rfl,⟨_,SqT.of hb⟩,fun D nD=>?_⟩;refine lc_T (k:=.t) (vs:=ts.map V.int) RB hRB (List.replicate ts.length true) (by simp) (by simp;omega) nD hb (fun i w H2 C hw s2 c=>?_) (fun H2 us' s2 e2 a2=>?_)
 · rw [n11_] at hw;obtain ⟨x,ex,rfl⟩:=n38_.mp hw;obtain ⟨b1,b2⟩:=t9 x (n12_ ex);exact ⟨_,rfl,x,1,9,rfl,b1,b2,c _ _ true (Same.refl _) (repT (Yv ex)) rfl⟩
 · rw [a2.bls] at e2;refine ⟨D,List.replicate ts.length true,rfl,SqL.of e2,?_⟩;rw [allT];exact q _ s2
abbrev Zcm:Stmt:=top 57
theorem Zin (F:Fun K "is_stuff" "is_stuff" Zcm f fd) (Ci_:a4_ P w K mg base) (Cc_:a5_ P w K mg base):FnOk P w K mg base CX0 3 f fd ["thing"] Zkn:=by
 have sc:FnScope ["thing"] ["thing"] (Zg Zcm):=fsc (by decide +kernel);refine F.ok sc (fun vs H Q E h=>by obtain ⟨v,l,m,rfl,_⟩:=h;rfl) fun cdv A outer s H vs Q E hr h=>?_;obtain ⟨v,l,m,rfl,⟨b,rfl,hb⟩,l9,m9,q⟩:=h;refine' ⟨_,?term,?read⟩
 case term=>refine' @Ze _ _ _ _ _ ?g1 ?g2;(case g1=>refine' @Zy _ _ _ _ _ _ _ _ ?g3 (Zf (Zl Z2)) Zp;case g3=>refine' @Zq _ _ _ _ ?g4;case g4=>refine' @Zk _ _ _ (Zi Cc_ hr (by decide) rfl (Za (pv 0) (Za Zd (Za Zd Zb rfl) rfl) rfl)) (fun _=>rfl));case g2=>refine' @Zf _ _ _ ?g5;case g5=>refine' @Zl _ _ _ _ ?g6;case g6=>refine' @Y3 _ _ _ _ _ _ _ ?g7 ?g8;(case g7=>refine' @Zi _ _ _ _ _ _ _ _ _ _ _ Ci_ hr (by decide) rfl ?g9 (by decide) (by rfl) (by rfl);case g9=>refine' @Za _ _ _ _ _ ?ga (Za Zd (Za (Yw T.n_MOST_STUFF rfl) Zb rfl) rfl) rfl;case ga=>refine' @Z3 _ _ _ _ _ _ _ Yc (pv 0) Zd (fun _ _=>rfl));case g8=>refine' @Yy _ _ _ _ _ ?gb;case gb=>refine' @Zi _ _ _ _ _ _ _ _ _ _ _ Ci_ hr (by decide) rfl ?gc (by decide) (by rfl) (by rfl);case gc=>refine' @Za _ _ _ _ _ ?gd (Za Zd (Za (Yw T.n_MOST_STUFF rfl) Zb rfl) rfl) rfl;case gd=>refine' @Z3 _ _ _ _ _ _ _ Yc (pv 0) Zd (fun _ _=>rfl)
 refine ⟨_,rfl,b,_,2,2,rfl,hb,by simp,by simp,true,rfl,iteF ?_⟩;refine ⟨_,rfl,b,_,0,_,rfl,rfl,SqT.of hb,rfl,l,0,9,rfl,l9.1,l9.2,true,rfl,iteT ?_⟩;exact ⟨_,rfl,b,_,1,_,rfl,rfl,SqT.of hb,rfl,m,1,9,rfl,m9.1,m9.2,q⟩
abbrev Zba:Stmt:=top 58
theorem Zjh (F:Fun K "triangle" "triangle" Zba f fd) (Cv_:a7_ P w K mg base):FnOk P w K mg base CX0 2 f fd ["corners","piece"] Zpl:=by
 have sc:FnScope ["corners","piece","first","second","third"] ["corners","piece"] (Zg Zba):=fsc (by decide +kernel);refine F.ok sc (fun vs H Q E h=>by obtain ⟨u,v,cs,p,rfl,_⟩:=h;rfl) fun cdv A outer s H vs Q E hr h=>?_;obtain ⟨u,v,cs,p,rfl,⟨a,us,rfl,ha,al⟩,⟨b,rfl,hb⟩,hl,bd,nr,q⟩:=h;have nd:=sc.nd;refine' ⟨_,?term,?read⟩
 case term=>refine' @Ze _ _ _ _ _ ?g1 ?g2;(case g1=>refine' @Y8 _ _ _ _ _ _ ?g3 ?g4 (by rfl) (by rfl) (by rfl);(case g3=>refine' @Xg _ _ _ _ _ _ _ (["number","corners"]) ([none,some 0]) _ _ _ _ _ rfl (Yz (XN:=["corners","piece","first","second","third"]) (Scope.names (Zg Zba)) rfl rfl rfl (fun _ h=>Z9 h) (by decide +kernel) rfl) (Yq (pv 1)) (fun _ _ _ _=>pgB 0) (fun _ _ _ _=>Zw) (fun _ _ _ _=>Z3 (Zq0 K rfl) (pv 1) (pv 0) (fun _ _=>rfl)) (by intro _ ;rfl));case g4=>refine' @Zso _ _ _ _ _ (3) rfl (Zm (Zo (i:=2) nd rfl (Or.inl rfl)) (Zm (Zo (i:=3) nd rfl (Or.inl rfl)) (Zm (Zo (i:=4) nd rfl (Or.inl rfl)) Yb))) (by rfl) (by rfl));case g2=>refine' @Ze _ _ _ _ _ ?g5 (Zf (Zl (Zu (Za (pv 2) (Za (pv 3) (Za (pv 4) Zb rfl) rfl) rfl))));case g5=>refine' @Zy _ _ _ _ _ _ _ _ (Z4 Zlv (Zi Cv_ hr (by decide) rfl (Za (pv 2) (Za (pv 3) (Za (pv 4) Zb rfl) rfl) rfl)) Zd (Zx _)) (Zf (Zl (Zu (Za (pv 2) (Za (pv 4) (Za (pv 3) Zb rfl) rfl) rfl)))) Zp
 refine ⟨_,rfl,b,rfl,⟨_,SqT.of hb⟩,fun D nD=>?_⟩;refine lc_T (k:=.t) (vs:=p.map V.int) IsP hRP (p.map (cAt cs)) (by simp) (by simp [hl]) nD hb (fun i w H2 C hw s2 c=>?_) (fun H2 us' s2 e2 a2=>?_)
 · rw [n11_] at hw;obtain ⟨x,ex,rfl⟩:=n38_.mp hw;obtain ⟨b1,b2⟩:=bd x (n12_ ex);obtain ⟨v,ev,rv⟩:=Zn9 al b1 b2;exact ⟨_,rfl,_,rfl,a,us,x,v,rfl,rfl,SqT.of (s2 _ _ ha),ev,c _ _ _ (Same.refl _) (by rw [n11_,ex];rfl) (rv.tk s2.tk)⟩
 · obtain ⟨x,y,z,rfl,rx,ry,rz⟩:=cs3 (al.imp fun v x r=>r.tk s2.tk) hl bd a2;have nx:=nr (cAt cs (p.getD 0 0)) (by match p,hl with|[i,j,k],_=>exact Zak (bd i (by simp)).1 (bd i (by simp)).2);have ny:=nr (cAt cs (p.getD 1 0)) (by match p,hl with|[i,j,k],_=>exact Zak (bd j (by simp)).1 (bd j (by simp)).2);have nz:=nr (cAt cs (p.getD 2 0)) (by match p,hl with|[i,j,k],_=>exact Zak (bd k (by simp)).1 (bd k (by simp)).2);refine ⟨D,_,rfl,SqL.of e2,rfl,x,_,rfl,y,_,rfl,z,_,rfl,rfl,?_⟩;refine ⟨_,rfl,_,rfl,_,rfl,x,y,z,_,_,_,rfl,rx,ry,rz,nx,ny,nz,_,_,rfl,rfl,_,rfl,?_⟩;refine ite2 (fun h=>?_) (fun h=>?_)
   · refine ⟨_,rfl,_,rfl,_,rfl,z3_,fun r nr'=>?_⟩;have s3:Same H2 (upd H2 r (.tup [x,z,y])):=Same.new nr';refine q _ _ (s2.trans s3) ⟨r,x,z,y,rfl,Zc,?_⟩;unfold trOf tri;rw [if_pos (n31_ h)];exact ⟨rx.tk s3.tk,rz.tk s3.tk,ry.tk s3.tk⟩
   · refine ⟨_,rfl,_,rfl,_,rfl,z3_,fun r nr'=>?_⟩;have s3:Same H2 (upd H2 r (.tup [x,y,z])):=Same.new nr';refine q _ _ (s2.trans s3) ⟨r,x,y,z,rfl,Zc,?_⟩;unfold trOf tri;rw [if_neg fun z=>h (n19_ z)];exact ⟨rx.tk s3.tk,ry.tk s3.tk,rz.tk s3.tk⟩
abbrev Zit:Stmt:=top 59
theorem Zor (F:Fun K "edges" "edges" Zit f fd):FnOk P w K mg base CX0 1 f fd ["points"] Zko:=by
 have sc:FnScope ["points"] ["points"] (Zg Zit):=fsc (by decide +kernel);refine F.ok sc (fun vs H Q E h=>by obtain ⟨v,t,rfl,_⟩:=h;rfl) fun cdv A outer s H vs Q E hr h=>?_;obtain ⟨v,t,rfl,⟨a,x,y,z,rfl,ha,rx,ry,rz⟩,q⟩:=h;refine' ⟨_,?term,?read⟩
 case term=>refine' @Zf _ _ _ ?g1;case g1=>refine' @Zl _ _ _ _ ?g2;case g2=>refine' @Zu _ _ _ _ _ ?g3;case g3=>refine' @Za _ _ _ _ _ ?g4 ?g5 rfl;(case g4=>refine' @Zu _ _ _ _ _ ?g6;case g6=>refine' @Za _ _ _ _ _ ?g7 ?g8 rfl;(case g7=>refine' @Z3 _ _ _ _ _ _ _ Yc (pv 0) Zd (fun _ _=>rfl));case g8=>refine' @Za _ _ _ _ _ ?g9 Zb rfl;case g9=>refine' @Z3 _ _ _ _ _ _ _ Yc (pv 0) Zd (fun _ _=>rfl));case g5=>refine' @Za _ _ _ _ _ ?ga ?gb rfl;(case ga=>refine' @Zu _ _ _ _ _ ?gc;case gc=>refine' @Za _ _ _ _ _ ?gd ?ge rfl;(case gd=>refine' @Z3 _ _ _ _ _ _ _ Yc (pv 0) Zd (fun _ _=>rfl));case ge=>refine' @Za _ _ _ _ _ ?gf Zb rfl;case gf=>refine' @Z3 _ _ _ _ _ _ _ Yc (pv 0) Zd (fun _ _=>rfl));case gb=>refine' @Za _ _ _ _ _ ?gg Zb rfl;case gg=>refine' @Zu _ _ _ _ _ ?gh;case gh=>refine' @Za _ _ _ _ _ ?gi ?gj rfl;(case gi=>refine' @Z3 _ _ _ _ _ _ _ Yc (pv 0) Zd (fun _ _=>rfl));case gj=>refine' @Za _ _ _ _ _ ?gk Zb rfl;case gk=>refine' @Z3 _ _ _ _ _ _ _ Yc (pv 0) Zd (fun _ _=>rfl)
 refine ⟨_,rfl,a,_,0,x,rfl,rfl,SqT.of ha,rfl,_,rfl,a,_,1,y,rfl,rfl,SqT.of ha,rfl,z2_,fun p np=>?_⟩;have s1:Same H (upd H p (.tup [x,y])):=Same.new np;generalize hH1:upd H p (.tup [x,y])=H1 at s1 ⊢;have e1:H1 p=some (.tup [x,y]):=by rw [← hH1];exact Zc
 refine ⟨_,rfl,a,_,1,y,rfl,rfl,SqT.of (s1 _ _ ha),rfl,_,rfl,a,_,2,z,rfl,rfl,SqT.of (s1 _ _ ha),rfl,z2_,fun p2 np2=>?_⟩;have s2:Same H1 (upd H1 p2 (.tup [y,z])):=Same.new np2;generalize hH2:upd H1 p2 (.tup [y,z])=H2 at s2 ⊢;have e2:H2 p2=some (.tup [y,z]):=by rw [← hH2];exact Zc
 have s12:=s1.trans s2;refine ⟨_,rfl,a,_,2,z,rfl,rfl,SqT.of (s12 _ _ ha),rfl,_,rfl,a,_,0,x,rfl,rfl,SqT.of (s12 _ _ ha),rfl,z2_,fun p3 np3=>?_⟩;have s3:Same H2 (upd H2 p3 (.tup [z,x])):=Same.new np3;generalize hH3:upd H2 p3 (.tup [z,x])=H3 at s3 ⊢;have e3:H3 p3=some (.tup [z,x]):=by rw [← hH3];exact Zc
 refine ⟨z3_,fun p4 np4=>?_⟩;have s4:Same H3 (upd H3 p4 (.tup [.ref p,.ref p2,.ref p3])):=Same.new np4;have t4:=(s12.trans (s3.trans s4)).tk;refine q _ _ (s12.trans (s3.trans s4)) ⟨p4,_,rfl,Zc,.cons ⟨p,x,y,rfl,s4 _ _ (s3 _ _ (s2 _ _ e1)),rx.tk t4,ry.tk t4⟩ (.cons ⟨p2,y,z,rfl,s4 _ _ (s3 _ _ e2),ry.tk t4,rz.tk t4⟩ (.cons ⟨p3,z,x,rfl,s4 _ _ e3,rz.tk t4,rx.tk t4⟩ .nil))⟩
abbrev Zcd:Stmt:=top 60
theorem Zlm (F:Fun K "lies_in" "lies_in" Zcd f fd) (Cal_:a12_ P w K mg base) (Cv_:a7_ P w K mg base):FnOk P w K mg base CX0 2 f fd ["point","points"] Zhk:=by
 have sc:FnScope ["point","points"] ["point","points"] (Zg Zcd):=fsc (by decide +kernel);refine F.ok sc (fun vs H Q E h=>by obtain ⟨u,v,p,t,rfl,_⟩:=h;rfl) fun cdv A outer s H vs Q E hr h=>?_;obtain ⟨u,v,p,t,rfl,hp,ht,np,nt,q⟩:=h;refine' ⟨_,?term,?read⟩
 case term=>refine' @Zf _ _ _ ?g1;case g1=>refine' @Zl _ _ _ _ ?g2;case g2=>refine' @Zh _ _ _ _ _ _ _ _ _ (Z1 rfl) rfl T.b_all Xa ?g3 (by decide) (by decide) (by rfl) (by rfl);case g3=>refine' @Za _ _ _ _ _ ?g4 Zb rfl;case g4=>refine' @Xg _ _ _ _ _ _ _ (["one","other","point"]) ([none,none,some 0]) _ _ ((gTup K 2 (Za5 (Xn 0) (Za5 (Xn 1) gNil)))) _ _ rfl (Yz (XN:=["point","points"]) (Scope.names (Zg Zcd)) rfl rfl rfl (fun _ h=>Z9 h) (by decide +kernel) rfl) (Yq (Zi Cal_ hr (by decide) rfl (Za (pv 1) Zb rfl))) (fun _ _ _ _=>Yu (n:=2) rfl (Zm (pgB 0) (Zm (pgB 1) Yb))) (fun _ _ _ _=>Zw) (fun _ _ _ _=>Yx Zug (Zi Cv_ hr (by decide) rfl (Za (pv 0) (Za (pv 1) (Za (pv 2) Zb rfl) rfl) rfl)) Zd (Zx _)) (by intro _ ;rfl)
 refine ⟨_,rfl,v,t,rfl,ht,fun H1 w s1 hw=>?_⟩;obtain ⟨a,vs,rfl,ha,al⟩:=hw;have hl:vs.length=3:=al.1;refine ⟨a,rfl,⟨_,SqT.of ha⟩,fun D nD=>?_⟩;refine Ztq (k:=.t) (vs:=vs) RB hRB (t.edges.map fun e=>decide (0≤tn e.1 e.2 p)) (by simp [hl,Tri.edges]) (by omega) nD ha (prs al) (fun i p' x y H2 C hw hp' s2 c=>?_) (fun H2 us' s2 e2 a2=>?_)
 · obtain ⟨e,ee,rx,ry⟩:=pr1 al hw hp';obtain ⟨n1,n2⟩:=Zg6 nt (n12_ ee);exact ⟨_,rfl,_,rfl,_,rfl,x,y,u,e.1,e.2,p,rfl,rx.tk s2.tk,ry.tk s2.tk,hp.tk (s1.trans s2).tk,n1,n2,np,_,_,rfl,rfl,c _ _ _ (Same.refl _) (by rw [n11_,ee];rfl) rfl⟩
 · rw [a2.bls] at e2;exact ⟨D,_,rfl,SqL.of e2,q _ (s1.trans s2)⟩
abbrev X8:Stmt:=top 61
theorem Zfu (F:Fun K "parts_from" "parts_from" X8 f fd) (Cal_:a12_ P w K mg base) (Cv_:a7_ P w K mg base):FnOk P w K mg base CX0 2 f fd ["points","others"] Zc6:=by
 have sc:FnScope ["points","others","one","other"] ["points","others"] (Zg X8):=fsc (by decide +kernel);refine F.ok sc (fun vs H Q E h=>by obtain ⟨u,v,t,r,rfl,_⟩:=h;rfl) fun cdv A outer s H vs Q E hr h=>?_;obtain ⟨u,v,t,r,rfl,ht,hr',nt,nr,q⟩:=h;have nd:=sc.nd;refine' ⟨_,?term,?read⟩
 case term=>refine' @Ze _ _ _ _ _ ?g1 (Zf (Zl Z2));case g1=>refine' @Zdl _ _ _ _ _ _ _ _ PassesOwn.never rfl (Yq (Zi Cal_ hr (by decide) rfl (Za (pv 0) Zb rfl))) ?g2 ?g3 (by intro _ ;rfl);(case g2=>refine' @Yu _ _ _ _ _ (2) rfl (Zm (Zo (i:=2) nd rfl (Or.inr rfl)) (Zm (Zo (i:=3) nd rfl (Or.inr rfl)) Yb)) (by rfl) (by rfl));case g3=>refine' @Zf _ _ _ ?g4;case g4=>refine' @Zy _ _ _ _ _ _ _ _ ?g5 (Zf (Zl Z2)) Zp;case g5=>refine' @Zk _ _ _ ?g6 (fun _=>rfl);case g6=>refine' @Zh _ _ _ _ _ _ _ _ _ (Z1 rfl) rfl T.b_all Xa ?g7 (by decide) (by decide) (by rfl) (by rfl);case g7=>refine' @Za _ _ _ _ _ ?g8 Zb rfl;case g8=>refine' @Xg _ _ _ _ _ _ _ (["point","one","other"]) ([none,some 2,some 3]) _ _ _ _ _ rfl (Yz (XN:=["points","others","one","other"]) (Scope.names (Zg X8)) rfl rfl rfl (fun _ h=>Z9 h) (by decide +kernel) rfl) (Yq (pv 1)) (fun _ _ _ _=>pgB 0) (fun _ _ _ _=>Zw) (fun _ _ _ _=>Yx Zf5 (Zi Cv_ hr (by decide) rfl (Za (pv 1) (Za (pv 2) (Za (pv 0) Zb rfl) rfl) rfl)) Zd (Zx _)) (by intro _ ;rfl)
 refine ⟨_,rfl,u,t,rfl,ht,fun H1 w s1 hw=>?_⟩;obtain ⟨a,vs,rfl,ha,al⟩:=hw;have hl:vs.length=3:=al.1;have hel:t.edges.length=3:=rfl;refine ⟨a,rfl,⟨_,SqT.of ha⟩,?_⟩;refine Zjd (n:=3) (fun i σ H2=>Same H1 H2∧(∃ x y,σ=[some u,some v,x,y])∧((t.edges.take i).any fun e=>Zdq e r)=false) ⟨Same.refl _,⟨_,_,rfl⟩,rfl⟩ (fun i σ H2 hi p=>⟨vs,vs[i]'(by omega),SqT.of (p.1 _ _ ha),n1_ (by omega)⟩) (fun σ H2 p=>⟨vs,SqT.of (p.1 _ _ ha),by omega⟩) (fun i x σ H2 H3 hi y p=>?_) (fun σ H2 p=>?_)
 · obtain ⟨s2,⟨u1,u2,rfl⟩,no⟩:=p;obtain ⟨rfl,y2⟩:=y;have ex:=y2 vs (SqT.of (s2 _ _ ha));obtain ⟨p',x1,y1,rfl,hp'⟩:=prs al i x ex;obtain ⟨e,ee,rx,ry⟩:=pr1 al ex hp';obtain ⟨n1,n2⟩:=Zg6 nt (n12_ ee);refine ⟨p',_,rfl,SqT.of (s2 _ _ hp'),rfl,x1,_,rfl,y1,_,rfl,rfl,?_⟩;obtain ⟨b,ws,rfl,hb,hl2,bl⟩:=Zr3 hr';have s02:=s1.trans s2;refine ⟨_,rfl,b,rfl,⟨_,SqT.of (s02 _ _ hb)⟩,fun D nD=>?_⟩;refine lc_T (k:=.t) (vs:=ws) RB hRB (r.pts.map fun q=>decide (tn e.1 e.2 q≤0)) (by simp [hl2,Tri.pts]) (by omega) nD (s02 _ _ hb) (fun j w H4 C hw s4 c=>?_) (fun H4 us' s4 e4 a4=>?_)
   · obtain ⟨g,eg,rg⟩:=bl.get hw;have tk4:=(s2.trans s4).tk;exact ⟨_,rfl,_,rfl,_,rfl,x1,y1,w,e.1,e.2,g,rfl,rx.tk tk4,ry.tk tk4,rg.tk (s02.trans s4).tk,n1,n2,Zq7 nr (n12_ eg),_,_,rfl,rfl,c _ _ _ (Same.refl _) (by rw [n11_,eg];rfl) rfl⟩
   · rw [a4.bls] at e4;refine ⟨D,_,rfl,SqL.of e4,_,rfl,ite2 (fun h=>?_) (fun h=>?_)⟩
     · have:Y9 t r=true:=List.any_eq_true.mpr ⟨e,n12_ ee,h⟩
       rw [this] at q;exact q _ (s02.trans s4)
     · refine ⟨s2.trans s4,⟨_,_,rfl⟩,?_⟩;have hi':i<t.edges.length:=by omega
       rw [List.take_succ,ee,List.any_append,no]
       have:Zdq e r=false:=Bool.eq_false_iff.mpr h
       simp [this]
 · obtain ⟨s2,⟨u1,u2,rfl⟩,no⟩:=p
   have:Y9 t r=false:=no
   rw [this] at q;exact q _ (s1.trans s2)
abbrev Zbu:Stmt:=top 62
theorem Zif (F:Fun K "are_apart" "are_apart" Zbu f fd) (Cac_:a13_ P w K mg base):FnOk P w K mg base CX0 3 f fd ["points","others"] Zke:=by
 have sc:FnScope ["points","others"] ["points","others"] (Zg Zbu):=fsc (by decide +kernel);refine F.ok sc (fun vs H Q E h=>by obtain ⟨u,v,t,r,rfl,_⟩:=h;rfl) fun cdv A outer s H vs Q E hr h=>?_;obtain ⟨u,v,t,r,rfl,ht,hr',nt,nr,q⟩:=h;refine' ⟨_,?term,?read⟩
 case term=>refine' @Zf _ _ _ ?g1;case g1=>refine' @Zl _ _ _ _ ?g2;case g2=>refine' @Ztm _ _ _ _ _ _ _ (Zi Cac_ hr (by decide) rfl (Za (pv 0) (Za (pv 1) Zb rfl) rfl)) (Yy (Zi Cac_ hr (by decide) rfl (Za (pv 1) (Za (pv 0) Zb rfl) rfl)))
 refine ⟨_,rfl,_,rfl,u,v,t,r,rfl,ht,hr',nt,nr,fun H1 s1=>⟨_,rfl,ite2 (fun h=>?_) (fun h=>?_)⟩⟩
 · rw [show L2.apart t r=true by unfold L2.apart;rw [h];rfl] at q;exact q _ s1
 · rw [show L2.apart t r=Y9 r t by unfold L2.apart;rw [show Y9 t r=false by simpa using h];rfl] at q;exact ⟨_,rfl,_,rfl,v,u,r,t,rfl,hr'.tk s1.tk,ht.tk s1.tk,nr,nt,fun H2 s2=>q _ (s1.trans s2)⟩
abbrev Yr:Stmt:=top 63
theorem Zap (F:Fun K "every_corner_is_used" "every_corner_is_used" Yr f fd):FnOk P w K mg base CX0 2 f fd ["corners","pieces"] Zmx:=by
 have sc:FnScope ["corners","pieces"] ["corners","pieces"] (Zg Yr):=fsc (by decide +kernel);refine F.ok sc (fun vs H Q E h=>by obtain ⟨u,v,cs,ps,rfl,_⟩:=h;rfl) fun cdv A outer s H vs Q E hr h=>?_;obtain ⟨u,v,cs,ps,rfl,⟨a,us,rfl,ha,al⟩,⟨b,ws,rfl,hb,bl⟩,h3,p40,cnt,c30,q⟩:=h;refine' ⟨_,?term,?read⟩
 case term=>refine' @Zf _ _ _ ?g1;case g1=>refine' @Zl _ _ _ _ ?g2;case g2=>refine' @Yx _ _ _ _ _ _ _ _ Zco ?g3 (Zh Zn rfl T.b_len Z8 (Za (pv 0) Zb rfl)) (Zx _);case g3=>refine' @Zh _ _ _ _ _ _ _ _ _ Zg2 rfl T.b_len Z8 ?g4 (by decide) (by decide) (by rfl) (by rfl);case g4=>refine' @Za _ _ _ _ _ ?g5 Zb rfl;case g5=>refine' @Zpv _ _ _ _ _ _ _ _ (["piece","number"]) ([none,none]) _ _ _ _ _ _ rfl (Z7 (by decide) rfl (by decide) rfl rfl) (Yq (pv 1)) (fun _ _ _ _=>pgB 0) (fun _ _ _ _=>Zi0 K rfl (pv 0)) (fun _ _ _ _=>pgB 1) (fun _ _ _ _=>pv 1) (by intro _ ;rfl) (by intro _ _ ;rfl)
 have hl:=al.1
 have fl:∀ l:List (List Int),(∀ p∈l,p.length=3)→l.flatten.length=3*l.length:=by
  intro l
  induction l with
  | nil=>intro _;rfl
  | cons x l ih =>
    intro h;rw [List.flatten_cons,n25_,ih fun p hp=>h p (n18_ _ hp),h x n34_,n16_];omega
 refine ⟨_,rfl,b,rfl,⟨_,SqT.of hb⟩,fun D nD=>?_⟩;refine Zng hb bl (by rw [fl ps h3];omega) nD (fun S=>?_);have s1:Same H (upd H D (.set S (cntS ps.flatten))):=Same.new nD;refine ⟨D,S,_,rfl,Zc,_,rfl,a,us,rfl,.inr (SqT.of (s1 _ _ ha)),rfl,?_⟩;have e:V.int (cntS ps.flatten:Nat)=V.int us.length:=by rw [cnt,hl]
 exact qT e (q _ s1)
abbrev Yd:Stmt:=top 64
theorem Zbe (F:Fun K "no_strange_corner" "no_strange_corner" Yd f fd) (Ca7_:a14_ P w K mg base):FnOk P w K mg base CX0 3 f fd ["corners","piece","points"] Zey:=by
 have sc:FnScope ["corners","piece","points","strange"] ["corners","piece","points"] (Zg Yd):=fsc (by decide +kernel);refine F.ok sc (fun vs H Q E h=>by obtain ⟨u,v,w,cs,p,t,rfl,_⟩:=h;rfl) fun cdv A outer s H vs Q E hr h=>?_;obtain ⟨u,v,w,cs,p,t,rfl,⟨a,us,rfl,ha,al⟩,⟨b,rfl,hb⟩,ht,c30,nr,nt,no,q⟩:=h;have nd:=sc.nd;refine' ⟨_,?term,?read⟩
 case term=>refine' @Ze _ _ _ _ _ ?g1 ?g2;(case g1=>refine' @Zp7 _ _ _ _ _ _ _ _ _ _ (["number","corner","piece"]) ([none,none,some 1]) _ _ ((gTup K 2 (Za5 (Xn 0) (Za5 (Xn 1) gNil)))) _ _ _ rfl rfl (Zo (i:=3) nd rfl (Or.inl rfl)) (Yz (XN:=["corners","piece","points","strange"]) (Scope.names (Zg Yd)) rfl rfl rfl (fun _ h=>Z9 h) (by decide +kernel) rfl) ?g3 (fun _ _ _ _=>Yu (n:=2) rfl (Zm (pgB 0) (Zm (pgB 1) Yb))) (fun _ _ _ _=>Zgf (Z4 (Zgg K rfl) (pv 0) (pv 2) rfl)) (fun _ _ _ _=>pv 1) (by intro _ ;rfl);case g3=>refine' @Znp _ _ _ _ .t _ _ _ _ rfl T.b_enumerate (Za (pv 0) Zb rfl) (by rfl));case g2=>refine' @Zf _ _ _ ?g4;case g4=>refine' @Zl _ _ _ _ ?g5;case g5=>refine' @Zjk _ _ _ _ ?g6;case g6=>refine' @Zh _ _ _ _ _ _ _ _ _ (Zmr rfl) rfl T.b_any Zse ?g7 (by decide) (by decide) (by rfl) (by rfl);case g7=>refine' @Za _ _ _ _ _ ?g8 Zb rfl;case g8=>refine' @Xg _ _ _ _ _ _ _ (["corner","points"]) ([none,some 2]) _ _ _ _ _ rfl (Yz (XN:=["corners","piece","points","strange"]) (Scope.names (Zg Yd)) rfl rfl rfl (fun _ h=>Z9 h) (by decide +kernel) rfl) (Zd1 (pv 3)) (fun _ _ _ _=>pgB 0) (fun _ _ _ _=>Zw) (fun _ _ _ _=>Zi Ca7_ hr (by decide) rfl (Za (pv 0) (Za (pv 1) Zb rfl) rfl)) (by intro _ ;rfl)
 have hl:=al.1;refine ⟨_,rfl,a,rfl,⟨_,SqT.of ha⟩,fun D nD=>?_⟩;refine lc_E (k:=.t) (vs:=us) IsP hRP (fun i=>if (i:Int)∈p then none else cs[i]?) (by omega) nD ha (fun i x H2 C N hx s2 c n=>?_) (fun H2 us' s2 e2 a2=>?_)
 · obtain ⟨g,eg,rg⟩:=al.get hx;refine ⟨_,rfl,_,rfl,b,_,rfl,.inr (SqT.of (s2 _ _ hb)),rfl,by rw [List.all_map];exact n33_.mpr fun _ _=>rfl,_,rfl,?_⟩;rw [Zo8]
   by_cases hm:(i:Int)∈p
   · rw [n19_ hm];exact iteF (n _ (Same.refl _) (by rw [if_pos hm]))
   · rw [n8_ hm];exact iteT ⟨_,rfl,c _ _ g (Same.refl _) (by rw [if_neg hm];exact eg) (rg.tk s2.tk)⟩
 · generalize hst:(List.range us.length).filterMap (fun i:Nat=>if (i:Int)∈p then none else cs[i]?)=st at a2
   have hst2:∀ g∈st,near g∧Zca g t=false:=by
    intro g hg;rw [← hst] at hg;obtain ⟨i,hi,e⟩:=List.mem_filterMap.mp hg;have hi:=n35_.mp hi;split at e
    · cases e
    · rename_i hm
      have:=no i (by omega) hm
      rw [n3_,e] at this;exact ⟨nr g (n12_ e),this⟩
   have hl3:st.length≤us.length:=by
    rw [← hst]
    have:=List.length_filterMap_le (fun i:Nat=>if (i:Int)∈p then none else cs[i]?) (List.range us.length)
    rwa [List.length_range] at this
   have l2:=a2.1;refine ⟨_,rfl,D,rfl,⟨_,SqL.of e2⟩,fun E nE=>?_⟩;refine lc_T (k:=.l) (vs:=us') RB hRB (st.map fun g=>Zca g t) (by simp [l2]) (by omega) nE e2 (fun j x H4 C hx s4 c=>?_) (fun H4 us'' s4 e4 a4=>?_)
   · obtain ⟨g,eg,rg⟩:=a2.get hx;exact ⟨_,rfl,_,rfl,x,w,g,t,rfl,rg.tk s4.tk,ht.tk (s2.trans s4).tk,(hst2 g (n12_ eg)).1,nt,fun H5 s5=>c _ _ _ s5 (by rw [n11_,eg];rfl) rfl⟩
   · rw [a4.bls] at e4;refine ⟨E,_,rfl,SqL.of e4,false,by rw [anyM fun g hg=>(hst2 g hg).2],?_⟩;exact q _ (s2.trans s4)
abbrev Y2:Stmt:=top 65
theorem Zed (F:Fun K "fit_together" "fit_together" Y2 f fd) (Caw_:a15_ P w K mg base) (Caa_:a16_ P w K mg base) (Ca2_:a17_ P w K mg base):FnOk P w K mg base CX0 4 f fd ["corners","pieces"] Zpq:=by
 have sc:FnScope ["corners","pieces","triangles","at","piece","points"] ["corners","pieces"] (Zg Y2):=fsc (by decide +kernel);refine F.ok sc (fun vs H Q E h=>by obtain ⟨u,v,cs,ps,rfl,_⟩:=h;rfl) fun cdv A outer s H vs Q E hr h=>?_;obtain ⟨u,v,cs,ps,rfl,hc,⟨b,ws,rfl,hb,bl⟩,ok,q⟩:=h;have nd:=sc.nd;refine' ⟨_,?term,?read⟩
 case term=>refine' @Ze _ _ _ _ _ ?g1 ?g2;(case g1=>refine' @Zp7 _ _ _ _ _ _ _ _ _ _ (["piece","corners"]) ([none,some 0]) _ _ _ _ _ _ rfl rfl (Zo (i:=2) nd rfl (Or.inl rfl)) (Yz (XN:=["corners","pieces","triangles","at","piece","points"]) (Scope.names (Zg Y2)) rfl rfl rfl (fun _ h=>Z9 h) (by decide +kernel) rfl) (Yq (pv 1)) (fun _ _ _ _=>pgB 0) (fun _ _ _ _=>Zw) (fun _ _ _ _=>Zi Ca2_ hr (by decide) rfl (Za (pv 1) (Za (pv 0) Zb rfl) rfl)) (by intro _ ;rfl));case g2=>refine' @Ze _ _ _ _ _ ?g3 (Zf (Zl Z2));case g3=>refine' @Zdl _ _ _ _ _ _ _ _ PassesOwn.never rfl ?g4 ?g5 ?g6 (by intro _ ;rfl);(case g4=>refine' @Zlf _ _ _ _ .t .l _ _ _ _ _ _ _ rfl T.b_enumerate rfl T.b_zip (Za (pv 1) (Za (pv 2) Zb rfl) rfl) (by rfl) (by rfl) (by rfl));(case g5=>refine' @Yu _ _ _ _ _ (2) rfl ?g7 (by rfl) (by rfl);case g7=>refine' @Zm _ _ _ _ _ (Zo (i:=3) nd rfl (Or.inl rfl)) ?g8 (by rfl);case g8=>refine' @Zm _ _ _ _ _ ?g9 Yb (by rfl);case g9=>refine' @Yu _ _ _ _ _ (2) rfl (Zm (Zo (i:=4) nd rfl (Or.inl rfl)) (Zm (Zo (i:=5) nd rfl (Or.inr rfl)) Yb)) (by rfl) (by rfl));case g6=>refine' @Ze _ _ _ _ _ ?ga ?gb;(case ga=>refine' @Zy _ _ _ _ _ _ _ _ ?gc (Zf (Zl Z2)) Zp;case gc=>refine' @Zq _ _ _ _ ?gd;case gd=>refine' @Zk _ _ _ (Zi Caa_ hr (by decide) rfl (Za (pv 0) (Za (pv 4) (Za (pv 5) Zb rfl) rfl) rfl)) (fun _=>rfl));case gb=>refine' @Zf _ _ _ ?ge;case ge=>refine' @Zy _ _ _ _ _ _ _ _ ?gf (Zf (Zl Z2)) Zp;case gf=>refine' @Zq _ _ _ _ ?gg;case gg=>refine' @Zk _ _ _ ?gh (fun _=>rfl);case gh=>refine' @Zh _ _ _ _ _ _ _ _ _ (Z1 rfl) rfl T.b_all Xa ?gi (by decide) (by decide) (by rfl) (by rfl);case gi=>refine' @Za _ _ _ _ _ ?gj Zb rfl;case gj=>refine' @Xg _ _ _ _ _ _ _ (["others","points"]) ([none,some 5]) _ _ _ _ _ rfl (Yz (XN:=["corners","pieces","triangles","at","piece","points"]) (Scope.names (Zg Y2)) rfl rfl rfl (fun _ h=>Z9 h) (by decide +kernel) rfl) ?gk (fun _ _ _ _=>pgB 0) (fun _ _ _ _=>Zw) (fun _ _ _ _=>Zi Caw_ hr (by decide) rfl (Za (pv 1) (Za (pv 0) Zb rfl) rfl)) (by intro _ ;rfl);case gk=>refine' @Zd1 _ _ _ _ ?gl;case gl=>refine' @Xd _ _ _ _ _ _ _ _ _ _ Zri (pv 2) Xv (Xs (pv 3))
 have hl:=bl.1;have p40:=ok.p40;refine ⟨_,rfl,b,rfl,⟨_,SqT.of hb⟩,fun D nD=>?_⟩;refine lc_T (k:=.t) (vs:=ws) IsT hRT (ps.map (trOf cs)) (by simp [hl]) (by omega) nD hb (fun i w H2 C hw s2 c=>?_) (fun H2 us' s2 e2 a2=>?_)
 · obtain ⟨p,ep,rp⟩:=bl.get hw;have pk:=ok.pc p (n12_ ep);exact ⟨_,rfl,_,rfl,u,w,cs,p,rfl,hc.tk s2.tk,rp.tk s2.tk,pk.len,pk.bd,ok.nr,fun H5 w5 s5 h5=>c _ _ _ s5 (by rw [n11_,ep];rfl) h5⟩
 · have l2:=a2.1;rw [n23_] at l2;have hb2:=s2 _ _ hb;refine ⟨_,rfl,_,rfl,b,D,rfl,⟨_,SqT.of hb2⟩,⟨_,SqL.of e2⟩,?_⟩;refine Zjd (n:=ps.length) (fun i σ H3=>Same H2 H3∧∃ x y z,σ=[some u,some (.ref b),some (.ref D),x,y,z]) ⟨Same.refl _,_,_,_,rfl⟩ (fun i σ H3 hi p=>⟨ws,us',ws[i]'(by omega),us'[i]'(by omega),SqT.of (p.1 _ _ hb2),SqL.of (p.1 _ _ e2),n1_ (by omega),n1_ (by omega)⟩) (fun σ H3 p=>⟨ws,us',SqT.of (p.1 _ _ hb2),SqL.of (p.1 _ _ e2),by omega⟩) (fun i x σ H3 H4 hi y p=>?_) (fun σ H3 p=>?_)
   · obtain ⟨s3,x1,x2,x3,rfl⟩:=p;obtain ⟨p1,p2,x,y,rfl,n1,n2,ne,rfl,y1,y2⟩:=y;have ex:=y1 ws (SqT.of (s3 _ _ hb2));have ey:=y2 us' (SqL.of (s3 _ _ e2));have sa:Same H3 (upd H3 p1 (.tup [x,y])):=Same.new n1;have sb:Same (upd H3 p1 (.tup [x,y])) (upd (upd H3 p1 (.tup [x,y])) p2 (.tup [.int i,.ref p1])):=Same.new (by rw [Zs ne.symm];exact n2);have e5:upd (upd H3 p1 (.tup [x,y])) p2 (.tup [.int i,.ref p1]) p1=some (.tup [x,y]):=sb _ _ Zc;have e6:upd (upd H3 p1 (.tup [x,y])) p2 (.tup [.int i,.ref p1]) p2=some (.tup [.int i,.ref p1]):=Zc;have s4:=s3.trans (sa.trans sb);generalize upd (upd H3 p1 (.tup [x,y])) p2 (.tup [.int i,.ref p1])=H4 at s4 e5 e6;obtain ⟨p,ep,rp⟩:=bl.get ex;obtain ⟨t,et,rt'⟩:=a2.get ey;rw [n11_,ep] at et;cases et
     have pk:=ok.pc p (n12_ ep);have tn':=Zg1 pk.bd pk.len ok.nr;have gp:ps.getD i []=p:=by rw [n3_,ep];rfl
     refine ⟨p2,_,rfl,SqT.of e6,rfl,_,_,rfl,_,_,rfl,⟨p1,_,rfl,SqT.of e5,rfl,x,_,rfl,y,_,rfl,rfl,rfl,?_⟩⟩;have s04:=s2.trans s4;refine ⟨_,rfl,_,rfl,_,rfl,u,x,y,cs,p,_,rfl,hc.tk s04.tk,rp.tk s04.tk,rt'.tk s4.tk,ok.c30,ok.nr,tn',ok.strange p (n12_ ep),fun H5 s5=>⟨true,rfl,iteF ?_⟩⟩;have s45:=s4.trans s5;refine ⟨_,rfl,_,rfl,_,rfl,D,us',rfl,SqL.of (s45 _ _ e2),fun r nr'=>?_⟩;have s6:Same H5 (upd H5 r (.lst (us'.take i))):=Same.new nr';rw [Zuk _ _ (by omega)];have e7:upd H5 r (.lst (us'.take i)) r=some (.lst (us'.take i)):=Zc;generalize upd H5 r (.lst (us'.take i))=H6 at s6 e7 ⊢;refine ⟨r,rfl,⟨_,SqL.of e7⟩,fun E nE=>?_⟩;have s46:=s45.trans s6;refine lc_T (k:=.l) (vs:=us'.take i) RB hRB (List.replicate i true) (by simp;omega) (by simp;omega) nE e7 (fun j w H8 C hw s8 c=>?_) (fun H8 us'' s8 e8 a8=>?_)
     · have hj:j<i:=by
        have:=Yv hw
        rw [n61_] at this;omega
       rw [List.getElem?_take_of_lt hj] at hw;obtain ⟨t2,et2,rt2⟩:=a2.get hw;rw [n11_] at et2;obtain ⟨p',ep',rfl⟩:=n38_.mp et2;have pk':=ok.pc p' (n12_ ep');have gp':ps.getD j []=p':=by rw [n3_,ep'];rfl
       have ap:=ok.apart j i hj hi;rw [gp,gp'] at ap;have s48:=s46.trans s8;refine ⟨_,rfl,_,rfl,y,w,_,_,rfl,rt'.tk s48.tk,rt2.tk s48.tk,tn',Zg1 pk'.bd pk'.len ok.nr,fun H9 s9=>c _ _ true s9 (repT hj) (congrArg V.bl ap)⟩
     · rw [a8.bls] at e8;refine ⟨E,_,rfl,SqL.of e8,true,by rw [allT];rfl,iteF ?_⟩;exact ⟨s46.trans s8,_,_,_,rfl⟩
   · obtain ⟨s3,x1,x2,x3,rfl⟩:=p;exact q _ (s2.trans s3)
abbrev Zch:Stmt:=top 66
theorem Zd4 (F:Fun K "is_plate" "is_plate" Zch f fd) (Ce_:a18_ P w K mg base) (Cf_:a19_ P w K mg base) (Cg_:a20_ P w K mg base) (Ca_:a21_ P w K mg base) (Cb_:a22_ P w K mg base) (Cc_:a5_ P w K mg base) (Ch_:a23_ P w K mg base):FnOk P w K mg base CX0 5 f fd ["thing"] Zcg:=by
 have sc:FnScope ["thing","corners","pieces","thicks","stuff"] ["thing"] (Zg Zch):=fsc (by decide +kernel);refine F.ok sc (fun vs H Q E h=>by obtain ⟨v,P',rfl,_⟩:=h;rfl) fun cdv A outer s H vs Q E hr h=>?_;obtain ⟨v,P',rfl,⟨a,c,p,t,st,rfl,ha,hc,hp,ht,hs⟩,ok,q⟩:=h;have nd:=sc.nd;refine' ⟨_,?term,?read⟩
 case term=>refine' @Ze _ _ _ _ _ ?g1 ?g2;(case g1=>refine' @Zy _ _ _ _ _ _ _ _ ?g3 (Zf (Zl Z2)) Zp;case g3=>refine' @Zq _ _ _ _ ?g4;case g4=>refine' @Zk _ _ _ (Zi Cc_ hr (by decide) rfl (Za (pv 0) (Za Zd (Za Zd Zb rfl) rfl) rfl)) (fun _=>rfl));case g2=>refine' @Ze _ _ _ _ _ ?g5 ?g6;(case g5=>refine' @Y8 _ _ _ _ _ _ (pv 0) ?g7 (by rfl) (by rfl) (by rfl);case g7=>refine' @Yu _ _ _ _ _ (4) rfl (Zm (Zo (i:=1) nd rfl (Or.inl rfl)) (Zm (Zo (i:=2) nd rfl (Or.inl rfl)) (Zm (Zo (i:=3) nd rfl (Or.inl rfl)) (Zm (Zo (i:=4) nd rfl (Or.inl rfl)) Yb)))) (by rfl) (by rfl));case g6=>refine' @Ze _ _ _ _ _ ?g8 ?g9;(case g8=>refine' @Zy _ _ _ _ _ _ _ _ ?ga (Zf (Zl Z2)) Zp;case ga=>refine' @PW.pt _ _ _ ?gb;case gb=>refine' @Ys _ _ _ _ _ _ _ ?gc ?gd;(case gc=>refine' @Zq _ _ _ _ ?ge;case ge=>refine' @Zk _ _ _ (Zi Ce_ hr (by decide) rfl (Za (pv 1) Zb rfl)) (fun _=>rfl));case gd=>refine' @Z6 _ _ _ _ ?gf;case gf=>refine' @Zq _ _ _ _ ?gg;case gg=>refine' @Zk _ _ _ (Zi Cf_ hr (by decide) rfl (Za (pv 1) (Za (pv 2) Zb rfl) rfl)) (fun _=>rfl));case g9=>refine' @Ze _ _ _ _ _ ?gh ?gi;(case gh=>refine' @Zy _ _ _ _ _ _ _ _ ?gj (Zf (Zl Z2)) Zp;case gj=>refine' @PW.pt _ _ _ ?gk;case gk=>refine' @Ys _ _ _ _ _ _ _ ?gl ?gm;(case gl=>refine' @Zq _ _ _ _ ?gn;case gn=>refine' @Zk _ _ _ (Zi Cg_ hr (by decide) rfl (Za (pv 2) (Za (pv 3) Zb rfl) rfl)) (fun _=>rfl));case gm=>refine' @Z6 _ _ _ _ ?go;case go=>refine' @Zq _ _ _ _ ?gp;case gp=>refine' @Zk _ _ _ (Zi Ch_ hr (by decide) rfl (Za (pv 4) Zb rfl)) (fun _=>rfl));case gi=>refine' @Zf _ _ _ ?gq;case gq=>refine' @Zl _ _ _ _ ?gr;case gr=>refine' @Y3 _ _ _ _ _ _ _ (Zi Ca_ hr (by decide) rfl (Za (pv 1) (Za (pv 2) Zb rfl) rfl)) (Yy (Zi Cb_ hr (by decide) rfl (Za (pv 1) (Za (pv 2) Zb rfl) rfl)))
 refine ⟨_,rfl,a,_,4,4,rfl,ha,by simp,by simp,true,rfl,iteF ?_⟩;refine ⟨_,rfl,a,_,rfl,SqT.of ha,rfl,c,_,rfl,p,_,rfl,t,_,rfl,st,_,rfl,rfl,?_⟩;refine ⟨_,rfl,c,P'.cs,rfl,hc,ok.c3,ok.c30,ok.nr,ok.nd,fun H1 s1=>⟨true,rfl,iteF ?_⟩⟩;refine ⟨_,rfl,_,rfl,c,p,P'.cs,P'.ps,rfl,hc.tk s1.tk,hp.tk s1.tk,ok.p1,ok.p40,ok.pc,ok.rise,ok.nr,fun H2 s2=>⟨true,rfl,iteF ?_⟩⟩;have s12:=s1.trans s2;refine ⟨_,rfl,_,rfl,p,t,P'.ps,P'.ts,rfl,hp.tk s12.tk,ht.tk s12.tk,ok.t1,ok.p40,ok.t9,fun H3 s3=>⟨true,rfl,iteF ?_⟩⟩;have s13:=s12.trans s3;refine ⟨_,rfl,st,P'.l,P'.m,rfl,hs.tk s13.tk,ok.l9,ok.m9,true,rfl,iteF ?_⟩;refine ⟨_,rfl,_,rfl,c,p,P'.cs,P'.ps,rfl,hc.tk s13.tk,hp.tk s13.tk,fun x hx=>(ok.pc x hx).len,ok.p40,ok.used,ok.c30,fun H4 s4=>⟨true,rfl,iteT ?_⟩⟩;have s14:=s13.trans s4;exact ⟨_,rfl,_,rfl,c,p,P'.cs,P'.ps,rfl,hc.tk s14.tk,hp.tk s14.tk,⟨ok.c30,ok.nr,ok.p40,ok.pc,ok.strange,ok.apart⟩,fun H5 s5=>q _ (s14.trans s5)⟩
abbrev Zb5:Stmt:=top 47
theorem Zer (F:Fun K "is_between" "is_between" Zb5 f fd) (Co_:a2_ P w K mg base):FnOk P w K mg base CX0 2 f fd ["thing","least","most"] Zp8:=by
 have sc:FnScope ["thing","least","most"] ["thing","least","most"] (Zg Zb5):=fsc (by decide +kernel);refine F.ok sc (fun vs H Q E h=>by obtain ⟨N,k,v,d,lo,hi,rfl,_⟩:=h;rfl) fun cdv A outer s H vs Q E hr h=>?_;obtain ⟨N,k,v,d,lo,hi,rfl,h,q⟩:=h;refine' ⟨_,?term,?read⟩
 case term=>refine' @Zf _ _ _ ?g1;case g1=>refine' @Zl _ _ _ _ ?g2;case g2=>refine' @Y3 _ _ _ _ _ _ _ (Zi Co_ hr (by decide) rfl (Za (pv 0) Zb rfl)) ?g3;case g3=>refine' @Yy _ _ _ _ _ ?g4;case g4=>refine' @Zdj _ _ _ _ _ _ _ _ _ _ _ _ Zf5 Zf5 (pv 1) (pv 0) (pv 2) (by with_unfolding_all rfl)
 refine ⟨_,rfl,N,k,v,d,rfl,h,_,rfl,?_⟩
 rcases h.isI with ⟨i,rfl,rfl,hi'⟩|e
 · refine iteT ?_;refine ⟨_,rfl,_,rfl,_,_,rfl,rfl,decide (lo≤i),rfl,?_⟩
   by_cases h1:lo≤i
   · rw [n19_ h1];refine iteT ⟨_,rfl,_,_,rfl,rfl,?_⟩;rw [show isBt (.int i) lo hi=decide (i≤hi) by (show (decide (lo≤i)&&decide (i≤hi))=_;rw [n19_ h1];rfl)] at q;exact q
   · rw [n8_ h1];rw [show isBt (.int i) lo hi=false by (show (decide (lo≤i)&&decide (i≤hi))=_;rw [n8_ h1];rfl)] at q;exact iteF q
 · rw [e];rw [show isBt d lo hi=false by cases d<;>first|rfl|(cases e)] at q;exact iteF q
abbrev Zh8:Stmt:=top 48
theorem Zlp (F:Fun K "is_row" "is_row" Zh8 f fd):FnOk P w K mg base CX0 1 f fd ["thing","fewest","most"] (Znr K):=by
 have sc:FnScope ["thing","fewest","most"] ["thing","fewest","most"] (Zg Zh8):=fsc (by decide +kernel);refine F.ok sc (fun vs H Q E h=>by obtain ⟨v,lo,hi,rfl,_⟩:=h;rfl) fun cdv A outer s H vs Q E hr h=>?_;obtain ⟨v,lo,hi,rfl,c,q⟩:=h;refine' ⟨_,?term,?read⟩
 case term=>refine' @Zf _ _ _ ?g1;case g1=>refine' @Zl _ _ _ _ ?g2;case g2=>refine' @Y3 _ _ _ _ _ _ _ (Zh Yn rfl T.b_isinstance Zj (Za (pv 0) (Za (Y1 (v:=.ty "tuple") rfl T.b_tuple Yl rfl) Zb rfl) rfl)) ?g3;case g3=>refine' @Yy _ _ _ _ _ ?g4;case g4=>refine' @Zdj _ _ _ _ _ _ _ _ _ _ _ _ Zf5 Zf5 (pv 1) (Zh Zn rfl T.b_len Z8 (Za (pv 0) Zb rfl)) (pv 2) (by with_unfolding_all rfl)
 rcases c with ⟨t,ty,ki⟩|⟨a,us,rfl,ha,hn⟩
 · exact ⟨_,rfl,_,_,_,_,rfl,ty,ki,false,rfl,iteF q⟩
 · refine ⟨_,rfl,_,_,_,_,rfl,TyOf.tup ha,rfl,true,rfl,iteT ?_⟩;refine ⟨_,rfl,_,rfl,a,_,rfl,.inr (SqT.of ha),_,_,rfl,rfl,decide (lo≤(us.length:Int)),rfl,?_⟩
   by_cases h1:lo≤(us.length:Int)
   · rw [n19_ h1];refine iteT ⟨_,rfl,_,_,rfl,rfl,?_⟩;show Q (.bl (decide ((us.length:Int)≤hi))) H
     rw [n8_ fun z=>hn ⟨h1,z⟩];exact q
   · rw [n8_ h1];exact iteF q
abbrev Zbi:Stmt:=top 51
theorem Zdx (F:Fun K "are_corners" "are_corners" Zbi f fd) (Cx_:a6_ P w K mg base) (Ck_:a24_ P w K mg base):FnOk P w K mg base CX0 4 f fd ["thing"] (Zdu K):=by
 have sc:FnScope ["thing"] ["thing"] (Zg Zbi):=fsc (by decide +kernel);refine F.ok sc (fun vs H Q E h=>by obtain ⟨v,rfl,_⟩:=h;rfl) fun cdv A outer s H vs Q E hr h=>?_;obtain ⟨v,rfl,c,q⟩:=h;refine' ⟨_,?term,?read⟩
 case term=>refine' @Ze _ _ _ _ _ ?g1 (Zf (Zl (Yx Zco (Zh Zih rfl T.b_len Z8 (Za (Ye (Zg3 rfl hr) rfl T.b_set Zpy (Za (pv 0) Zb rfl)) Zb rfl)) (Zh Zn rfl T.b_len Z8 (Za (pv 0) Zb rfl)) (Zx _))));case g1=>refine' @Zy _ _ _ _ _ _ _ _ ?g2 (Zf (Zl Z2)) Zp;case g2=>refine' @PW.pt _ _ _ ?g3;case g3=>refine' @Ys _ _ _ _ _ _ _ ?g4 ?g5;(case g4=>refine' @Zq _ _ _ _ ?g6;case g6=>refine' @Zk _ _ _ (Zi Ck_ hr (by decide) rfl (Za (pv 0) (Za (Yw T.n_FEWEST_CORNERS rfl) (Za (Yw T.n_MOST_CORNERS rfl) Zb rfl) rfl) rfl)) (fun _=>rfl));case g5=>refine' @Z6 _ _ _ _ ?g7;case g7=>refine' @Zq _ _ _ _ ?g8;case g8=>refine' @Zk _ _ _ ?g9 (fun _=>rfl);case g9=>refine' @Zh _ _ _ _ _ _ _ _ _ (Z1 rfl) rfl T.b_all Xa ?ga (by decide) (by decide) (by rfl) (by rfl);case ga=>refine' @Za _ _ _ _ _ ?gb Zb rfl;case gb=>refine' @Xg _ _ _ _ _ _ _ (["part"]) ([none]) _ _ _ _ _ rfl (Z7 (by decide) rfl (by decide) rfl rfl) (Yq (pv 0)) (fun _ _ _ _=>pgB 0) (fun _ _ _ _=>Zw) (fun _ _ _ _=>Zi Cx_ hr (by decide) rfl (Za (pv 0) Zb rfl)) (by intro _ ;rfl)
 exact ⟨_,rfl,v,3,30,rfl,.inl c,false,rfl,iteT q⟩
abbrev Zat:Stmt:=top 55
theorem Zei (F:Fun K "are_pieces" "are_pieces" Zat f fd) (Cp_:a10_ P w K mg base) (Cm_:a11_ P w K mg base) (Ck_:a24_ P w K mg base):FnOk P w K mg base CX0 4 f fd ["corners","thing"] (Ze5 K):=by
 have sc:FnScope ["corners","thing"] ["corners","thing"] (Zg Zat):=fsc (by decide +kernel);refine F.ok sc (fun vs H Q E h=>by obtain ⟨u,a,rfl,_⟩:=h;rfl) fun cdv A outer s H vs Q E hr h=>?_;obtain ⟨u,a,rfl,ha,q⟩:=h;refine' ⟨_,?term,?read⟩
 case term=>refine' @Ze _ _ _ _ _ ?g1 (Zf (Zl (Zi Cp_ hr (by decide) rfl (Za (pv 1) Zb rfl))));case g1=>refine' @Zy _ _ _ _ _ _ _ _ ?g2 (Zf (Zl Z2)) Zp;case g2=>refine' @PW.pt _ _ _ ?g3;case g3=>refine' @Ys _ _ _ _ _ _ _ ?g4 ?g5;(case g4=>refine' @Zq _ _ _ _ ?g6;case g6=>refine' @Zk _ _ _ (Zi Ck_ hr (by decide) rfl (Za (pv 1) (Za Zd (Za (Yw T.n_MOST_PIECES rfl) Zb rfl) rfl) rfl)) (fun _=>rfl));case g5=>refine' @Z6 _ _ _ _ ?g7;case g7=>refine' @Zq _ _ _ _ ?g8;case g8=>refine' @Zk _ _ _ ?g9 (fun _=>rfl);case g9=>refine' @Zh _ _ _ _ _ _ _ _ _ (Z1 rfl) rfl T.b_all Xa ?ga (by decide) (by decide) (by rfl) (by rfl);case ga=>refine' @Za _ _ _ _ _ ?gb Zb rfl;case gb=>refine' @Xg _ _ _ _ _ _ _ (["part","corners"]) ([none,some 0]) _ _ _ _ _ rfl (Yz (XN:=["corners","thing"]) (Scope.names (Zg Zat)) rfl rfl rfl (fun _ h=>Z9 h) (by decide +kernel) rfl) (Yq (pv 1)) (fun _ _ _ _=>pgB 0) (fun _ _ _ _=>Zw) (fun _ _ _ _=>Zi Cm_ hr (by decide) rfl (Za (pv 1) (Za (pv 0) Zb rfl) rfl)) (by intro _ ;rfl)
 exact ⟨_,rfl,.ref a,1,40,rfl,.inr ⟨a,[],rfl,ha,by simp⟩,false,rfl,iteT q⟩
abbrev Zb8:Stmt:=top 49
theorem Zet (F:Fun K "are_rising" "are_rising" Zb8 f fd):FnOk P w K mg base CX0 1 f fd ["things"] Zfl:=by
 have sc:FnScope ["things"] ["things"] (Zg Zb8):=fsc (by decide +kernel);refine F.ok sc (fun vs H Q E h=>by obtain ⟨a,us,ks,rfl,_⟩:=h;rfl) fun cdv A outer s H vs Q E hr h=>?_;obtain ⟨a,us,ks,rfl,ha,al,hz,rf,q⟩:=h;have hu:=Zi6 hr;have hu1:=Nat.lt_of_succ_lt hu;refine' ⟨_,?term,?read⟩
 case term=>refine' @Zf _ _ _ ?g1;case g1=>refine' @Zl _ _ _ _ ?g2;case g2=>refine' @Zh _ _ _ _ _ _ _ _ _ (Z1 rfl) rfl T.b_all Xa ?g3 (by decide) (by decide) (by rfl) (by rfl);case g3=>refine' @Za _ _ _ _ _ ?g4 Zb rfl;case g4=>refine' @Xg _ _ _ _ _ _ _ (["one","other"]) ([none,none]) _ _ ((gTup K 2 (Za5 (Xn 0) (Za5 (Xn 1) gNil)))) _ _ rfl (Z7 (by decide) rfl (by decide) rfl rfl) ?g5 (fun _ _ _ _=>Yu (n:=2) rfl (Zm (pgB 0) (Zm (pgB 1) Yb))) (fun _ _ _ _=>Zw) (fun _ _ _ _=>Yx (show OpR _ (compareOp .Lt) (rLtT K) from Zp6 hu1) (pv 0) (pv 1) (Zx _)) (by intro _ ;rfl);case g5=>refine' @Zmy _ _ _ _ .t .t _ _ _ _ _ rfl T.b_zip ?g6 (by rfl) (by rfl);case g6=>refine' @Za _ _ _ _ _ (pv 0) ?g7 rfl;case g7=>refine' @Za _ _ _ _ _ ?g8 Zb rfl;case g8=>refine' @Xd _ _ _ _ _ _ _ _ _ _ Zab (pv 0) (Xs Zd) Xv
 obtain ⟨j,xj,yj,exj,eyj,rj⟩:=rf;have hl:=al.1;refine ⟨_,rfl,_,rfl,_,rfl,a,_,rfl,ha,fun p H1 s1 h1=>?_⟩;rw [cut1] at h1;refine ⟨a,p,rfl,⟨_,SqT.of (s1 _ _ ha)⟩,⟨_,SqT.of h1⟩,fun D nD=>?_⟩;refine lc_Z (k:=.t) (l:=.t) (vs:=us) (ws:=us.drop 1) RB hRB ((List.range (us.length-1)).map fun i=>HT.lexLt (ks.getD i []) (ks.getD (i+1) [])) (by simp) (by simp;omega) nD (s1 _ _ ha) h1 (fun i v w H2 C hv hw s2 c=>?_) (fun H2 us' s2 e2 a2=>?_)
 · rw [List.getElem?_drop,Nat.add_comm] at hw;obtain ⟨x,ex,a,rfl,qa⟩:=al.get hv;obtain ⟨y,ey,b,rfl,qb⟩:=al.get hw;refine ⟨_,rfl,_,rfl,a,b,x,y,rfl,rfl,SqT.of ((s1.trans s2) _ _ qa),SqT.of ((s1.trans s2) _ _ qb),?_⟩;refine c _ _ (HT.lexLt x y) (Same.refl _) ?_ rfl
   have:=Yv hw
   rw [n11_,List.getElem?_range (by omega)];simp only [Option.map_some,n3_,ex,ey,Option.getD_some]
 · rw [a2.bls] at e2;refine ⟨D,_,rfl,SqL.of e2,?_⟩
   have:(((List.range (us.length-1)).map fun i=>HT.lexLt (ks.getD i []) (ks.getD (i+1) [])).all id)=false:=by
    rw [List.all_eq_false];refine ⟨HT.lexLt xj yj,n42_.mpr ⟨j,n35_.mpr (by have:=Yv eyj;omega),?_⟩,by rw [rj];decide⟩;simp only [n3_,exj,eyj,Option.getD_some]
   rw [this];exact q _ (s1.trans s2)
abbrev Zas:Stmt:=top 55
theorem Zeg (F:Fun K "are_pieces" "are_pieces" Zas f fd) (Cap_:a25_ P w K mg base) (Cm_:a11_ P w K mg base) (Cc_:a5_ P w K mg base):FnOk P w K mg base CX0 4 f fd ["corners","thing"] Ze3:=by
 have sc:FnScope ["corners","thing"] ["corners","thing"] (Zg Zas):=fsc (by decide +kernel);refine F.ok sc (fun vs H Q E h=>by obtain ⟨u,v,cs,ps,rfl,_⟩:=h;rfl) fun cdv A outer s H vs Q E hr h=>?_;obtain ⟨u,v,cs,ps,rfl,hc,⟨b,ws,rfl,hb,bl⟩,p1,p40,pc,rf,nr,q⟩:=h;refine' ⟨_,?term,?read⟩
 case term=>refine' @Ze _ _ _ _ _ ?g1 (Zf (Zl (Zi Cap_ hr (by decide) rfl (Za (pv 1) Zb rfl))));case g1=>refine' @Zy _ _ _ _ _ _ _ _ ?g2 (Zf (Zl Z2)) Zp;case g2=>refine' @PW.pt _ _ _ ?g3;case g3=>refine' @Ys _ _ _ _ _ _ _ ?g4 ?g5;(case g4=>refine' @Zq _ _ _ _ ?g6;case g6=>refine' @Zk _ _ _ (Zi Cc_ hr (by decide) rfl (Za (pv 1) (Za Zd (Za (Yw T.n_MOST_PIECES rfl) Zb rfl) rfl) rfl)) (fun _=>rfl));case g5=>refine' @Z6 _ _ _ _ ?g7;case g7=>refine' @Zq _ _ _ _ ?g8;case g8=>refine' @Zk _ _ _ ?g9 (fun _=>rfl);case g9=>refine' @Zh _ _ _ _ _ _ _ _ _ (Z1 rfl) rfl T.b_all Xa ?ga (by decide) (by decide) (by rfl) (by rfl);case ga=>refine' @Za _ _ _ _ _ ?gb Zb rfl;case gb=>refine' @Xg _ _ _ _ _ _ _ (["part","corners"]) ([none,some 0]) _ _ _ _ _ rfl (Yz (XN:=["corners","thing"]) (Scope.names (Zg Zas)) rfl rfl rfl (fun _ h=>Z9 h) (by decide +kernel) rfl) (Yq (pv 1)) (fun _ _ _ _=>pgB 0) (fun _ _ _ _=>Zw) (fun _ _ _ _=>Zi Cm_ hr (by decide) rfl (Za (pv 1) (Za (pv 0) Zb rfl) rfl)) (by intro _ ;rfl)
 have hl:=bl.1;refine ⟨_,rfl,b,_,1,40,rfl,hb,by omega,by omega,true,rfl,iteF ?_⟩;refine ⟨_,rfl,b,rfl,⟨_,SqT.of hb⟩,fun D nD=>?_⟩;refine lc_T (k:=.t) (vs:=ws) RB hRB (List.replicate ws.length true) (by simp) (by omega) nD hb (fun i w H2 C hw s2 c=>?_) (fun H2 us' s2 e2 a2=>?_)
 · obtain ⟨p,ep,rp⟩:=bl.get hw;exact ⟨_,rfl,_,rfl,_,_,cs,p,rfl,hc.tk s2.tk,rp.tk s2.tk,pc p (n12_ ep),nr,fun H5 s5=>c _ _ true s5 (repT (Yv hw)) rfl⟩
 · rw [a2.bls] at e2;refine ⟨D,List.replicate ws.length true,rfl,SqL.of e2,true,by rw [allT];rfl,iteF ?_⟩;exact ⟨_,rfl,b,ws,ps,rfl,s2 _ _ hb,bl.imp fun v x r=>r.tk s2.tk,by omega,rf,fun H3 s3=>q _ (s2.trans s3)⟩
abbrev Zb7:Stmt:=top 56
theorem Zef (F:Fun K "are_thicks" "are_thicks" Zb7 f fd) (Ci_:a4_ P w K mg base) (Ck_:a24_ P w K mg base):FnOk P w K mg base CX0 3 f fd ["pieces","thing"] Ze8:=by
 have sc:FnScope ["pieces","thing"] ["pieces","thing"] (Zg Zb7):=fsc (by decide +kernel);refine F.ok sc (fun vs H Q E h=>by obtain ⟨u,b,ps,us,rfl,_⟩:=h;rfl) fun cdv A outer s H vs Q E hr h=>?_;obtain ⟨u,b,ps,us,rfl,⟨a,ws,rfl,ha,al⟩,hb,hl,q⟩:=h;refine' ⟨_,?term,?read⟩
 case term=>refine' @Ze _ _ _ _ _ ?g1 ?g2;(case g1=>refine' @Zy _ _ _ _ _ _ _ _ ?g3 (Zf (Zl Z2)) Zp;case g3=>refine' @Zq _ _ _ _ ?g4;case g4=>refine' @Zk _ _ _ (Zi Ck_ hr (by decide) rfl (Za (pv 1) (Za (Zh Zn rfl T.b_len Z8 (Za (pv 0) Zb rfl)) (Za (Zh Zn rfl T.b_len Z8 (Za (pv 0) Zb rfl)) Zb rfl) rfl) rfl)) (fun _=>rfl));case g2=>refine' @Zf _ _ _ ?g5;case g5=>refine' @Zl _ _ _ _ ?g6;case g6=>refine' @Zh _ _ _ _ _ _ _ _ _ (Z1 rfl) rfl T.b_all Xa ?g7 (by decide) (by decide) (by rfl) (by rfl);case g7=>refine' @Za _ _ _ _ _ ?g8 Zb rfl;case g8=>refine' @Xg _ _ _ _ _ _ _ (["part"]) ([none]) _ _ _ _ _ rfl (Z7 (by decide) rfl (by decide) rfl rfl) (Yq (pv 1)) (fun _ _ _ _=>pgB 0) (fun _ _ _ _=>Zw) (fun _ _ _ _=>Zi Ci_ hr (by decide) rfl (Za (pv 0) (Za Zd (Za (Yw T.n_THICKEST rfl) Zb rfl) rfl) rfl)) (by intro _ ;rfl)
 have hl2:=al.1;exact ⟨_,rfl,_,rfl,a,ws,rfl,.inr (SqT.of ha),_,rfl,a,ws,rfl,.inr (SqT.of ha),.ref b,_,_,rfl,.inr ⟨b,us,rfl,hb,by omega⟩,false,rfl,iteT q⟩
abbrev Zb0:Stmt:=top 56
theorem Zeh (F:Fun K "are_thicks" "are_thicks" Zb0 f fd) (Cl_:a26_ P w K mg base) (Cc_:a5_ P w K mg base):FnOk P w K mg base CX0 3 f fd ["pieces","thing"] Zff:=by
 have sc:FnScope ["pieces","thing"] ["pieces","thing"] (Zg Zb0):=fsc (by decide +kernel);refine F.ok sc (fun vs H Q E h=>by obtain ⟨u,v,ps,ts,rfl,_⟩:=h;rfl) fun cdv A outer s H vs Q E hr h=>?_;obtain ⟨u,v,ps,ts,rfl,⟨a,us,rfl,ha,al⟩,⟨b,rfl,hb⟩,hl,p40,tb,to,q⟩:=h;refine' ⟨_,?term,?read⟩
 case term=>refine' @Ze _ _ _ _ _ ?g1 ?g2;(case g1=>refine' @Zy _ _ _ _ _ _ _ _ ?g3 (Zf (Zl Z2)) Zp;case g3=>refine' @Zq _ _ _ _ ?g4;case g4=>refine' @Zk _ _ _ (Zi Cc_ hr (by decide) rfl (Za (pv 1) (Za (Zh Zn rfl T.b_len Z8 (Za (pv 0) Zb rfl)) (Za (Zh Zn rfl T.b_len Z8 (Za (pv 0) Zb rfl)) Zb rfl) rfl) rfl)) (fun _=>rfl));case g2=>refine' @Zf _ _ _ ?g5;case g5=>refine' @Zl _ _ _ _ ?g6;case g6=>refine' @Zh _ _ _ _ _ _ _ _ _ (Z1 rfl) rfl T.b_all Xa ?g7 (by decide) (by decide) (by rfl) (by rfl);case g7=>refine' @Za _ _ _ _ _ ?g8 Zb rfl;case g8=>refine' @Xg _ _ _ _ _ _ _ (["part"]) ([none]) _ _ _ _ _ rfl (Z7 (by decide) rfl (by decide) rfl rfl) (Yq (pv 1)) (fun _ _ _ _=>pgB 0) (fun _ _ _ _=>Zw) (fun _ _ _ _=>Zi Cl_ hr (by decide) rfl (Za (pv 0) (Za Zd (Za (Yw T.n_THICKEST rfl) Zb rfl) rfl) rfl)) (by intro _ ;rfl)
 have hl2:=al.1;have hl3:((ts.map V.int).length:Int)=us.length:=by simp;omega
 refine ⟨_,rfl,_,rfl,a,us,rfl,.inr (SqT.of ha),_,rfl,a,us,rfl,.inr (SqT.of ha),b,_,_,_,rfl,hb,by rw [hl3];exact Int.le_refl _,by rw [hl3];exact Int.le_refl _,true,rfl,iteF ?_⟩;refine ⟨_,rfl,b,rfl,⟨_,SqT.of hb⟩,fun D nD=>?_⟩;refine lc_T (k:=.t) (vs:=ts.map V.int) RB hRB (ts.map fun t=>isBt (.int t) 1 9) (by simp) (by simp;omega) nD hb (fun i w H2 C hw s2 c=>?_) (fun H2 us' s2 e2 a2=>?_)
 · rw [n11_] at hw;obtain ⟨x,ex,rfl⟩:=n38_.mp hw;exact ⟨_,rfl,(fun _=>False),64,V.int x,.int x,1,9,rfl,.int (n52_ (tb x (n12_ ex)) (by decide)),c _ _ _ (Same.refl _) (by rw [n11_,ex];rfl) rfl⟩
 · rw [a2.bls] at e2;refine ⟨D,_,rfl,SqL.of e2,?_⟩
   have:((ts.map fun t=>isBt (.int t) 1 9).all id)=false:=by
    obtain ⟨t,ht,no⟩:=to;rw [List.all_eq_false];refine ⟨isBt (.int t) 1 9,n42_.mpr ⟨t,ht,rfl⟩,fun z=>no ?_⟩;have z':(decide (1≤t)&&decide (t≤9))=true:=z;exact ⟨n31_ (n47_.mp z').1,n31_ (n47_.mp z').2⟩
   rw [this];exact q _ s2
abbrev Zd9:Stmt:=top 57
theorem Zh6 (F:Fun K "is_stuff" "is_stuff" Zd9 f fd) (Cl_:a26_ P w K mg base) (Cc_:a5_ P w K mg base):FnOk P w K mg base CX0 3 f fd ["thing"] Zie:=by
 have sc:FnScope ["thing"] ["thing"] (Zg Zd9):=fsc (by decide +kernel);refine F.ok sc (fun vs H Q E h=>by obtain ⟨v,l,m,rfl,_⟩:=h;rfl) fun cdv A outer s H vs Q E hr h=>?_;obtain ⟨v,l,m,rfl,⟨b,rfl,hb⟩,bl,bm,no,q⟩:=h;refine' ⟨_,?term,?read⟩
 case term=>refine' @Ze _ _ _ _ _ ?g1 ?g2;(case g1=>refine' @Zy _ _ _ _ _ _ _ _ ?g3 (Zf (Zl Z2)) Zp;case g3=>refine' @Zq _ _ _ _ ?g4;case g4=>refine' @Zk _ _ _ (Zi Cc_ hr (by decide) rfl (Za (pv 0) (Za Zd (Za Zd Zb rfl) rfl) rfl)) (fun _=>rfl));case g2=>refine' @Zf _ _ _ ?g5;case g5=>refine' @Zl _ _ _ _ ?g6;case g6=>refine' @Y3 _ _ _ _ _ _ _ ?g7 ?g8;(case g7=>refine' @Zi _ _ _ _ _ _ _ _ _ _ _ Cl_ hr (by decide) rfl ?g9 (by decide) (by rfl) (by rfl);case g9=>refine' @Za _ _ _ _ _ ?ga (Za Zd (Za (Yw T.n_MOST_STUFF rfl) Zb rfl) rfl) rfl;case ga=>refine' @Z3 _ _ _ _ _ _ _ Yc (pv 0) Zd (fun _ _=>rfl));case g8=>refine' @Yy _ _ _ _ _ ?gb;case gb=>refine' @Zi _ _ _ _ _ _ _ _ _ _ _ Cl_ hr (by decide) rfl ?gc (by decide) (by rfl) (by rfl);case gc=>refine' @Za _ _ _ _ _ ?gd (Za Zd (Za (Yw T.n_MOST_STUFF rfl) Zb rfl) rfl) rfl;case gd=>refine' @Z3 _ _ _ _ _ _ _ Yc (pv 0) Zd (fun _ _=>rfl)
 refine ⟨_,rfl,b,_,2,2,rfl,hb,by simp,by simp,true,rfl,iteF ?_⟩;refine ⟨_,rfl,b,_,0,_,rfl,rfl,SqT.of hb,rfl,(fun _=>False),64,V.int l,.int l,0,9,rfl,.int (n52_ bl (by decide)),isBt (.int l) 0 9,rfl,?_⟩;cases e:isBt (.int l) 0 9 with
 | false=>exact iteF q
 | true =>
   refine iteT ⟨_,rfl,b,_,1,_,rfl,rfl,SqT.of hb,rfl,(fun _=>False),64,V.int m,.int m,1,9,rfl,.int (n52_ bm (by decide)),?_⟩;have e':(decide (0≤l)&&decide (l≤9))=true:=e;have l9:0≤l∧l≤9:=⟨n31_ (n47_.mp e').1,n31_ (n47_.mp e').2⟩
   have:isBt (.int m) 1 9=false:=Bool.eq_false_iff.mpr fun z=>by
    have z':(decide (1≤m)&&decide (m≤9))=true:=z;exact no ⟨l9,n31_ (n47_.mp z').1,n31_ (n47_.mp z').2⟩
   rw [this];exact q
abbrev Xc:Stmt:=top 63
theorem Zae (F:Fun K "every_corner_is_used" "every_corner_is_used" Xc f fd):FnOk P w K mg base CX0 2 f fd ["corners","pieces"] Zj4:=by
 have sc:FnScope ["corners","pieces"] ["corners","pieces"] (Zg Xc):=fsc (by decide +kernel);refine F.ok sc (fun vs H Q E h=>by obtain ⟨u,v,cs,ps,rfl,_⟩:=h;rfl) fun cdv A outer s H vs Q E hr h=>?_;obtain ⟨u,v,cs,ps,rfl,⟨a,us,rfl,ha,al⟩,⟨b,ws,rfl,hb,bl⟩,h3,p40,cnt,c30,q⟩:=h;refine' ⟨_,?term,?read⟩
 case term=>refine' @Zf _ _ _ ?g1;case g1=>refine' @Zl _ _ _ _ ?g2;case g2=>refine' @Yx _ _ _ _ _ _ _ _ Zco ?g3 (Zh Zn rfl T.b_len Z8 (Za (pv 0) Zb rfl)) (Zx _);case g3=>refine' @Zh _ _ _ _ _ _ _ _ _ Zg2 rfl T.b_len Z8 ?g4 (by decide) (by decide) (by rfl) (by rfl);case g4=>refine' @Za _ _ _ _ _ ?g5 Zb rfl;case g5=>refine' @Zpv _ _ _ _ _ _ _ _ (["piece","number"]) ([none,none]) _ _ _ _ _ _ rfl (Z7 (by decide) rfl (by decide) rfl rfl) (Yq (pv 1)) (fun _ _ _ _=>pgB 0) (fun _ _ _ _=>Zi0 K rfl (pv 0)) (fun _ _ _ _=>pgB 1) (fun _ _ _ _=>pv 1) (by intro _ ;rfl) (by intro _ _ ;rfl)
 have hl:=al.1
 have fl:∀ l:List (List Int),(∀ p∈l,p.length=3)→l.flatten.length=3*l.length:=by
  intro l
  induction l with
  | nil=>intro _;rfl
  | cons x l ih =>
    intro h;rw [List.flatten_cons,n25_,ih fun p hp=>h p (n18_ _ hp),h x n34_,n16_];omega
 refine ⟨_,rfl,b,rfl,⟨_,SqT.of hb⟩,fun D nD=>?_⟩;refine Zng hb bl (by rw [fl ps h3];omega) nD (fun S=>?_);have s1:Same H (upd H D (.set S (cntS ps.flatten))):=Same.new nD;refine ⟨D,S,_,rfl,Zc,_,rfl,a,us,rfl,.inr (SqT.of (s1 _ _ ha)),rfl,?_⟩;have e:¬ V.int (cntS ps.flatten:Nat)=V.int us.length:=fun z=>cnt (by have:=V.int.inj z;omega);rw [n8_ e];exact q _ s1
abbrev Zc0:Stmt:=top 66
theorem Zf0 (F:Fun K "is_plate" "is_plate" Zc0 f fd) (Ce_:a18_ P w K mg base) (Cf_:a19_ P w K mg base) (Cg_:a20_ P w K mg base) (Ca_:a21_ P w K mg base) (Cb_:a22_ P w K mg base) (Ck_:a24_ P w K mg base) (Ch_:a23_ P w K mg base):FnOk P w K mg base CX0 5 f fd ["thing"] (Xk K 0):=by
 have sc:FnScope ["thing","corners","pieces","thicks","stuff"] ["thing"] (Zg Zc0):=fsc (by decide +kernel);refine F.ok sc (fun vs H Q E h=>by obtain ⟨v,rfl,_⟩:=h;rfl) fun cdv A outer s H vs Q E hr h=>?_;obtain ⟨v,rfl,bb,q⟩:=h;have nd:=sc.nd;refine' ⟨_,?term,?read⟩
 case term=>refine' @Ze _ _ _ _ _ ?g1 ?g2;(case g1=>refine' @Zy _ _ _ _ _ _ _ _ ?g3 (Zf (Zl Z2)) Zp;case g3=>refine' @Zq _ _ _ _ ?g4;case g4=>refine' @Zk _ _ _ (Zi Ck_ hr (by decide) rfl (Za (pv 0) (Za Zd (Za Zd Zb rfl) rfl) rfl)) (fun _=>rfl));case g2=>refine' @Ze _ _ _ _ _ ?g5 ?g6;(case g5=>refine' @Y8 _ _ _ _ _ _ (pv 0) ?g7 (by rfl) (by rfl) (by rfl);case g7=>refine' @Yu _ _ _ _ _ (4) rfl (Zm (Zo (i:=1) nd rfl (Or.inl rfl)) (Zm (Zo (i:=2) nd rfl (Or.inl rfl)) (Zm (Zo (i:=3) nd rfl (Or.inl rfl)) (Zm (Zo (i:=4) nd rfl (Or.inl rfl)) Yb)))) (by rfl) (by rfl));case g6=>refine' @Ze _ _ _ _ _ ?g8 ?g9;(case g8=>refine' @Zy _ _ _ _ _ _ _ _ ?ga (Zf (Zl Z2)) Zp;case ga=>refine' @PW.pt _ _ _ ?gb;case gb=>refine' @Ys _ _ _ _ _ _ _ ?gc ?gd;(case gc=>refine' @Zq _ _ _ _ ?ge;case ge=>refine' @Zk _ _ _ (Zi Ce_ hr (by decide) rfl (Za (pv 1) Zb rfl)) (fun _=>rfl));case gd=>refine' @Z6 _ _ _ _ ?gf;case gf=>refine' @Zq _ _ _ _ ?gg;case gg=>refine' @Zk _ _ _ (Zi Cf_ hr (by decide) rfl (Za (pv 1) (Za (pv 2) Zb rfl) rfl)) (fun _=>rfl));case g9=>refine' @Ze _ _ _ _ _ ?gh ?gi;(case gh=>refine' @Zy _ _ _ _ _ _ _ _ ?gj (Zf (Zl Z2)) Zp;case gj=>refine' @PW.pt _ _ _ ?gk;case gk=>refine' @Ys _ _ _ _ _ _ _ ?gl ?gm;(case gl=>refine' @Zq _ _ _ _ ?gn;case gn=>refine' @Zk _ _ _ (Zi Cg_ hr (by decide) rfl (Za (pv 2) (Za (pv 3) Zb rfl) rfl)) (fun _=>rfl));case gm=>refine' @Z6 _ _ _ _ ?go;case go=>refine' @Zq _ _ _ _ ?gp;case gp=>refine' @Zk _ _ _ (Zi Ch_ hr (by decide) rfl (Za (pv 4) Zb rfl)) (fun _=>rfl));case gi=>refine' @Zf _ _ _ ?gq;case gq=>refine' @Zl _ _ _ _ ?gr;case gr=>refine' @Y3 _ _ _ _ _ _ _ (Zi Ca_ hr (by decide) rfl (Za (pv 1) (Za (pv 2) Zb rfl) rfl)) (Yy (Zi Cb_ hr (by decide) rfl (Za (pv 1) (Za (pv 2) Zb rfl) rfl)))
 cases bb with
 | row hr' =>
   exact ⟨_,rfl,v,4,4,rfl,hr',false,rfl,iteT (q _ (Same.refl _))⟩
abbrev Zc1:Stmt:=top 66
theorem Zf8 (F:Fun K "is_plate" "is_plate" Zc1 f fd) (Cn_:a27_ P w K mg base) (Cf_:a19_ P w K mg base) (Cg_:a20_ P w K mg base) (Ca_:a21_ P w K mg base) (Cb_:a22_ P w K mg base) (Cc_:a5_ P w K mg base) (Ch_:a23_ P w K mg base):FnOk P w K mg base CX0 5 f fd ["thing"] (Xk K 1):=by
 have sc:FnScope ["thing","corners","pieces","thicks","stuff"] ["thing"] (Zg Zc1):=fsc (by decide +kernel);refine F.ok sc (fun vs H Q E h=>by obtain ⟨v,rfl,_⟩:=h;rfl) fun cdv A outer s H vs Q E hr h=>?_;obtain ⟨v,rfl,bb,q⟩:=h;have nd:=sc.nd;refine' ⟨_,?term,?read⟩
 case term=>refine' @Ze _ _ _ _ _ ?g1 ?g2;(case g1=>refine' @Zy _ _ _ _ _ _ _ _ ?g3 (Zf (Zl Z2)) Zp;case g3=>refine' @Zq _ _ _ _ ?g4;case g4=>refine' @Zk _ _ _ (Zi Cc_ hr (by decide) rfl (Za (pv 0) (Za Zd (Za Zd Zb rfl) rfl) rfl)) (fun _=>rfl));case g2=>refine' @Ze _ _ _ _ _ ?g5 ?g6;(case g5=>refine' @Y8 _ _ _ _ _ _ (pv 0) ?g7 (by rfl) (by rfl) (by rfl);case g7=>refine' @Yu _ _ _ _ _ (4) rfl (Zm (Zo (i:=1) nd rfl (Or.inl rfl)) (Zm (Zo (i:=2) nd rfl (Or.inl rfl)) (Zm (Zo (i:=3) nd rfl (Or.inl rfl)) (Zm (Zo (i:=4) nd rfl (Or.inl rfl)) Yb)))) (by rfl) (by rfl));case g6=>refine' @Ze _ _ _ _ _ ?g8 ?g9;(case g8=>refine' @Zy _ _ _ _ _ _ _ _ ?ga (Zf (Zl Z2)) Zp;case ga=>refine' @PW.pt _ _ _ ?gb;case gb=>refine' @Ys _ _ _ _ _ _ _ ?gc ?gd;(case gc=>refine' @Zq _ _ _ _ ?ge;case ge=>refine' @Zk _ _ _ (Zi Cn_ hr (by decide) rfl (Za (pv 1) Zb rfl)) (fun _=>rfl));case gd=>refine' @Z6 _ _ _ _ ?gf;case gf=>refine' @Zq _ _ _ _ ?gg;case gg=>refine' @Zk _ _ _ (Zi Cf_ hr (by decide) rfl (Za (pv 1) (Za (pv 2) Zb rfl) rfl)) (fun _=>rfl));case g9=>refine' @Ze _ _ _ _ _ ?gh ?gi;(case gh=>refine' @Zy _ _ _ _ _ _ _ _ ?gj (Zf (Zl Z2)) Zp;case gj=>refine' @PW.pt _ _ _ ?gk;case gk=>refine' @Ys _ _ _ _ _ _ _ ?gl ?gm;(case gl=>refine' @Zq _ _ _ _ ?gn;case gn=>refine' @Zk _ _ _ (Zi Cg_ hr (by decide) rfl (Za (pv 2) (Za (pv 3) Zb rfl) rfl)) (fun _=>rfl));case gm=>refine' @Z6 _ _ _ _ ?go;case go=>refine' @Zq _ _ _ _ ?gp;case gp=>refine' @Zk _ _ _ (Zi Ch_ hr (by decide) rfl (Za (pv 4) Zb rfl)) (fun _=>rfl));case gi=>refine' @Zf _ _ _ ?gq;case gq=>refine' @Zl _ _ _ _ ?gr;case gr=>refine' @Y3 _ _ _ _ _ _ _ (Zi Ca_ hr (by decide) rfl (Za (pv 1) (Za (pv 2) Zb rfl) rfl)) (Yy (Zi Cb_ hr (by decide) rfl (Za (pv 1) (Za (pv 2) Zb rfl) rfl)))
 cases bb with
 | @cs a c p t s ha hc =>
   refine ⟨_,rfl,a,_,4,4,rfl,ha,by simp,by simp,true,rfl,iteF ?_⟩;refine ⟨_,rfl,a,_,rfl,SqT.of ha,rfl,c,_,rfl,p,_,rfl,t,_,rfl,s,_,rfl,rfl,?_⟩;exact ⟨_,rfl,c,rfl,hc,false,rfl,iteT (q _ (Same.refl _))⟩
abbrev Zc3:Stmt:=top 66
theorem Zgk (F:Fun K "is_plate" "is_plate" Zc3 f fd) (Ce_:a18_ P w K mg base) (Cq_:a28_ P w K mg base) (Cg_:a20_ P w K mg base) (Ca_:a21_ P w K mg base) (Cb_:a22_ P w K mg base) (Cc_:a5_ P w K mg base) (Ch_:a23_ P w K mg base):FnOk P w K mg base CX0 5 f fd ["thing"] (Xk K 2):=by
 have sc:FnScope ["thing","corners","pieces","thicks","stuff"] ["thing"] (Zg Zc3):=fsc (by decide +kernel);refine F.ok sc (fun vs H Q E h=>by obtain ⟨v,rfl,_⟩:=h;rfl) fun cdv A outer s H vs Q E hr h=>?_;obtain ⟨v,rfl,bb,q⟩:=h;have nd:=sc.nd;refine' ⟨_,?term,?read⟩
 case term=>refine' @Ze _ _ _ _ _ ?g1 ?g2;(case g1=>refine' @Zy _ _ _ _ _ _ _ _ ?g3 (Zf (Zl Z2)) Zp;case g3=>refine' @Zq _ _ _ _ ?g4;case g4=>refine' @Zk _ _ _ (Zi Cc_ hr (by decide) rfl (Za (pv 0) (Za Zd (Za Zd Zb rfl) rfl) rfl)) (fun _=>rfl));case g2=>refine' @Ze _ _ _ _ _ ?g5 ?g6;(case g5=>refine' @Y8 _ _ _ _ _ _ (pv 0) ?g7 (by rfl) (by rfl) (by rfl);case g7=>refine' @Yu _ _ _ _ _ (4) rfl (Zm (Zo (i:=1) nd rfl (Or.inl rfl)) (Zm (Zo (i:=2) nd rfl (Or.inl rfl)) (Zm (Zo (i:=3) nd rfl (Or.inl rfl)) (Zm (Zo (i:=4) nd rfl (Or.inl rfl)) Yb)))) (by rfl) (by rfl));case g6=>refine' @Ze _ _ _ _ _ ?g8 ?g9;(case g8=>refine' @Zy _ _ _ _ _ _ _ _ ?ga (Zf (Zl Z2)) Zp;case ga=>refine' @PW.pt _ _ _ ?gb;case gb=>refine' @Ys _ _ _ _ _ _ _ ?gc ?gd;(case gc=>refine' @Zq _ _ _ _ ?ge;case ge=>refine' @Zk _ _ _ (Zi Ce_ hr (by decide) rfl (Za (pv 1) Zb rfl)) (fun _=>rfl));case gd=>refine' @Z6 _ _ _ _ ?gf;case gf=>refine' @Zq _ _ _ _ ?gg;case gg=>refine' @Zk _ _ _ (Zi Cq_ hr (by decide) rfl (Za (pv 1) (Za (pv 2) Zb rfl) rfl)) (fun _=>rfl));case g9=>refine' @Ze _ _ _ _ _ ?gh ?gi;(case gh=>refine' @Zy _ _ _ _ _ _ _ _ ?gj (Zf (Zl Z2)) Zp;case gj=>refine' @PW.pt _ _ _ ?gk;case gk=>refine' @Ys _ _ _ _ _ _ _ ?gl ?gm;(case gl=>refine' @Zq _ _ _ _ ?gn;case gn=>refine' @Zk _ _ _ (Zi Cg_ hr (by decide) rfl (Za (pv 2) (Za (pv 3) Zb rfl) rfl)) (fun _=>rfl));case gm=>refine' @Z6 _ _ _ _ ?go;case go=>refine' @Zq _ _ _ _ ?gp;case gp=>refine' @Zk _ _ _ (Zi Ch_ hr (by decide) rfl (Za (pv 4) Zb rfl)) (fun _=>rfl));case gi=>refine' @Zf _ _ _ ?gq;case gq=>refine' @Zl _ _ _ _ ?gr;case gr=>refine' @Y3 _ _ _ _ _ _ _ (Zi Ca_ hr (by decide) rfl (Za (pv 1) (Za (pv 2) Zb rfl) rfl)) (Yy (Zi Cb_ hr (by decide) rfl (Za (pv 1) (Za (pv 2) Zb rfl) rfl)))
 cases bb with
 | @psN a b c t s cs ha hc c3 c30 nr nd' hb =>
   refine ⟨_,rfl,a,_,4,4,rfl,ha,by simp,by simp,true,rfl,iteF ?_⟩;refine ⟨_,rfl,a,_,rfl,SqT.of ha,rfl,c,_,rfl,.ref b,_,rfl,t,_,rfl,s,_,rfl,rfl,?_⟩;refine ⟨_,rfl,c,cs,rfl,hc,c3,c30,nr,nd',fun H1 s1=>⟨true,rfl,iteF ?_⟩⟩;exact ⟨_,rfl,_,rfl,c,b,rfl,s1 _ _ hb,false,rfl,iteT (q _ s1)⟩
abbrev Zcx:Stmt:=top 66
theorem Zgt (F:Fun K "is_plate" "is_plate" Zcx f fd) (Ce_:a18_ P w K mg base) (Cr_:a29_ P w K mg base) (Cg_:a20_ P w K mg base) (Ca_:a21_ P w K mg base) (Cb_:a22_ P w K mg base) (Cc_:a5_ P w K mg base) (Ch_:a23_ P w K mg base):FnOk P w K mg base CX0 5 f fd ["thing"] (Xk K 3):=by
 have sc:FnScope ["thing","corners","pieces","thicks","stuff"] ["thing"] (Zg Zcx):=fsc (by decide +kernel);refine F.ok sc (fun vs H Q E h=>by obtain ⟨v,rfl,_⟩:=h;rfl) fun cdv A outer s H vs Q E hr h=>?_;obtain ⟨v,rfl,bb,q⟩:=h;have nd:=sc.nd;refine' ⟨_,?term,?read⟩
 case term=>refine' @Ze _ _ _ _ _ ?g1 ?g2;(case g1=>refine' @Zy _ _ _ _ _ _ _ _ ?g3 (Zf (Zl Z2)) Zp;case g3=>refine' @Zq _ _ _ _ ?g4;case g4=>refine' @Zk _ _ _ (Zi Cc_ hr (by decide) rfl (Za (pv 0) (Za Zd (Za Zd Zb rfl) rfl) rfl)) (fun _=>rfl));case g2=>refine' @Ze _ _ _ _ _ ?g5 ?g6;(case g5=>refine' @Y8 _ _ _ _ _ _ (pv 0) ?g7 (by rfl) (by rfl) (by rfl);case g7=>refine' @Yu _ _ _ _ _ (4) rfl (Zm (Zo (i:=1) nd rfl (Or.inl rfl)) (Zm (Zo (i:=2) nd rfl (Or.inl rfl)) (Zm (Zo (i:=3) nd rfl (Or.inl rfl)) (Zm (Zo (i:=4) nd rfl (Or.inl rfl)) Yb)))) (by rfl) (by rfl));case g6=>refine' @Ze _ _ _ _ _ ?g8 ?g9;(case g8=>refine' @Zy _ _ _ _ _ _ _ _ ?ga (Zf (Zl Z2)) Zp;case ga=>refine' @PW.pt _ _ _ ?gb;case gb=>refine' @Ys _ _ _ _ _ _ _ ?gc ?gd;(case gc=>refine' @Zq _ _ _ _ ?ge;case ge=>refine' @Zk _ _ _ (Zi Ce_ hr (by decide) rfl (Za (pv 1) Zb rfl)) (fun _=>rfl));case gd=>refine' @Z6 _ _ _ _ ?gf;case gf=>refine' @Zq _ _ _ _ ?gg;case gg=>refine' @Zk _ _ _ (Zi Cr_ hr (by decide) rfl (Za (pv 1) (Za (pv 2) Zb rfl) rfl)) (fun _=>rfl));case g9=>refine' @Ze _ _ _ _ _ ?gh ?gi;(case gh=>refine' @Zy _ _ _ _ _ _ _ _ ?gj (Zf (Zl Z2)) Zp;case gj=>refine' @PW.pt _ _ _ ?gk;case gk=>refine' @Ys _ _ _ _ _ _ _ ?gl ?gm;(case gl=>refine' @Zq _ _ _ _ ?gn;case gn=>refine' @Zk _ _ _ (Zi Cg_ hr (by decide) rfl (Za (pv 2) (Za (pv 3) Zb rfl) rfl)) (fun _=>rfl));case gm=>refine' @Z6 _ _ _ _ ?go;case go=>refine' @Zq _ _ _ _ ?gp;case gp=>refine' @Zk _ _ _ (Zi Ch_ hr (by decide) rfl (Za (pv 4) Zb rfl)) (fun _=>rfl));case gi=>refine' @Zf _ _ _ ?gq;case gq=>refine' @Zl _ _ _ _ ?gr;case gr=>refine' @Y3 _ _ _ _ _ _ _ (Zi Ca_ hr (by decide) rfl (Za (pv 1) (Za (pv 2) Zb rfl) rfl)) (Yy (Zi Cb_ hr (by decide) rfl (Za (pv 1) (Za (pv 2) Zb rfl) rfl)))
 cases bb with
 | @psR a c p t s cs ps ha hc c3 c30 nr nd' hp p1 p40 pc rf =>
   refine ⟨_,rfl,a,_,4,4,rfl,ha,by simp,by simp,true,rfl,iteF ?_⟩;refine ⟨_,rfl,a,_,rfl,SqT.of ha,rfl,c,_,rfl,p,_,rfl,t,_,rfl,s,_,rfl,rfl,?_⟩;refine ⟨_,rfl,c,cs,rfl,hc,c3,c30,nr,nd',fun H1 s1=>⟨true,rfl,iteF ?_⟩⟩;exact ⟨_,rfl,_,rfl,c,p,cs,ps,rfl,hc.tk s1.tk,hp.tk s1.tk,p1,p40,pc,rf,nr,fun H2 s2=>⟨false,rfl,iteT (q _ (s1.trans s2))⟩⟩
abbrev Zcy:Stmt:=top 66
theorem Zgl (F:Fun K "is_plate" "is_plate" Zcy f fd) (Ce_:a18_ P w K mg base) (Cf_:a19_ P w K mg base) (Cs_:a30_ P w K mg base) (Ca_:a21_ P w K mg base) (Cb_:a22_ P w K mg base) (Cc_:a5_ P w K mg base) (Ch_:a23_ P w K mg base):FnOk P w K mg base CX0 5 f fd ["thing"] (Xk K 4):=by
 have sc:FnScope ["thing","corners","pieces","thicks","stuff"] ["thing"] (Zg Zcy):=fsc (by decide +kernel);refine F.ok sc (fun vs H Q E h=>by obtain ⟨v,rfl,_⟩:=h;rfl) fun cdv A outer s H vs Q E hr h=>?_;obtain ⟨v,rfl,bb,q⟩:=h;have nd:=sc.nd;refine' ⟨_,?term,?read⟩
 case term=>refine' @Ze _ _ _ _ _ ?g1 ?g2;(case g1=>refine' @Zy _ _ _ _ _ _ _ _ ?g3 (Zf (Zl Z2)) Zp;case g3=>refine' @Zq _ _ _ _ ?g4;case g4=>refine' @Zk _ _ _ (Zi Cc_ hr (by decide) rfl (Za (pv 0) (Za Zd (Za Zd Zb rfl) rfl) rfl)) (fun _=>rfl));case g2=>refine' @Ze _ _ _ _ _ ?g5 ?g6;(case g5=>refine' @Y8 _ _ _ _ _ _ (pv 0) ?g7 (by rfl) (by rfl) (by rfl);case g7=>refine' @Yu _ _ _ _ _ (4) rfl (Zm (Zo (i:=1) nd rfl (Or.inl rfl)) (Zm (Zo (i:=2) nd rfl (Or.inl rfl)) (Zm (Zo (i:=3) nd rfl (Or.inl rfl)) (Zm (Zo (i:=4) nd rfl (Or.inl rfl)) Yb)))) (by rfl) (by rfl));case g6=>refine' @Ze _ _ _ _ _ ?g8 ?g9;(case g8=>refine' @Zy _ _ _ _ _ _ _ _ ?ga (Zf (Zl Z2)) Zp;case ga=>refine' @PW.pt _ _ _ ?gb;case gb=>refine' @Ys _ _ _ _ _ _ _ ?gc ?gd;(case gc=>refine' @Zq _ _ _ _ ?ge;case ge=>refine' @Zk _ _ _ (Zi Ce_ hr (by decide) rfl (Za (pv 1) Zb rfl)) (fun _=>rfl));case gd=>refine' @Z6 _ _ _ _ ?gf;case gf=>refine' @Zq _ _ _ _ ?gg;case gg=>refine' @Zk _ _ _ (Zi Cf_ hr (by decide) rfl (Za (pv 1) (Za (pv 2) Zb rfl) rfl)) (fun _=>rfl));case g9=>refine' @Ze _ _ _ _ _ ?gh ?gi;(case gh=>refine' @Zy _ _ _ _ _ _ _ _ ?gj (Zf (Zl Z2)) Zp;case gj=>refine' @PW.pt _ _ _ ?gk;case gk=>refine' @Ys _ _ _ _ _ _ _ ?gl ?gm;(case gl=>refine' @Zq _ _ _ _ ?gn;case gn=>refine' @Zk _ _ _ (Zi Cs_ hr (by decide) rfl (Za (pv 2) (Za (pv 3) Zb rfl) rfl)) (fun _=>rfl));case gm=>refine' @Z6 _ _ _ _ ?go;case go=>refine' @Zq _ _ _ _ ?gp;case gp=>refine' @Zk _ _ _ (Zi Ch_ hr (by decide) rfl (Za (pv 4) Zb rfl)) (fun _=>rfl));case gi=>refine' @Zf _ _ _ ?gq;case gq=>refine' @Zl _ _ _ _ ?gr;case gr=>refine' @Y3 _ _ _ _ _ _ _ (Zi Ca_ hr (by decide) rfl (Za (pv 1) (Za (pv 2) Zb rfl) rfl)) (Yy (Zi Cb_ hr (by decide) rfl (Za (pv 1) (Za (pv 2) Zb rfl) rfl)))
 cases bb with
 | @tsN a b c p s cs ps us ha hc c3 c30 nr nd' hp p1 p40 pc rise hb hl =>
   refine ⟨_,rfl,a,_,4,4,rfl,ha,by simp,by simp,true,rfl,iteF ?_⟩;refine ⟨_,rfl,a,_,rfl,SqT.of ha,rfl,c,_,rfl,p,_,rfl,.ref b,_,rfl,s,_,rfl,rfl,?_⟩;refine ⟨_,rfl,c,cs,rfl,hc,c3,c30,nr,nd',fun H1 s1=>⟨true,rfl,iteF ?_⟩⟩;refine ⟨_,rfl,_,rfl,c,p,cs,ps,rfl,hc.tk s1.tk,hp.tk s1.tk,p1,p40,pc,rise,nr,fun H2 s2=>⟨true,rfl,iteF ?_⟩⟩;have s12:=s1.trans s2;exact ⟨_,rfl,_,rfl,p,b,ps,us,rfl,hp.tk s12.tk,s12 _ _ hb,hl,false,rfl,iteT (q _ s12)⟩
abbrev Zcw:Stmt:=top 66
theorem Zgo (F:Fun K "is_plate" "is_plate" Zcw f fd) (Ce_:a18_ P w K mg base) (Cf_:a19_ P w K mg base) (Ct_:a31_ P w K mg base) (Ca_:a21_ P w K mg base) (Cb_:a22_ P w K mg base) (Cc_:a5_ P w K mg base) (Ch_:a23_ P w K mg base):FnOk P w K mg base CX0 5 f fd ["thing"] (Xk K 5):=by
 have sc:FnScope ["thing","corners","pieces","thicks","stuff"] ["thing"] (Zg Zcw):=fsc (by decide +kernel);refine F.ok sc (fun vs H Q E h=>by obtain ⟨v,rfl,_⟩:=h;rfl) fun cdv A outer s H vs Q E hr h=>?_;obtain ⟨v,rfl,bb,q⟩:=h;have nd:=sc.nd;refine' ⟨_,?term,?read⟩
 case term=>refine' @Ze _ _ _ _ _ ?g1 ?g2;(case g1=>refine' @Zy _ _ _ _ _ _ _ _ ?g3 (Zf (Zl Z2)) Zp;case g3=>refine' @Zq _ _ _ _ ?g4;case g4=>refine' @Zk _ _ _ (Zi Cc_ hr (by decide) rfl (Za (pv 0) (Za Zd (Za Zd Zb rfl) rfl) rfl)) (fun _=>rfl));case g2=>refine' @Ze _ _ _ _ _ ?g5 ?g6;(case g5=>refine' @Y8 _ _ _ _ _ _ (pv 0) ?g7 (by rfl) (by rfl) (by rfl);case g7=>refine' @Yu _ _ _ _ _ (4) rfl (Zm (Zo (i:=1) nd rfl (Or.inl rfl)) (Zm (Zo (i:=2) nd rfl (Or.inl rfl)) (Zm (Zo (i:=3) nd rfl (Or.inl rfl)) (Zm (Zo (i:=4) nd rfl (Or.inl rfl)) Yb)))) (by rfl) (by rfl));case g6=>refine' @Ze _ _ _ _ _ ?g8 ?g9;(case g8=>refine' @Zy _ _ _ _ _ _ _ _ ?ga (Zf (Zl Z2)) Zp;case ga=>refine' @PW.pt _ _ _ ?gb;case gb=>refine' @Ys _ _ _ _ _ _ _ ?gc ?gd;(case gc=>refine' @Zq _ _ _ _ ?ge;case ge=>refine' @Zk _ _ _ (Zi Ce_ hr (by decide) rfl (Za (pv 1) Zb rfl)) (fun _=>rfl));case gd=>refine' @Z6 _ _ _ _ ?gf;case gf=>refine' @Zq _ _ _ _ ?gg;case gg=>refine' @Zk _ _ _ (Zi Cf_ hr (by decide) rfl (Za (pv 1) (Za (pv 2) Zb rfl) rfl)) (fun _=>rfl));case g9=>refine' @Ze _ _ _ _ _ ?gh ?gi;(case gh=>refine' @Zy _ _ _ _ _ _ _ _ ?gj (Zf (Zl Z2)) Zp;case gj=>refine' @PW.pt _ _ _ ?gk;case gk=>refine' @Ys _ _ _ _ _ _ _ ?gl ?gm;(case gl=>refine' @Zq _ _ _ _ ?gn;case gn=>refine' @Zk _ _ _ (Zi Ct_ hr (by decide) rfl (Za (pv 2) (Za (pv 3) Zb rfl) rfl)) (fun _=>rfl));case gm=>refine' @Z6 _ _ _ _ ?go;case go=>refine' @Zq _ _ _ _ ?gp;case gp=>refine' @Zk _ _ _ (Zi Ch_ hr (by decide) rfl (Za (pv 4) Zb rfl)) (fun _=>rfl));case gi=>refine' @Zf _ _ _ ?gq;case gq=>refine' @Zl _ _ _ _ ?gr;case gr=>refine' @Y3 _ _ _ _ _ _ _ (Zi Ca_ hr (by decide) rfl (Za (pv 1) (Za (pv 2) Zb rfl) rfl)) (Yy (Zi Cb_ hr (by decide) rfl (Za (pv 1) (Za (pv 2) Zb rfl) rfl)))
 cases bb with
 | @tsO a c p t s cs ps ts ha hc c3 c30 nr nd' hp p1 p40 pc rise ht tl tb to =>
   refine ⟨_,rfl,a,_,4,4,rfl,ha,by simp,by simp,true,rfl,iteF ?_⟩;refine ⟨_,rfl,a,_,rfl,SqT.of ha,rfl,c,_,rfl,p,_,rfl,t,_,rfl,s,_,rfl,rfl,?_⟩;refine ⟨_,rfl,c,cs,rfl,hc,c3,c30,nr,nd',fun H1 s1=>⟨true,rfl,iteF ?_⟩⟩;refine ⟨_,rfl,_,rfl,c,p,cs,ps,rfl,hc.tk s1.tk,hp.tk s1.tk,p1,p40,pc,rise,nr,fun H2 s2=>⟨true,rfl,iteF ?_⟩⟩;have s12:=s1.trans s2;exact ⟨_,rfl,_,rfl,p,t,ps,ts,rfl,hp.tk s12.tk,ht.tk s12.tk,tl,p40,tb,to,fun H3 s3=>⟨false,rfl,iteT (q _ (s12.trans s3))⟩⟩
abbrev Zc7:Stmt:=top 66
theorem Zgc (F:Fun K "is_plate" "is_plate" Zc7 f fd) (Ce_:a18_ P w K mg base) (Cf_:a19_ P w K mg base) (Cg_:a20_ P w K mg base) (Ca_:a21_ P w K mg base) (Cb_:a22_ P w K mg base) (Cc_:a5_ P w K mg base) (Cy_:a32_ P w K mg base):FnOk P w K mg base CX0 5 f fd ["thing"] (Xk K 6):=by
 have sc:FnScope ["thing","corners","pieces","thicks","stuff"] ["thing"] (Zg Zc7):=fsc (by decide +kernel);refine F.ok sc (fun vs H Q E h=>by obtain ⟨v,rfl,_⟩:=h;rfl) fun cdv A outer s H vs Q E hr h=>?_;obtain ⟨v,rfl,bb,q⟩:=h;have nd:=sc.nd;refine' ⟨_,?term,?read⟩
 case term=>refine' @Ze _ _ _ _ _ ?g1 ?g2;(case g1=>refine' @Zy _ _ _ _ _ _ _ _ ?g3 (Zf (Zl Z2)) Zp;case g3=>refine' @Zq _ _ _ _ ?g4;case g4=>refine' @Zk _ _ _ (Zi Cc_ hr (by decide) rfl (Za (pv 0) (Za Zd (Za Zd Zb rfl) rfl) rfl)) (fun _=>rfl));case g2=>refine' @Ze _ _ _ _ _ ?g5 ?g6;(case g5=>refine' @Y8 _ _ _ _ _ _ (pv 0) ?g7 (by rfl) (by rfl) (by rfl);case g7=>refine' @Yu _ _ _ _ _ (4) rfl (Zm (Zo (i:=1) nd rfl (Or.inl rfl)) (Zm (Zo (i:=2) nd rfl (Or.inl rfl)) (Zm (Zo (i:=3) nd rfl (Or.inl rfl)) (Zm (Zo (i:=4) nd rfl (Or.inl rfl)) Yb)))) (by rfl) (by rfl));case g6=>refine' @Ze _ _ _ _ _ ?g8 ?g9;(case g8=>refine' @Zy _ _ _ _ _ _ _ _ ?ga (Zf (Zl Z2)) Zp;case ga=>refine' @PW.pt _ _ _ ?gb;case gb=>refine' @Ys _ _ _ _ _ _ _ ?gc ?gd;(case gc=>refine' @Zq _ _ _ _ ?ge;case ge=>refine' @Zk _ _ _ (Zi Ce_ hr (by decide) rfl (Za (pv 1) Zb rfl)) (fun _=>rfl));case gd=>refine' @Z6 _ _ _ _ ?gf;case gf=>refine' @Zq _ _ _ _ ?gg;case gg=>refine' @Zk _ _ _ (Zi Cf_ hr (by decide) rfl (Za (pv 1) (Za (pv 2) Zb rfl) rfl)) (fun _=>rfl));case g9=>refine' @Ze _ _ _ _ _ ?gh ?gi;(case gh=>refine' @Zy _ _ _ _ _ _ _ _ ?gj (Zf (Zl Z2)) Zp;case gj=>refine' @PW.pt _ _ _ ?gk;case gk=>refine' @Ys _ _ _ _ _ _ _ ?gl ?gm;(case gl=>refine' @Zq _ _ _ _ ?gn;case gn=>refine' @Zk _ _ _ (Zi Cg_ hr (by decide) rfl (Za (pv 2) (Za (pv 3) Zb rfl) rfl)) (fun _=>rfl));case gm=>refine' @Z6 _ _ _ _ ?go;case go=>refine' @Zq _ _ _ _ ?gp;case gp=>refine' @Zk _ _ _ (Zi Cy_ hr (by decide) rfl (Za (pv 4) Zb rfl)) (fun _=>rfl));case gi=>refine' @Zf _ _ _ ?gq;case gq=>refine' @Zl _ _ _ _ ?gr;case gr=>refine' @Y3 _ _ _ _ _ _ _ (Zi Ca_ hr (by decide) rfl (Za (pv 1) (Za (pv 2) Zb rfl) rfl)) (Yy (Zi Cb_ hr (by decide) rfl (Za (pv 1) (Za (pv 2) Zb rfl) rfl)))
 cases bb with
 | @st a c p t s cs ps ts l m ha hc c3 c30 nr nd' hp p1 p40 pc rise ht tl t9 hs bl bm no =>
   refine ⟨_,rfl,a,_,4,4,rfl,ha,by simp,by simp,true,rfl,iteF ?_⟩;refine ⟨_,rfl,a,_,rfl,SqT.of ha,rfl,c,_,rfl,p,_,rfl,t,_,rfl,s,_,rfl,rfl,?_⟩;refine ⟨_,rfl,c,cs,rfl,hc,c3,c30,nr,nd',fun H1 s1=>⟨true,rfl,iteF ?_⟩⟩;refine ⟨_,rfl,_,rfl,c,p,cs,ps,rfl,hc.tk s1.tk,hp.tk s1.tk,p1,p40,pc,rise,nr,fun H2 s2=>⟨true,rfl,iteF ?_⟩⟩;have s12:=s1.trans s2;refine ⟨_,rfl,_,rfl,p,t,ps,ts,rfl,hp.tk s12.tk,ht.tk s12.tk,tl,p40,t9,fun H3 s3=>⟨true,rfl,iteF ?_⟩⟩;have s13:=s12.trans s3;exact ⟨_,rfl,s,l,m,rfl,hs.tk s13.tk,bl,bm,no,false,rfl,iteT (q _ s13)⟩
abbrev Zc4:Stmt:=top 66
theorem Zf4 (F:Fun K "is_plate" "is_plate" Zc4 f fd) (Ce_:a18_ P w K mg base) (Cf_:a19_ P w K mg base) (Cg_:a20_ P w K mg base) (Cj_:a33_ P w K mg base) (Cb_:a22_ P w K mg base) (Cc_:a5_ P w K mg base) (Ch_:a23_ P w K mg base):FnOk P w K mg base CX0 5 f fd ["thing"] (Xk K 7):=by
 have sc:FnScope ["thing","corners","pieces","thicks","stuff"] ["thing"] (Zg Zc4):=fsc (by decide +kernel);refine F.ok sc (fun vs H Q E h=>by obtain ⟨v,rfl,_⟩:=h;rfl) fun cdv A outer s H vs Q E hr h=>?_;obtain ⟨v,rfl,bb,q⟩:=h;have nd:=sc.nd;refine' ⟨_,?term,?read⟩
 case term=>refine' @Ze _ _ _ _ _ ?g1 ?g2;(case g1=>refine' @Zy _ _ _ _ _ _ _ _ ?g3 (Zf (Zl Z2)) Zp;case g3=>refine' @Zq _ _ _ _ ?g4;case g4=>refine' @Zk _ _ _ (Zi Cc_ hr (by decide) rfl (Za (pv 0) (Za Zd (Za Zd Zb rfl) rfl) rfl)) (fun _=>rfl));case g2=>refine' @Ze _ _ _ _ _ ?g5 ?g6;(case g5=>refine' @Y8 _ _ _ _ _ _ (pv 0) ?g7 (by rfl) (by rfl) (by rfl);case g7=>refine' @Yu _ _ _ _ _ (4) rfl (Zm (Zo (i:=1) nd rfl (Or.inl rfl)) (Zm (Zo (i:=2) nd rfl (Or.inl rfl)) (Zm (Zo (i:=3) nd rfl (Or.inl rfl)) (Zm (Zo (i:=4) nd rfl (Or.inl rfl)) Yb)))) (by rfl) (by rfl));case g6=>refine' @Ze _ _ _ _ _ ?g8 ?g9;(case g8=>refine' @Zy _ _ _ _ _ _ _ _ ?ga (Zf (Zl Z2)) Zp;case ga=>refine' @PW.pt _ _ _ ?gb;case gb=>refine' @Ys _ _ _ _ _ _ _ ?gc ?gd;(case gc=>refine' @Zq _ _ _ _ ?ge;case ge=>refine' @Zk _ _ _ (Zi Ce_ hr (by decide) rfl (Za (pv 1) Zb rfl)) (fun _=>rfl));case gd=>refine' @Z6 _ _ _ _ ?gf;case gf=>refine' @Zq _ _ _ _ ?gg;case gg=>refine' @Zk _ _ _ (Zi Cf_ hr (by decide) rfl (Za (pv 1) (Za (pv 2) Zb rfl) rfl)) (fun _=>rfl));case g9=>refine' @Ze _ _ _ _ _ ?gh ?gi;(case gh=>refine' @Zy _ _ _ _ _ _ _ _ ?gj (Zf (Zl Z2)) Zp;case gj=>refine' @PW.pt _ _ _ ?gk;case gk=>refine' @Ys _ _ _ _ _ _ _ ?gl ?gm;(case gl=>refine' @Zq _ _ _ _ ?gn;case gn=>refine' @Zk _ _ _ (Zi Cg_ hr (by decide) rfl (Za (pv 2) (Za (pv 3) Zb rfl) rfl)) (fun _=>rfl));case gm=>refine' @Z6 _ _ _ _ ?go;case go=>refine' @Zq _ _ _ _ ?gp;case gp=>refine' @Zk _ _ _ (Zi Ch_ hr (by decide) rfl (Za (pv 4) Zb rfl)) (fun _=>rfl));case gi=>refine' @Zf _ _ _ ?gq;case gq=>refine' @Zl _ _ _ _ ?gr;case gr=>refine' @Y3 _ _ _ _ _ _ _ (Zi Cj_ hr (by decide) rfl (Za (pv 1) (Za (pv 2) Zb rfl) rfl)) (Yy (Zi Cb_ hr (by decide) rfl (Za (pv 1) (Za (pv 2) Zb rfl) rfl)))
 cases bb with
 | @us a c p t s cs ps ts l m ha hc c3 c30 nr nd' hp p1 p40 pc rise ht tl t9 hs l9 m9 un =>
   refine ⟨_,rfl,a,_,4,4,rfl,ha,by simp,by simp,true,rfl,iteF ?_⟩;refine ⟨_,rfl,a,_,rfl,SqT.of ha,rfl,c,_,rfl,p,_,rfl,t,_,rfl,s,_,rfl,rfl,?_⟩;refine ⟨_,rfl,c,cs,rfl,hc,c3,c30,nr,nd',fun H1 s1=>⟨true,rfl,iteF ?_⟩⟩;refine ⟨_,rfl,_,rfl,c,p,cs,ps,rfl,hc.tk s1.tk,hp.tk s1.tk,p1,p40,pc,rise,nr,fun H2 s2=>⟨true,rfl,iteF ?_⟩⟩;have s12:=s1.trans s2;refine ⟨_,rfl,_,rfl,p,t,ps,ts,rfl,hp.tk s12.tk,ht.tk s12.tk,tl,p40,t9,fun H3 s3=>⟨true,rfl,iteF ?_⟩⟩;have s13:=s12.trans s3;refine ⟨_,rfl,s,l,m,rfl,hs.tk s13.tk,l9,m9,true,rfl,iteF ?_⟩;exact ⟨_,rfl,_,rfl,c,p,cs,ps,rfl,hc.tk s13.tk,hp.tk s13.tk,fun x hx=>(pc x hx).len,p40,un,c30,fun H4 s4=>⟨false,rfl,iteF (q _ (s13.trans s4))⟩⟩
abbrev Zim:Stmt:=top 66
theorem Zid (F:Fun K "is_plate" "is_plate" Zim f fd) (Ce_:a18_ P w K mg base) (Cn_:a27_ P w K mg base) (Cf_:a19_ P w K mg base) (Cq_:a28_ P w K mg base) (Cr_:a29_ P w K mg base) (Cg_:a20_ P w K mg base) (Cs_:a30_ P w K mg base) (Ct_:a31_ P w K mg base) (Ca_:a21_ P w K mg base) (Cj_:a33_ P w K mg base) (Cb_:a22_ P w K mg base) (Cc_:a5_ P w K mg base) (Ck_:a24_ P w K mg base) (Ch_:a23_ P w K mg base) (Cy_:a32_ P w K mg base):FnOk P w K mg base CX0 5 f fd ["thing"] (Zbl K):=fnOr (Zd4 T F Ce_ Cf_ Cg_ Ca_ Cb_ Cc_ Ch_) (fnOr (Zf0 T F Ce_ Cf_ Cg_ Ca_ Cb_ Ck_ Ch_) (fnOr (Zf8 T F Cn_ Cf_ Cg_ Ca_ Cb_ Cc_ Ch_) (fnOr (Zgk T F Ce_ Cq_ Cg_ Ca_ Cb_ Cc_ Ch_) (fnOr (Zgt T F Ce_ Cr_ Cg_ Ca_ Cb_ Cc_ Ch_) (fnOr (Zgl T F Ce_ Cf_ Cs_ Ca_ Cb_ Cc_ Ch_) (fnOr (Zgo T F Ce_ Cf_ Ct_ Ca_ Cb_ Cc_ Ch_) (fnOr (Zgc T F Ce_ Cf_ Cg_ Ca_ Cb_ Cc_ Cy_) (Zf4 T F Ce_ Cf_ Cg_ Cj_ Cb_ Cc_ Ch_))))))))
abbrev Xy:Stmt:=top 67
theorem Zdb (F:Fun K "look_at_plate" "look_at_plate" Xy f fd) (Ca3_:a34_ P w K mg base):FnOk P w K mg base CX0 6 f fd ["plate"] Zcu:=by
 have sc:FnScope ["plate"] ["plate"] (Zg Xy):=fsc (by decide +kernel);refine F.ok sc (fun vs H Q E h=>by obtain ⟨v,P',rfl,_⟩:=h;rfl) fun cdv A outer s H vs Q E hr h=>?_;obtain ⟨v,P',rfl,hv,ok,q⟩:=h;refine' ⟨_,?term,?read⟩
 case term=>refine' @Zf _ _ _ ?g1;case g1=>refine' @Zy _ _ _ _ _ _ _ _ ?g2 Zhh Zp;case g2=>refine' @Zq _ _ _ _ ?g3;case g3=>refine' @Zk _ _ _ (Zi Ca3_ hr (by decide) rfl (Za (pv 0) Zb rfl)) (fun _=>rfl)
 exact ⟨_,rfl,v,P',rfl,hv,ok,fun H1 s1=>⟨true,rfl,iteF (q _ s1)⟩⟩
abbrev Zau:Stmt:=top 67
theorem Zcn (F:Fun K "look_at_plate" "look_at_plate" Zau f fd) {cl:Str→Addr} (Z:Ek K mg cl) (Cax_:a35_ P w K mg base):FnOk P w K mg base (CX1 P w) 6 f fd ["plate"] (Zcr K (cl "NoPlate")):=by
 have sc:FnScope ["plate"] ["plate"] (Zg Zau):=fsc (by decide +kernel);refine F.okX sc (fun vs H Q E h=>?_) (fun cdv A outer s H vs Q E hr h=>?_)
 · obtain ⟨v,b,rfl,_⟩:=h;rfl
 · obtain ⟨v,b,rfl,hb,q⟩:=h;refine' ⟨_,?term,?read⟩
   case term=>refine' @Zf _ _ _ ?g1;case g1=>refine' @Zy _ _ _ _ _ _ _ _ ?g2 (Zf (Zoj Zs5 rfl rfl Z.m_NoPlate Z.e_NoPlate)) Zp;case g2=>refine' @Zq _ _ _ _ ?g3;case g3=>refine' @Zk _ _ _ (Zi Cax_ hr (by decide) rfl (Za (pv 0) Zb rfl)) (fun _=>rfl)
   case read =>
    refine ⟨_,rfl,plM hb fun H1 s1=>⟨_,rfl,?_⟩⟩;have q1:=q H1 s1;cases b with
    | true=>rw [if_pos rfl] at q1;exact iteF q1
    | false=>rw [if_neg (by decide)] at q1;exact iteT q1
abbrev Xp:Stmt:=top 39
theorem Zci (F:Fun K "are_fractions" "are_fractions" Xp f fd) (Caq_:a36_ P w K mg base):FnOk P w K mg base CX0 4 f fd ["thing","many"] Zij:=by
 have sc:FnScope ["thing","many"] ["thing","many"] (Zg Xp):=fsc (by decide +kernel);refine F.ok sc (fun vs H Q E h=>by obtain ⟨N,k,v,d,n,rfl,_⟩:=h;rfl) fun cdv A outer s H vs Q E hr h=>?_;obtain ⟨N,k,v,d,n,rfl,h,hk,hz,q⟩:=h;refine' ⟨_,?term,?read⟩
 case term=>refine' @Ze _ _ _ _ _ ?g1 ?g2;(case g1=>refine' @Zy _ _ _ _ _ _ _ _ ?g3 (Zf (Zl Z2)) Zp;case g3=>refine' @PW.pt _ _ _ ?g4;case g4=>refine' @Ys _ _ _ _ _ _ _ ?g5 ?g6;(case g5=>refine' @Zq _ _ _ _ ?g7;case g7=>refine' @Zk _ _ _ (Zh Yn rfl T.b_isinstance Zj (Za (pv 0) (Za (Y1 (v:=.ty "tuple") rfl T.b_tuple Yl rfl) Zb rfl) rfl)) (fun _=>rfl));case g6=>refine' @Z6 _ _ _ _ (Z4 Zgj (Zh Zn rfl T.b_len Z8 (Za (pv 0) Zb rfl)) (pv 1) (Zx _)));case g2=>refine' @Zf _ _ _ ?g8;case g8=>refine' @Zl _ _ _ _ ?g9;case g9=>refine' @Zh _ _ _ _ _ _ _ _ _ (Z1 rfl) rfl T.b_all Xa ?ga (by decide) (by decide) (by rfl) (by rfl);case ga=>refine' @Za _ _ _ _ _ ?gb Zb rfl;case gb=>refine' @Xg _ _ _ _ _ _ _ (["part"]) ([none]) _ _ _ _ _ rfl (Z7 (by decide) rfl (by decide) rfl rfl) (Yq (pv 0)) (fun _ _ _ _=>pgB 0) (fun _ _ _ _=>Zw) (fun _ _ _ _=>Zi Caq_ hr (by decide) rfl (Za (pv 0) Zb rfl)) (by intro _ ;rfl)
 rcases h.isT with ⟨a,us,ds,rfl,rfl,ha,hs⟩|e
 case inr =>
  obtain ⟨t,ty,ki⟩:=h.ty (K:=K);refine ⟨_,rfl,_,_,t,_,rfl,ty,ki,_,rfl,?_⟩;rw [e];rw [Zj0 e] at q;exact iteT (iteT (q _ (Same.refl H)))
 refine ⟨_,rfl,_,_,_,_,rfl,TyOf.tup ha,rfl,true,rfl,iteF ?_⟩;have hl:=hs.len;have hz1:1+Z0 ds≤1000:=hz;have h1000:us.length≤1000:=by have:=Ze6 ds;omega
 refine ⟨_,rfl,a,us,rfl,.inr (SqT.of ha),_,rfl,rfl,_,rfl,?_⟩
 by_cases hn:us.length=n
 case neg =>
  rw [show decide (V.int (us.length:Int)=V.int (n:Nat))=false from n8_ (fun z=>hn (by have:=V.int.inj z;omega))];rw [Zjm (by omega)] at q;exact iteT (q _ (Same.refl H))
 rw [n19_ (show V.int (us.length:Int)=V.int (n:Nat) by rw [hn])];refine iteF ?_;refine ⟨_,rfl,a,rfl,⟨_,SqT.of ha⟩,fun D nD=>?_⟩;refine lc_T (k:=.t) (vs:=us) RB hRB (ds.map isFr) (by simp [hl]) h1000 nD ha (fun i w H2 C hw s2 c=>?_) (fun H2 us' s2 e2 a2=>?_)
 · obtain ⟨dx,ed,hdx⟩:=hs.get hw;have zx:=Zjt ed;exact ⟨_,rfl,N,k,w,dx,rfl,hdx.same s2,hk,c _ _ (isFr dx) (Same.refl _) (by rw [n11_,ed];rfl) rfl⟩
 · rw [a2.bls] at e2;refine ⟨D,ds.map isFr,rfl,SqL.of e2,?_⟩;have z:(ds.map isFr).all id=ds.all isFr:=by rw [List.all_map];rfl
   rw [z];rw [Zka (by omega)] at q;exact q _ s2
abbrev Xb:Stmt:=top 69
theorem Zbs (F:Fun K "are_stresses_of" "are_stresses_of" Xb f fd) (Cah_:a37_ P w K mg base):FnOk P w K mg base CX0 5 f fd ["plate","thing"] Zah:=by
 have sc:FnScope ["plate","thing"] ["plate","thing"] (Zg Xb):=fsc (by decide +kernel);refine F.ok sc (fun vs H Q E h=>by obtain ⟨N,k,u,v,d,P',rfl,_⟩:=h;rfl) fun cdv A outer s H vs Q E hr h=>?_;obtain ⟨N,k,u,v,d,P',rfl,⟨pa,c,p,t,st,rfl,hpa,hc,⟨qa,ws,rfl,hqa,bl⟩,ht,hs'⟩,ok,h,hk,hz,q⟩:=h;refine' ⟨_,?term,?read⟩
 case term=>refine' @Ze _ _ _ _ _ ?g1 ?g2;(case g1=>refine' @Zy _ _ _ _ _ _ _ _ ?g3 (Zf (Zl Z2)) Zp;case g3=>refine' @PW.pt _ _ _ ?g4;case g4=>refine' @Ys _ _ _ _ _ _ _ ?g5 ?g6;(case g5=>refine' @Zq _ _ _ _ ?g7;case g7=>refine' @Zk _ _ _ (Zh Yn rfl T.b_isinstance Zj (Za (pv 1) (Za (Y1 (v:=.ty "tuple") rfl T.b_tuple Yl rfl) Zb rfl) rfl)) (fun _=>rfl));case g6=>refine' @Z6 _ _ _ _ ?g8;case g8=>refine' @Z4 _ _ _ _ _ _ _ _ Zgj (Zh Zn rfl T.b_len Z8 (Za (pv 1) Zb rfl)) ?g9 (Zx _);case g9=>refine' @Zh _ _ _ _ _ _ _ _ _ Zn rfl T.b_len Z8 ?ga (by decide) (by decide) (by rfl) (by rfl);case ga=>refine' @Za _ _ _ _ _ ?gb Zb rfl;case gb=>refine' @Z3 _ _ _ _ _ _ _ Yc (pv 0) Zd (fun _ _=>rfl));case g2=>refine' @Zf _ _ _ ?gc;case gc=>refine' @Zl _ _ _ _ ?gd;case gd=>refine' @Zh _ _ _ _ _ _ _ _ _ (Z1 rfl) rfl T.b_all Xa ?ge (by decide) (by decide) (by rfl) (by rfl);case ge=>refine' @Za _ _ _ _ _ ?gf Zb rfl;case gf=>refine' @Xg _ _ _ _ _ _ _ (["part"]) ([none]) _ _ _ _ _ rfl (Z7 (by decide) rfl (by decide) rfl rfl) (Yq (pv 1)) (fun _ _ _ _=>pgB 0) (fun _ _ _ _=>Zw) (fun _ _ _ _=>Zi Cah_ hr (by decide) rfl (Za (pv 0) (Za Zd Zb rfl) rfl)) (by intro _ ;rfl)
 have bl1:=bl.1;rw [← bl1] at q
 rcases h.isT with ⟨a,us,ds,rfl,rfl,ha,hs⟩|e
 case inr =>
  obtain ⟨t,ty,ki⟩:=h.ty (K:=K);refine ⟨_,rfl,_,_,t,_,rfl,ty,ki,_,rfl,?_⟩;rw [e];rw [Zkr e] at q;exact iteT (iteT (q _ (Same.refl H)))
 refine ⟨_,rfl,_,_,_,_,rfl,TyOf.tup ha,rfl,true,rfl,iteF ?_⟩;have hl:=hs.len;have hz1:1+Z0 ds≤1000:=hz;have h1000:us.length≤1000:=by have:=Ze6 ds;omega
 refine ⟨_,rfl,a,us,rfl,.inr (SqT.of ha),_,rfl,pa,_,1,_,rfl,rfl,SqT.of hpa,rfl,qa,ws,rfl,.inr (SqT.of hqa),rfl,_,rfl,?_⟩
 by_cases hn:us.length=ws.length
 case neg =>
  rw [show decide (V.int (us.length:Int)=V.int (ws.length:Nat))=false from n8_ (fun z=>hn (by have:=V.int.inj z;omega))];rw [Zj9 (by omega)] at q;exact iteT (q _ (Same.refl H))
 rw [n19_ (show V.int (us.length:Int)=V.int (ws.length:Nat) by rw [hn])];refine iteF ?_;refine ⟨_,rfl,a,rfl,⟨_,SqT.of ha⟩,fun D nD=>?_⟩;refine lc_T (k:=.t) (vs:=us) RB hRB (ds.map (Za6 3)) (by simp [hl]) h1000 nD ha (fun i w H2 C hw s2 c=>?_) (fun H2 us' s2 e2 a2=>?_)
 · obtain ⟨dx,ed,hdx⟩:=hs.get hw;have zx:=Zjt ed;exact ⟨_,rfl,N,k,w,dx,3,rfl,hdx.same s2,hk,n32_ zx hz,fun H5 s5=>c _ _ (Za6 3 dx) s5 (by rw [n11_,ed];rfl) rfl⟩
 · rw [a2.bls] at e2;refine ⟨D,ds.map (Za6 3),rfl,SqL.of e2,?_⟩;have z:(ds.map (Za6 3)).all id=ds.all (Za6 3):=by rw [List.all_map];rfl
   rw [z];rw [Zks (by omega)] at q;exact q _ s2
abbrev Zac:Stmt:=top 70
theorem Zdo (F:Fun K "are_stresses" "are_stresses" Zac f fd) (Cad_:a38_ P w K mg base) (Caj_:a39_ P w K mg base):FnOk P w K mg base CX0 7 f fd ["plate","thing"] Zah:=by
 have sc:FnScope ["plate","thing"] ["plate","thing"] (Zg Zac):=fsc (by decide +kernel);refine F.ok sc (fun vs H Q E h=>by obtain ⟨N,k,u,v,d,P',rfl,_⟩:=h;rfl) fun cdv A outer s H vs Q E hr h=>?_;obtain ⟨N,k,u,v,d,P',rfl,hv,ok,h,hk,hz,q⟩:=h;refine' ⟨_,?term,?read⟩
 case term=>refine' @Ze _ _ _ _ _ ?g1 (Zf (Zl (Zi Cad_ hr (by decide) rfl (Za (pv 0) (Za (pv 1) Zb rfl) rfl))));case g1=>refine' @Zbn _ _ _ _ (Zi Caj_ hr (by decide) rfl (Za (pv 0) Zb rfl)) (by rfl)
 refine ⟨_,rfl,u,P',rfl,hv,ok,fun H1 s1=>?_⟩;exact ⟨_,rfl,_,rfl,N,k,u,v,d,P',rfl,hv.tk s1.tk,ok,h.same s1,hk,hz,fun H2 s2=>q _ (s1.trans s2)⟩
abbrev Za0:Stmt:=top 70
theorem Zda (F:Fun K "are_stresses" "are_stresses" Za0 f fd) {cl:Str→Addr} (Z:Ek K mg cl) (X_look_at_plateX:CalX P w K mg base "look_at_plate" 6 ["plate"] (Zcr K (cl "NoPlate"))):FnOk P w K mg base (CX1 P w) 7 f fd ["plate","thing"] (Zaf K cl):=by
 have sc:FnScope ["plate","thing"] ["plate","thing"] (Zg Za0):=fsc (by decide +kernel);refine F.okX sc (fun vs H Q E h=>?_) (fun cdv A outer s H vs Q E hr h=>?_)
 · obtain ⟨v,u,n,rfl,_⟩:=h;rfl
 · obtain ⟨v,u,n,rfl,bb,q⟩:=h;refine' ⟨_,?term,?read⟩
   case term=>refine' @Ze _ _ _ _ _ ?g1 (Zf (Zl Zgw));case g1=>refine' @Zbn _ _ _ _ (Zmu X_look_at_plateX Zs5.passes hr (by decide) rfl (Za (pv 0) Zb rfl)) (by rfl)
   case read =>
    exact ⟨_,rfl,v,false,rfl,.inr ⟨rfl,n,bb⟩,fun H1 s1=>by rw [if_neg (by decide)];exact q H1 s1⟩
abbrev Zbm:Stmt:=top 83
theorem Zh0 (F:Fun K "_law_kind" "_law_kind" Zbm f fd) {cl:Str→Addr} (Z:Ek K mg cl):FnOkH P w K mg base 2 f fd ["_law_e"] (Zji K cl):=by
 have sc:FnScope ["_law_e","_law_kinds","_law_words"] ["_law_e"] (Zg Zbm):=fsc (by decide +kernel);refine F.okH sc (fun vs H Q E h=>?_) (fun cdv A outer s H vs Q hr h=>?_)
 · obtain ⟨ea,C,ix,rfl,_⟩:=h;rfl
 · obtain ⟨ea,C,ix,rfl,hE,kk,hix,q⟩:=h;have nd:=sc.nd;have hu:=Zsj hr;refine' ⟨_,?term,?read⟩
   case term=>refine' @Ze _ _ _ _ _ ?g1 ?g2;(case g1=>refine' @Zz _ _ (1) _ _ _ _ nd rfl (Or.inl rfl) ?g3 (by rfl) (by first|exact Or.inl rfl|exact Or.inr rfl|assumption);case g3=>refine' @Yk _ _ _ _ ?g4;case g4=>refine' @Za _ _ _ _ _ ?g5 ?g6 rfl;(case g5=>refine' @Zh _ _ _ _ _ _ _ _ _ Zv rfl T.b_isinstance Zj ?g7 (by decide) (by decide) (by rfl) (by rfl);case g7=>refine' @Za _ _ _ _ _ (pv 0) ?g8 rfl;case g8=>refine' @Za _ _ _ _ _ ?g9 Zb rfl;case g9=>refine' @Z5 _ _ (.ref (cl "NoWhole")) _ _ rfl (Z.nm "NoWhole" (by decide)) rfl (by decide));case g6=>refine' @Za _ _ _ _ _ ?ga ?gb rfl;(case ga=>refine' @Zh _ _ _ _ _ _ _ _ _ Zv rfl T.b_isinstance Zj ?gc (by decide) (by decide) (by rfl) (by rfl);case gc=>refine' @Za _ _ _ _ _ (pv 0) ?gd rfl;case gd=>refine' @Za _ _ _ _ _ ?ge Zb rfl;case ge=>refine' @Z5 _ _ (.ref (cl "NoFraction")) _ _ rfl (Z.nm "NoFraction" (by decide)) rfl (by decide));case gb=>refine' @Za _ _ _ _ _ ?gf ?gg rfl;(case gf=>refine' @Zh _ _ _ _ _ _ _ _ _ Zv rfl T.b_isinstance Zj ?gh (by decide) (by decide) (by rfl) (by rfl);case gh=>refine' @Za _ _ _ _ _ (pv 0) ?gi rfl;case gi=>refine' @Za _ _ _ _ _ ?gj Zb rfl;case gj=>refine' @Z5 _ _ (.ref (cl "NoRows")) _ _ rfl (Z.nm "NoRows" (by decide)) rfl (by decide));case gg=>refine' @Za _ _ _ _ _ ?gk Zb rfl;case gk=>refine' @Zh _ _ _ _ _ _ _ _ _ Zv rfl T.b_isinstance Zj ?gl (by decide) (by decide) (by rfl) (by rfl);case gl=>refine' @Za _ _ _ _ _ (pv 0) ?gm rfl;case gm=>refine' @Za _ _ _ _ _ ?gn Zb rfl;case gn=>refine' @Z5 _ _ (.ref (cl "NoPlate")) _ _ rfl (Z.nm "NoPlate" (by decide)) rfl (by decide));case g2=>refine' @Ze _ _ _ _ _ ?go ?gp;(case go=>refine' @Zz _ _ (1) _ _ _ _ nd rfl (Or.inl rfl) ?gq (by rfl) (by first|exact Or.inl rfl|exact Or.inr rfl|assumption);case gq=>refine' @Zt _ _ _ _ _ _ _ _ Zag (pv 1) ?gr;case gr=>refine' @Yk _ _ _ _ ?gs;case gs=>refine' @Za _ _ _ _ _ ?gt ?gu rfl;(case gt=>refine' @Zh _ _ _ _ _ _ _ _ _ Zv rfl T.b_isinstance Zj ?gv (by decide) (by decide) (by rfl) (by rfl);case gv=>refine' @Za _ _ _ _ _ (pv 0) ?gw rfl;case gw=>refine' @Za _ _ _ _ _ ?gx Zb rfl;case gx=>refine' @Z5 _ _ (.ref (cl "NoMotions")) _ _ rfl (Z.nm "NoMotions" (by decide)) rfl (by decide));case gu=>refine' @Za _ _ _ _ _ ?gy ?gz rfl;(case gy=>refine' @Zh _ _ _ _ _ _ _ _ _ Zv rfl T.b_isinstance Zj ?g10 (by decide) (by decide) (by rfl) (by rfl);case g10=>refine' @Za _ _ _ _ _ (pv 0) ?g11 rfl;case g11=>refine' @Za _ _ _ _ _ ?g12 Zb rfl;case g12=>refine' @Z5 _ _ (.ref (cl "NoLoads")) _ _ rfl (Z.nm "NoLoads" (by decide)) rfl (by decide));case gz=>refine' @Za _ _ _ _ _ ?g13 Zb rfl;case g13=>refine' @Zh _ _ _ _ _ _ _ _ _ Zv rfl T.b_isinstance Zj ?g14 (by decide) (by decide) (by rfl) (by rfl);case g14=>refine' @Za _ _ _ _ _ (pv 0) ?g15 rfl;case g15=>refine' @Za _ _ _ _ _ ?g16 Zb rfl;case g16=>refine' @Z5 _ _ (.ref (cl "NoHolding")) _ _ rfl (Z.nm "NoHolding" (by decide)) rfl (by decide));case gp=>refine' @Ze _ _ _ _ _ ?g17 ?g18;(case g17=>refine' @Zz _ _ (1) _ _ _ _ nd rfl (Or.inl rfl) ?g19 (by rfl) (by first|exact Or.inl rfl|exact Or.inr rfl|assumption);case g19=>refine' @Zt _ _ _ _ _ _ _ _ Zag (pv 1) ?g1a;case g1a=>refine' @Yk _ _ _ _ ?g1b;case g1b=>refine' @Za _ _ _ _ _ ?g1c ?g1d rfl;(case g1c=>refine' @Zh _ _ _ _ _ _ _ _ _ Zv rfl T.b_isinstance Zj ?g1e (by decide) (by decide) (by rfl) (by rfl);case g1e=>refine' @Za _ _ _ _ _ (pv 0) ?g1f rfl;case g1f=>refine' @Za _ _ _ _ _ ?g1g Zb rfl;case g1g=>refine' @Z5 _ _ (.ref (cl "NoWays")) _ _ rfl (Z.nm "NoWays" (by decide)) rfl (by decide));case g1d=>refine' @Za _ _ _ _ _ ?g1h ?g1i rfl;(case g1h=>refine' @Zh _ _ _ _ _ _ _ _ _ Zv rfl T.b_isinstance Zj ?g1j (by decide) (by decide) (by rfl) (by rfl);case g1j=>refine' @Za _ _ _ _ _ (pv 0) ?g1k rfl;case g1k=>refine' @Za _ _ _ _ _ ?g1l Zb rfl;case g1l=>refine' @Z5 _ _ (.ref (cl "NoWay")) _ _ rfl (Z.nm "NoWay" (by decide)) rfl (by decide));case g1i=>refine' @Za _ _ _ _ _ ?g1m ?g1n rfl;(case g1m=>refine' @Zh _ _ _ _ _ _ _ _ _ Zv rfl T.b_isinstance Zj ?g1o (by decide) (by decide) (by rfl) (by rfl);case g1o=>refine' @Za _ _ _ _ _ (pv 0) ?g1p rfl;case g1p=>refine' @Za _ _ _ _ _ ?g1q Zb rfl;case g1q=>refine' @Z5 _ _ (.ref (cl "NoPiece")) _ _ rfl (Z.nm "NoPiece" (by decide)) rfl (by decide));case g1n=>refine' @Za _ _ _ _ _ ?g1r Zb rfl;case g1r=>refine' @Zh _ _ _ _ _ _ _ _ _ Zv rfl T.b_isinstance Zj ?g1s (by decide) (by decide) (by rfl) (by rfl);case g1s=>refine' @Za _ _ _ _ _ (pv 0) ?g1t rfl;case g1t=>refine' @Za _ _ _ _ _ ?g1u Zb rfl;case g1u=>refine' @Z5 _ _ (.ref (cl "NoStresses")) _ _ rfl (Z.nm "NoStresses" (by decide)) rfl (by decide));case g18=>refine' @Ze _ _ _ _ _ ?g1v ?g1w;(case g1v=>refine' @Zz _ _ (1) _ _ _ _ nd rfl (Or.inl rfl) ?g1x (by rfl) (by first|exact Or.inl rfl|exact Or.inr rfl|assumption);case g1x=>refine' @Zt _ _ _ _ _ _ _ _ Zag (pv 1) ?g1y;case g1y=>refine' @Yk _ _ _ _ ?g1z;case g1z=>refine' @Za _ _ _ _ _ ?g20 ?g21 rfl;(case g20=>refine' @Zh _ _ _ _ _ _ _ _ _ Zv rfl T.b_isinstance Zj ?g22 (by decide) (by decide) (by rfl) (by rfl);case g22=>refine' @Za _ _ _ _ _ (pv 0) ?g23 rfl;case g23=>refine' @Za _ _ _ _ _ ?g24 Zb rfl;case g24=>refine' @Z5 _ _ (.ref (cl "NoBalance")) _ _ rfl (Z.nm "NoBalance" (by decide)) rfl (by decide));case g21=>refine' @Za _ _ _ _ _ ?g25 ?g26 rfl;(case g25=>refine' @Zh _ _ _ _ _ _ _ _ _ Zv rfl T.b_isinstance Zj ?g27 (by decide) (by decide) (by rfl) (by rfl);case g27=>refine' @Za _ _ _ _ _ (pv 0) ?g28 rfl;case g28=>refine' @Za _ _ _ _ _ ?g29 Zb rfl;case g29=>refine' @Z5 _ _ (.ref (cl "NoRest")) _ _ rfl (Z.nm "NoRest" (by decide)) rfl (by decide));case g26=>refine' @Za _ _ _ _ _ ?g2a ?g2b rfl;(case g2a=>refine' @Zh _ _ _ _ _ _ _ _ _ Zv rfl T.b_isinstance Zj ?g2c (by decide) (by decide) (by rfl) (by rfl);case g2c=>refine' @Za _ _ _ _ _ (pv 0) ?g2d rfl;case g2d=>refine' @Za _ _ _ _ _ ?g2e Zb rfl;case g2e=>refine' @Z5 _ _ (.ref (cl "NoRounds")) _ _ rfl (Z.nm "NoRounds" (by decide)) rfl (by decide));case g2b=>refine' @Za _ _ _ _ _ ?g2f Zb rfl;case g2f=>refine' @Zh _ _ _ _ _ _ _ _ _ Zv rfl T.b_isinstance Zj ?g2g (by decide) (by decide) (by rfl) (by rfl);case g2g=>refine' @Za _ _ _ _ _ (pv 0) ?g2h rfl;case g2h=>refine' @Za _ _ _ _ _ ?g2i Zb rfl;case g2i=>refine' @Z5 _ _ (.ref (cl "NoFrame")) _ _ rfl (Z.nm "NoFrame" (by decide)) rfl (by decide));case g1w=>refine' @Ze _ _ _ _ _ ?g2j ?g2k;(case g2j=>refine' @Zz _ _ (1) _ _ _ _ nd rfl (Or.inl rfl) ?g2l (by rfl) (by first|exact Or.inl rfl|exact Or.inr rfl|assumption);case g2l=>refine' @Zt _ _ _ _ _ _ _ _ Zag (pv 1) ?g2m;case g2m=>refine' @Yk _ _ _ _ ?g2n;case g2n=>refine' @Za _ _ _ _ _ ?g2o ?g2p rfl;(case g2o=>refine' @Zh _ _ _ _ _ _ _ _ _ Zv rfl T.b_isinstance Zj ?g2q (by decide) (by decide) (by rfl) (by rfl);case g2q=>refine' @Za _ _ _ _ _ (pv 0) ?g2r rfl;case g2r=>refine' @Za _ _ _ _ _ ?g2s Zb rfl;case g2s=>refine' @Z5 _ _ (.ref (cl "NoLot")) _ _ rfl (Z.nm "NoLot" (by decide)) rfl (by decide));case g2p=>refine' @Za _ _ _ _ _ ?g2t ?g2u rfl;(case g2t=>refine' @Zh _ _ _ _ _ _ _ _ _ Zv rfl T.b_isinstance Zj ?g2v (by decide) (by decide) (by rfl) (by rfl);case g2v=>refine' @Za _ _ _ _ _ (pv 0) ?g2w rfl;case g2w=>refine' @Za _ _ _ _ _ ?g2x Zb rfl;case g2x=>refine' @Z5 _ _ (.ref (cl "NoInner")) _ _ rfl (Z.nm "NoInner" (by decide)) rfl (by decide));case g2u=>refine' @Za _ _ _ _ _ ?g2y ?g2z rfl;(case g2y=>refine' @Zh _ _ _ _ _ _ _ _ _ Zv rfl T.b_isinstance Zj ?g30 (by decide) (by decide) (by rfl) (by rfl);case g30=>refine' @Za _ _ _ _ _ (pv 0) ?g31 rfl;case g31=>refine' @Za _ _ _ _ _ ?g32 Zb rfl;case g32=>refine' @Z5 _ _ (.ref (cl "NoTurning")) _ _ rfl (Z.nm "NoTurning" (by decide)) rfl (by decide));case g2z=>refine' @Za _ _ _ _ _ ?g33 Zb rfl;case g33=>refine' @Zh _ _ _ _ _ _ _ _ _ Zv rfl T.b_isinstance Zj ?g34 (by decide) (by decide) (by rfl) (by rfl);case g34=>refine' @Za _ _ _ _ _ (pv 0) ?g35 rfl;case g35=>refine' @Za _ _ _ _ _ ?g36 Zb rfl;case g36=>refine' @Z5 _ _ (.ref (cl "NoFirm")) _ _ rfl (Z.nm "NoFirm" (by decide)) rfl (by decide));case g2k=>refine' @Ze _ _ _ _ _ ?g37 ?g38;(case g37=>refine' @Zz _ _ (1) _ _ _ _ nd rfl (Or.inl rfl) ?g39 (by rfl) (by first|exact Or.inl rfl|exact Or.inr rfl|assumption);case g39=>refine' @Zt _ _ _ _ _ _ _ _ Zag (pv 1) ?g3a;case g3a=>refine' @Yk _ _ _ _ ?g3b;case g3b=>refine' @Za _ _ _ _ _ ?g3c ?g3d rfl;(case g3c=>refine' @Zh _ _ _ _ _ _ _ _ _ Zv rfl T.b_isinstance Zj ?g3e (by decide) (by decide) (by rfl) (by rfl);case g3e=>refine' @Za _ _ _ _ _ (pv 0) ?g3f rfl;case g3f=>refine' @Za _ _ _ _ _ ?g3g Zb rfl;case g3g=>refine' @Z5 _ _ (.ref (cl "NoThick")) _ _ rfl (Z.nm "NoThick" (by decide)) rfl (by decide));case g3d=>refine' @Za _ _ _ _ _ ?g3h ?g3i rfl;(case g3h=>refine' @Zh _ _ _ _ _ _ _ _ _ Zv rfl T.b_isinstance Zj ?g3j (by decide) (by decide) (by rfl) (by rfl);case g3j=>refine' @Za _ _ _ _ _ (pv 0) ?g3k rfl;case g3k=>refine' @Za _ _ _ _ _ ?g3l Zb rfl;case g3l=>refine' @Z5 _ _ (.ref (cl "NoDeed")) _ _ rfl (Z.nm "NoDeed" (by decide)) rfl (by decide));case g3i=>refine' @Za _ _ _ _ _ ?g3m ?g3n rfl;(case g3m=>refine' @Zh _ _ _ _ _ _ _ _ _ Zv rfl T.b_isinstance Zj ?g3o (by decide) (by decide) (by rfl) (by rfl);case g3o=>refine' @Za _ _ _ _ _ (pv 0) ?g3p rfl;case g3p=>refine' @Za _ _ _ _ _ ?g3q Zb rfl;case g3q=>refine' @Z5 _ _ (.ref (cl "NoDeeds")) _ _ rfl (Z.nm "NoDeeds" (by decide)) rfl (by decide));case g3n=>refine' @Za _ _ _ _ _ ?g3r Zb rfl;case g3r=>refine' @Zh _ _ _ _ _ _ _ _ _ Zv rfl T.b_isinstance Zj ?g3s (by decide) (by decide) (by rfl) (by rfl);case g3s=>refine' @Za _ _ _ _ _ (pv 0) ?g3t rfl;case g3t=>refine' @Za _ _ _ _ _ ?g3u Zb rfl;case g3u=>refine' @Z5 _ _ (.ref (cl "NotHeld")) _ _ rfl (Z.nm "NotHeld" (by decide)) rfl (by decide));case g38=>refine' @Ze _ _ _ _ _ ?g3v ?g3w;(case g3v=>refine' @Zz _ _ (1) _ _ _ _ nd rfl (Or.inl rfl) ?g3x (by rfl) (by first|exact Or.inl rfl|exact Or.inr rfl|assumption);case g3x=>refine' @Zt _ _ _ _ _ _ _ _ Zag (pv 1) ?g3y;case g3y=>refine' @Yk _ _ _ _ ?g3z;case g3z=>refine' @Za _ _ _ _ _ ?g40 ?g41 rfl;(case g40=>refine' @Zh _ _ _ _ _ _ _ _ _ Zv rfl T.b_isinstance Zj ?g42 (by decide) (by decide) (by rfl) (by rfl);case g42=>refine' @Za _ _ _ _ _ (pv 0) ?g43 rfl;case g43=>refine' @Za _ _ _ _ _ ?g44 Zb rfl;case g44=>refine' @Z5 _ _ (.ref (cl "NoLine")) _ _ rfl (Z.nm "NoLine" (by decide)) rfl (by decide));case g41=>refine' @Za _ _ _ _ _ ?g45 ?g46 rfl;(case g45=>refine' @Zh _ _ _ _ _ _ _ _ _ Zv rfl T.b_isinstance Zj ?g47 (by decide) (by decide) (by rfl) (by rfl);case g47=>refine' @Za _ _ _ _ _ (pv 0) ?g48 rfl;case g48=>refine' @Za _ _ _ _ _ ?g49 Zb rfl;case g49=>refine' @Z5 _ _ (.ref (cl "TooMany")) _ _ rfl (Z.nm "TooMany" (by decide)) rfl (by decide));case g46=>refine' @Za _ _ _ _ _ ?g4a Zb rfl;case g4a=>refine' @Zh _ _ _ _ _ _ _ _ _ Zv rfl T.b_isinstance Zj ?g4b (by decide) (by decide) (by rfl) (by rfl);case g4b=>refine' @Za _ _ _ _ _ (pv 0) ?g4c rfl;case g4c=>refine' @Za _ _ _ _ _ ?g4d Zb rfl;case g4d=>refine' @Z5 _ _ (.ref (cl "NoText")) _ _ rfl (Z.nm "NoText" (by decide)) rfl (by decide));case g3w=>refine' @Ze _ _ _ _ _ ?g4e ?g4f;(case g4e=>refine' @Zz _ _ (2) _ _ _ _ nd rfl (Or.inl rfl) ?g4g (by rfl) (by first|exact Or.inl rfl|exact Or.inr rfl|assumption);case g4g=>refine' @Yk _ _ _ _ (Za Yj (Za Yj (Za Yj (Za Yj (Za Yj (Za Yj (Za Yj (Za Yj (Za Yj (Za Yj (Za Yj Zb rfl) rfl) rfl) rfl) rfl) rfl) rfl) rfl) rfl) rfl) rfl));case g4f=>refine' @Ze _ _ _ _ _ ?g4h ?g4i;(case g4h=>refine' @Zz _ _ (2) _ _ _ _ nd rfl (Or.inl rfl) ?g4j (by rfl) (by first|exact Or.inl rfl|exact Or.inr rfl|assumption);case g4j=>refine' @Zt _ _ _ _ _ _ _ _ Zag (pv 2) ?g4k;case g4k=>refine' @Yk _ _ _ _ (Za Yj (Za Yj (Za Yj (Za Yj (Za Yj (Za Yj (Za Yj (Za Yj (Za Yj (Za Yj (Za Yj Zb rfl) rfl) rfl) rfl) rfl) rfl) rfl) rfl) rfl) rfl) rfl));case g4i=>refine' @Ze _ _ _ _ _ ?g4l ?g4m;(case g4l=>refine' @Zy _ _ _ _ _ _ _ _ ?g4n (Zf (Zl (Zu (Za Yj Zb rfl)))) Zp;case g4n=>refine' @PW.pt _ _ _ ?g4o;case g4o=>refine' @Ys _ _ _ _ _ _ _ ?g4p ?g4q;(case g4p=>refine' @Z4 _ _ _ _ _ _ _ _ Zgj ?g4r Zd (Zx _);case g4r=>refine' @Zh5 _ _ _ _ _ _ _ _ _ _ _ _ PySem.F.plainAttrs_list PySem.F.slot_list_count PySem.F.type_list_count Znd (pv 1) (Za Z2 Zb rfl) (by rfl) (by rfl) (by rfl) (by rfl) (by rfl));case g4q=>refine' @Z6 _ _ _ _ ?g4s;case g4s=>refine' @Zq _ _ _ _ ?g4t;case g4t=>refine' @Zk _ _ _ (Zh Zv rfl T.b_isinstance Zj (Za (pv 0) (Za (Y1 (v:=.ty "ValueError") rfl Z.vb Zt7 rfl) Zb rfl) rfl)) (fun _=>rfl));case g4m=>refine' @Ze _ _ _ _ _ ?g4u ?g4v;(case g4u=>refine' @Zy _ _ _ _ _ _ _ _ ?g4w (Zf (Zl Zgw)) Zp;case g4w=>refine' @Zk _ _ _ ?g4x (fun _=>rfl);case g4x=>refine' @Z3 _ _ _ _ _ _ _ Yh (pv 1) Zd (fun _ _=>rfl));case g4v=>refine' @Zf _ _ _ ?g4y;case g4y=>refine' @Zl _ _ _ _ ?g4z;case g4z=>refine' @Zjx _ _ _ _ _ _ _ _ ?g50 Zgw ?g51;(case g50=>refine' @Zk _ _ _ ?g52 (fun _=>rfl);case g52=>refine' @Z3 _ _ _ _ _ _ _ Yh (pv 1) Zd (fun _ _=>rfl));case g51=>refine' @Zu _ _ _ _ _ ?g53;case g53=>refine' @Za _ _ _ _ _ ?g54 Zb rfl;case g54=>refine' @Z3 _ _ _ _ _ _ _ Yh ?g55 ?g56 (fun _ _=>rfl);(case g55=>refine' @Zt _ _ _ _ _ _ _ _ Zag (pv 2) ?g57;case g57=>refine' @Yk _ _ _ _ (Za Yj (Za Yj Zb rfl) rfl));case g56=>refine' @Zh5 _ _ _ _ _ _ _ _ _ _ _ _ PySem.F.plainAttrs_list PySem.F.slot_list_index PySem.F.type_list_index (Znq hu) (pv 1) (Za Z2 Zb rfl) (by rfl) (by rfl) (by rfl) (by rfl) (by rfl)
   case read =>
    refine ⟨_,rfl,ea,C,_,_,rfl,((Same.refl H) _ _ hE),kk.lk,.inl ⟨_,rfl,kk.is 0 _ rfl⟩,_,rfl,ea,C,_,_,rfl,((Same.refl H) _ _ hE),kk.lk,.inl ⟨_,rfl,kk.is 1 _ rfl⟩,_,rfl,ea,C,_,_,rfl,((Same.refl H) _ _ hE),kk.lk,.inl ⟨_,rfl,kk.is 2 _ rfl⟩,_,rfl,ea,C,_,_,rfl,((Same.refl H) _ _ hE),kk.lk,.inl ⟨_,rfl,kk.is 3 _ rfl⟩,z4_,?_⟩;intro p1 n1;generalize hH1:upd H p1 _=H1;have S1:Same H H1:=by (rw [← hH1];exact Same.new n1)
    have A1:=(congrFun hH1 p1).symm;rw [Zc] at A1;clear hH1;have T1:Same H H1:=(Same.refl H).trans S1;refine ⟨_,rfl,_,rfl,ea,C,_,_,rfl,(T1 _ _ hE),kk.lk,.inl ⟨_,rfl,kk.is 4 _ rfl⟩,_,rfl,ea,C,_,_,rfl,(T1 _ _ hE),kk.lk,.inl ⟨_,rfl,kk.is 5 _ rfl⟩,_,rfl,ea,C,_,_,rfl,(T1 _ _ hE),kk.lk,.inl ⟨_,rfl,kk.is 6 _ rfl⟩,z3_,?_⟩;intro p2 n2;generalize hH2:upd H1 p2 _=H2;have S2:Same H1 H2:=by (rw [← hH2];exact Same.new n2)
    have A2:=(congrFun hH2 p2).symm;rw [Zc] at A2;clear hH2;have T2:Same H H2:=T1.trans S2;refine ⟨p1,p2,_,_,rfl,rfl,(S2 _ _ A1),A2,by show 7≤sizeLine;decide,?_⟩;intro p3 n3;generalize hH3:upd H2 p3 _=H3;have S3:Same H2 H3:=by (rw [← hH3];exact Same.new n3)
    have A3:=(congrFun hH3 p3).symm;rw [Zc] at A3;clear hH3;have T3:Same H H3:=T2.trans S3;refine ⟨_,rfl,_,rfl,ea,C,_,_,rfl,(T3 _ _ hE),kk.lk,.inl ⟨_,rfl,kk.is 7 _ rfl⟩,_,rfl,ea,C,_,_,rfl,(T3 _ _ hE),kk.lk,.inl ⟨_,rfl,kk.is 8 _ rfl⟩,_,rfl,ea,C,_,_,rfl,(T3 _ _ hE),kk.lk,.inl ⟨_,rfl,kk.is 9 _ rfl⟩,_,rfl,ea,C,_,_,rfl,(T3 _ _ hE),kk.lk,.inl ⟨_,rfl,kk.is 10 _ rfl⟩,z4_,?_⟩;intro p4 n4;generalize hH4:upd H3 p4 _=H4;have S4:Same H3 H4:=by (rw [← hH4];exact Same.new n4)
    have A4:=(congrFun hH4 p4).symm;rw [Zc] at A4;clear hH4;have T4:Same H H4:=T3.trans S4;refine ⟨p3,p4,_,_,rfl,rfl,(S4 _ _ A3),A4,by show 11≤sizeLine;decide,?_⟩;intro p5 n5;generalize hH5:upd H4 p5 _=H5;have S5:Same H4 H5:=by (rw [← hH5];exact Same.new n5)
    have A5:=(congrFun hH5 p5).symm;rw [Zc] at A5;clear hH5;have T5:Same H H5:=T4.trans S5;refine ⟨_,rfl,_,rfl,ea,C,_,_,rfl,(T5 _ _ hE),kk.lk,.inl ⟨_,rfl,kk.is 11 _ rfl⟩,_,rfl,ea,C,_,_,rfl,(T5 _ _ hE),kk.lk,.inl ⟨_,rfl,kk.is 12 _ rfl⟩,_,rfl,ea,C,_,_,rfl,(T5 _ _ hE),kk.lk,.inl ⟨_,rfl,kk.is 13 _ rfl⟩,_,rfl,ea,C,_,_,rfl,(T5 _ _ hE),kk.lk,.inl ⟨_,rfl,kk.is 14 _ rfl⟩,z4_,?_⟩;intro p6 n6;generalize hH6:upd H5 p6 _=H6;have S6:Same H5 H6:=by (rw [← hH6];exact Same.new n6)
    have A6:=(congrFun hH6 p6).symm;rw [Zc] at A6;clear hH6;have T6:Same H H6:=T5.trans S6;refine ⟨p5,p6,_,_,rfl,rfl,(S6 _ _ A5),A6,by show 15≤sizeLine;decide,?_⟩;intro p7 n7;generalize hH7:upd H6 p7 _=H7;have S7:Same H6 H7:=by (rw [← hH7];exact Same.new n7)
    have A7:=(congrFun hH7 p7).symm;rw [Zc] at A7;clear hH7;have T7:Same H H7:=T6.trans S7;refine ⟨_,rfl,_,rfl,ea,C,_,_,rfl,(T7 _ _ hE),kk.lk,.inl ⟨_,rfl,kk.is 15 _ rfl⟩,_,rfl,ea,C,_,_,rfl,(T7 _ _ hE),kk.lk,.inl ⟨_,rfl,kk.is 16 _ rfl⟩,_,rfl,ea,C,_,_,rfl,(T7 _ _ hE),kk.lk,.inl ⟨_,rfl,kk.is 17 _ rfl⟩,_,rfl,ea,C,_,_,rfl,(T7 _ _ hE),kk.lk,.inl ⟨_,rfl,kk.is 18 _ rfl⟩,z4_,?_⟩;intro p8 n8;generalize hH8:upd H7 p8 _=H8;have S8:Same H7 H8:=by (rw [← hH8];exact Same.new n8)
    have A8:=(congrFun hH8 p8).symm;rw [Zc] at A8;clear hH8;have T8:Same H H8:=T7.trans S8;refine ⟨p7,p8,_,_,rfl,rfl,(S8 _ _ A7),A8,by show 19≤sizeLine;decide,?_⟩;intro p9 n9;generalize hH9:upd H8 p9 _=H9;have S9:Same H8 H9:=by (rw [← hH9];exact Same.new n9)
    have A9:=(congrFun hH9 p9).symm;rw [Zc] at A9;clear hH9;have T9:Same H H9:=T8.trans S9;refine ⟨_,rfl,_,rfl,ea,C,_,_,rfl,(T9 _ _ hE),kk.lk,.inl ⟨_,rfl,kk.is 19 _ rfl⟩,_,rfl,ea,C,_,_,rfl,(T9 _ _ hE),kk.lk,.inl ⟨_,rfl,kk.is 20 _ rfl⟩,_,rfl,ea,C,_,_,rfl,(T9 _ _ hE),kk.lk,.inl ⟨_,rfl,kk.is 21 _ rfl⟩,_,rfl,ea,C,_,_,rfl,(T9 _ _ hE),kk.lk,.inl ⟨_,rfl,kk.is 22 _ rfl⟩,z4_,?_⟩;intro p10 n10;generalize hH10:upd H9 p10 _=H10;have S10:Same H9 H10:=by (rw [← hH10];exact Same.new n10)
    have A10:=(congrFun hH10 p10).symm;rw [Zc] at A10;clear hH10;have T10:Same H H10:=T9.trans S10;refine ⟨p9,p10,_,_,rfl,rfl,(S10 _ _ A9),A10,by show 23≤sizeLine;decide,?_⟩;intro p11 n11;generalize hH11:upd H10 p11 _=H11;have S11:Same H10 H11:=by (rw [← hH11];exact Same.new n11)
    have A11:=(congrFun hH11 p11).symm;rw [Zc] at A11;clear hH11;have T11:Same H H11:=T10.trans S11;refine ⟨_,rfl,_,rfl,ea,C,_,_,rfl,(T11 _ _ hE),kk.lk,.inl ⟨_,rfl,kk.is 23 _ rfl⟩,_,rfl,ea,C,_,_,rfl,(T11 _ _ hE),kk.lk,.inl ⟨_,rfl,kk.is 24 _ rfl⟩,_,rfl,ea,C,_,_,rfl,(T11 _ _ hE),kk.lk,.inl ⟨_,rfl,kk.is 25 _ rfl⟩,z3_,?_⟩;intro p12 n12;generalize hH12:upd H11 p12 _=H12;have S12:Same H11 H12:=by (rw [← hH12];exact Same.new n12)
    have A12:=(congrFun hH12 p12).symm;rw [Zc] at A12;clear hH12;have T12:Same H H12:=T11.trans S12;refine ⟨p11,p12,_,_,rfl,rfl,(S12 _ _ A11),A12,by show 26≤sizeLine;decide,?_⟩;intro p13 n13;generalize hH13:upd H12 p13 _=H13;have S13:Same H12 H13:=by (rw [← hH13];exact Same.new n13)
    have A13:=(congrFun hH13 p13).symm;rw [Zc] at A13;clear hH13;have T13:Same H H13:=T12.trans S13;refine ⟨by show 11≤sizeLine;decide,?_⟩;intro p14 n14;generalize hH14:upd H13 p14 _=H14;have S14:Same H13 H14:=by (rw [← hH14];exact Same.new n14)
    have A14:=(congrFun hH14 p14).symm;rw [Zc] at A14;clear hH14;have T14:Same H H14:=T13.trans S14;refine ⟨_,rfl,by show 11≤sizeLine;decide,?_⟩;intro p15 n15;generalize hH15:upd H14 p15 _=H15;have S15:Same H14 H15:=by (rw [← hH15];exact Same.new n15)
    have A15:=(congrFun hH15 p15).symm;rw [Zc] at A15;clear hH15;have T15:Same H H15:=T14.trans S15;refine ⟨p14,p15,_,_,rfl,rfl,(S15 _ _ A14),A15,by show 22≤sizeLine;decide,?_⟩;intro p16 n16;generalize hH16:upd H15 p16 _=H16;have S16:Same H15 H16:=by (rw [← hH16];exact Same.new n16)
    have A16:=(congrFun hH16 p16).symm;rw [Zc] at A16;clear hH16;have T16:Same H H16:=T15.trans S16;have aM:H16 p13=some (.lst ((mk26 ix).map V.bl)):=(S16 _ _ (S15 _ _ (S14 _ _ A13)));have cnt:(mk26 ix).countP (· == true)=1:=by rcases hix with rfl<;>rfl
    have h24:decide (24=ix)=false:=by rcases hix with rfl<;>rfl
    have h25:decide (25=ix)=false:=by rcases hix with rfl<;>rfl
    refine ⟨_,rfl,.inl ⟨rfl,_,SqL.of aM⟩,p13,mk26 ix,true,rfl,rfl,aM,rfl,_,rfl,?_⟩;rw [cnt];refine iteF ?_;refine ⟨_,rfl,ea,C,_,true,rfl,(T16 _ _ hE),kk.lk,.inr ⟨_,rfl,kk.ve⟩,true,rfl,iteF ?_⟩;refine ⟨_,rfl,p13,_,24,_,rfl,rfl,SqL.of aM,rfl,decide (24=ix),rfl,?_⟩;rw [h24];refine iteF ?_;refine ⟨_,rfl,p13,_,25,_,rfl,rfl,SqL.of aM,rfl,decide (25=ix),rfl,?_⟩;rw [h25];refine iteF ?_;refine ⟨_,rfl,z2_,?_⟩;intro p17 n17;generalize hH17:upd H16 p17 _=H17;have S17:Same H16 H17:=by (rw [← hH17];exact Same.new n17)
    have A17:=(congrFun hH17 p17).symm;rw [Zc] at A17;clear hH17;have T17:Same H H17:=T16.trans S17;refine ⟨p16,p17,_,_,rfl,rfl,(S17 _ _ A16),A17,by show 24≤sizeLine;decide,?_⟩;intro p18 n18;generalize hH18:upd H17 p18 _=H18;have S18:Same H17 H18:=by (rw [← hH18];exact Same.new n18)
    have A18:=(congrFun hH18 p18).symm;rw [Zc] at A18;clear hH18;have T18:Same H H18:=T17.trans S18;have aN:H18 p13=some (.lst ((mk26 ix).map V.bl)):=(S18 _ _ (S17 _ _ (S16 _ _ (S15 _ _ (S14 _ _ A13)))))
    obtain ⟨h1,h2,h3⟩:(mk26 ix)[ix]? = some true∧(∀ m,m<ix→(mk26 ix)[m]?≠some true)∧ix<26:=by
     rcases hix with rfl<;>exact ⟨rfl,by decide,by decide⟩
    refine ⟨_,rfl,.inl ⟨rfl,_,SqL.of aN⟩,p13,mk26 ix,ix,rfl,rfl,aN,h1,h2,by show 26≤1000;decide,?_⟩
    obtain ⟨w,hw,wq⟩:∃ w:Str,atI [V.str "whole",V.str "fraction",V.str "rows",V.str "plate",V.str "motions",V.str "loads",V.str "holding",V.str "ways",V.str "way",V.str "piece",V.str "stresses",V.str "balance",V.str "rest",V.str "rounds",V.str "frame",V.str "lot",V.str "inner",V.str "turning",V.str "firm",V.str "thick",V.str "deed",V.str "deeds",V.str "held",V.str "line"] ix=some (.str w)∧WRD.getD ix "" = w:=by
     rcases hix with rfl<;>exact ⟨_,rfl,rfl⟩
    refine ⟨p18,_,ix,_,rfl,rfl,SqL.of A18,hw,?_⟩;refine ⟨z1_,fun T nT=>?_⟩;rw [wq] at q;exact q T _ (T18.trans (Same.new nT)) Zc
abbrev Zbk:Stmt:=top 84
theorem Zgx (F:Fun K "_law_said" "_law_said" Zbk f fd) {cl:Str→Addr} (Z:Ek K mg cl) (H__law_kind:CalH P w K mg base "_law_kind" 2 ["_law_e"] (Zji K cl)):FnOk P w K mg base CX0 9 f fd ["_law_call"] (Zi4 P w K mg base cl):=by
 have sc:FnScope ["_law_call","_law_found","_law_e"] ["_law_call"] (Zg Zbk):=fsc (by decide +kernel);refine F.ok sc (fun vs H Q E h=>by obtain ⟨a,sp,o,fd',rfl,_⟩:=h;rfl) fun cdv A outer s H vs Q E hr h=>?_;obtain ⟨a,sp,o,fd',rfl,ho,hf,L,mo,q⟩:=h;have nd:=sc.nd;refine' ⟨_,?term,?read⟩
 case term =>
  refine' @Ze _ _ _ _ _ ?g1 ?g2
  case g1 =>
   refine' @Zta _ _ _ _ _ _ 2 _ _ _ _ (fun E=>tAsg (fun σ H Q=>∃ a sp o fd,σ[0]? = some (some (.ref a))∧H a=some (fzO o)∧o.data=.func fd∧Zld P w K mg base 8 a sp∧sp H Q E) (Xn 1)) _ rfl rfl ?b ?h rfl Z.mpe nd rfl rfl (by decide)
   case b =>
    intro pins E;refine' @Zf _ _ _ ?c0
    case c0 =>
     refine' @Zz _ _ (1) _ _ _ _ ?s0 ?s1 ?s2 ?c ?s3 ?s4
     case s0=>exact nd
     case s1=>rfl
     case s2=>exact Or.inl rfl
     case s3=>rfl
     case s4=>exact Or.inl rfl
     case c =>
      refine' @Zn7 _ 0 8 8 _ E _ _ P w K mg base ?n0 ?n1 ?n2 ?n3 ?n4 (n6_ _) ?n5 ?n6
      case n0=>exact ⟨rfl,rfl,rfl,rfl,rfl⟩
      case n1=>rfl
      case n2=>exact Or.inl rfl
      case n3=>exact Zq4 rfl
      case n4=>exact hr
      case n5=>decide
      case n6=>decide
   case h =>
    intro ea;refine' @Zf _ _ _ (Zl ?d)
    case d=>exact Zqw H__law_kind (hr.marked _) (by decide) rfl (Za (pv 2) Zb rfl)
  case g2 =>
   refine' @Zf _ _ _ (Zl (Yk (Za ?z Zb rfl)))
   case z=>exact pv 1
 refine ⟨a,sp,o,fd',rfl,ho,hf,L,mo _ _ _ _ _ (fun v H1 hq=>⟨_,rfl,z1_,hq⟩) (fun c a' H1 hq=>?_) q⟩;obtain ⟨C,ix,rfl,kk,hix,hq⟩:=hq;refine ⟨C,rfl,kk.pe,fun σ ea hl ne=>?_⟩
 obtain ⟨u1,u2,u3,rfl⟩:∃ u1 u2 u3,σ=[u1,u2,u3]:=by
  match σ,hl with
  | [u1,u2,u3],_=>exact ⟨u1,u2,u3,rfl⟩
 exact ⟨_,rfl,ea,C,ix,rfl,Zc,kk,hix,fun T H2 s2 hT=>hq T H2 ((Same.new ne).trans s2) hT⟩
abbrev Xh:Stmt:=top 90
theorem Zb2 (F:Fun K "_law_bad_plates" "_law_bad_plates" Xh f fd):FnOk P w K mg base CX0 1 f fd ["_law_plate_here","_law_odd_here"] (Zh1 K):=by
 have sc:FnScope ["_law_plate_here","_law_odd_here","_law_corners","_law_pieces","_law_thicks","_law_stuff","_law_some"] ["_law_plate_here","_law_odd_here"] (Zg Xh):=fsc (by decide +kernel);refine F.ok sc (fun vs H Q E h=>by obtain ⟨v,u,P',N,k,d,rfl,_⟩:=h;rfl) fun cdv A outer s H vs Q E hr h=>?_;obtain ⟨v,u,P',N,k,d,rfl,⟨a,c,p,t,st,rfl,ha,⟨ca,cus,rfl,hca,cal⟩,⟨pa,pus,rfl,hpa,pal⟩,⟨ta,rfl,hta⟩,⟨sa,rfl,hsa⟩⟩,ok,far,p4,c6,hd,hz4,q⟩:=h;have nd:=sc.nd;refine' ⟨_,?term,?read⟩
 case term=>refine' @Ze _ _ _ _ _ ?g1 ?g2;(case g1=>refine' @Y8 _ _ _ _ _ _ (pv 0) ?g3 (by rfl) (by rfl) (by rfl);case g3=>refine' @Yu _ _ _ _ _ (4) rfl (Zm (Zo (i:=2) nd rfl (Or.inl rfl)) (Zm (Zo (i:=3) nd rfl (Or.inl rfl)) (Zm (Zo (i:=4) nd rfl (Or.inl rfl)) (Zm (Zo (i:=5) nd rfl (Or.inl rfl)) Yb)))) (by rfl) (by rfl));case g2=>refine' @Ze _ _ _ _ _ ?g4 ?g5;(case g4=>refine' @Zz _ _ (6) _ _ _ _ nd rfl (Or.inl rfl) ?g6 (by rfl) (by first|exact Or.inl rfl|exact Or.inr rfl|assumption);case g6=>refine' @Yk _ _ _ _ ?g7;case g7=>refine' @Za _ _ _ _ _ Zp4 ?g8 rfl;case g8=>refine' @Za _ _ _ _ _ (Zu Zb) ?g9 rfl;case g9=>refine' @Za _ _ _ _ _ (Ye Zbc rfl T.b_list Zd0 (Za (pv 0) Zb rfl)) ?ga rfl;case ga=>refine' @Za _ _ _ _ _ ?gb (Za (Zt Zdv (pv 0) (Zu (Za Zd Zb rfl))) (Za (Zu (Za (Ye Zbc rfl T.b_list Zd0 (Za (pv 2) Zb rfl)) (Za (pv 3) (Za (pv 4) (Za (pv 5) Zb rfl) rfl) rfl) rfl)) (Za (pv 1) Zb rfl) rfl) rfl) rfl;case gb=>refine' @Xd _ _ _ _ _ _ _ _ _ _ Zab (pv 0) Xv (Xs Zd));case g5=>refine' @Ze _ _ _ _ _ ?gc ?gd;(case gc=>refine' @Zz _ _ (6) _ _ _ _ nd rfl (Or.inl rfl) ?ge (by rfl) (by first|exact Or.inl rfl|exact Or.inr rfl|assumption);case ge=>refine' @Zt _ _ _ _ _ _ _ _ Zag (pv 6) ?gf;case gf=>refine' @Yk _ _ _ _ ?gg;case gg=>refine' @Za _ _ _ _ _ (Zu (Za (pv 2) (Za (pv 3) (Za (pv 4) (Za (Zu (Za Zd (Za Zd Zb rfl) rfl)) Zb rfl) rfl) rfl) rfl)) (Za (Zu (Za (pv 2) (Za (pv 3) (Za (pv 4) (Za (Zu (Za Zd (Za Zd Zb rfl) rfl)) Zb rfl) rfl) rfl) rfl)) Zb rfl) rfl);case gd=>refine' @Ze _ _ _ _ _ ?gh ?gi;(case gh=>refine' @Zbn _ _ _ _ ?gj (by rfl);case gj=>refine' @Zh5 _ _ _ _ _ _ _ _ _ _ _ _ PySem.F.plainAttrs_list PySem.F.slot_list_append PySem.F.type_list_append Zdz (pv 6) (Za (Zu (Za (pv 2) (Za (Zu Zb) (Za (Zu Zb) (Za (pv 5) Zb rfl) rfl) rfl) rfl)) Zb rfl) (by rfl) (by rfl) (by rfl) (by rfl) (by rfl));case gi=>refine' @Ze _ _ _ _ _ ?gk ?gl;(case gk=>refine' @Zz _ _ (6) _ _ _ _ nd rfl (Or.inl rfl) ?gm (by rfl) (by first|exact Or.inl rfl|exact Or.inr rfl|assumption);case gm=>refine' @Zt _ _ _ _ _ _ _ _ Zag (pv 6) ?gn;case gn=>refine' @Yk _ _ _ _ ?go;case go=>refine' @Za _ _ _ _ _ ?gp (Za (Zu (Za (pv 2) (Za (pv 3) (Za (Zt Zgr (Zu (Za Zd Zb rfl)) (Zh Zn rfl T.b_len Z8 (Za (pv 3) Zb rfl))) (Za (pv 5) Zb rfl) rfl) rfl) rfl)) Zb rfl) rfl;case gp=>refine' @Zu _ _ _ _ _ ?gq;case gq=>refine' @Za _ _ _ _ _ (pv 2) ?gr rfl;case gr=>refine' @Za _ _ _ _ _ (pv 3) ?gs rfl;case gs=>refine' @Za _ _ _ _ _ ?gt (Za (pv 5) Zb rfl) rfl;case gt=>refine' @Xd _ _ _ _ _ _ _ _ _ _ Zab (pv 4) (Xs Zd) Xv);case gl=>refine' @Zf _ _ _ ?gu;case gu=>refine' @Zl _ _ _ _ ?gv;case gv=>refine' @Zt _ _ _ _ _ _ _ _ Zag (pv 6) ?gw;case gw=>refine' @Yk _ _ _ _ ?gx;case gx=>refine' @Za _ _ _ _ _ (Zu (Za (Zt Zdv (pv 2) (Zu (Za (Zu (Za Zd (Za Zd Zb rfl) rfl)) Zb rfl))) (Za (pv 3) (Za (pv 4) (Za (pv 5) Zb rfl) rfl) rfl) rfl)) (Za (Zu (Za (pv 2) (Za (Zt Zgr (pv 3) Zd) (Za (Zt Zgr (pv 4) Zd) (Za (pv 5) Zb rfl) rfl) rfl) rfl)) Zb rfl) rfl
 have hc:IsCs H (.ref ca) P'.cs:=⟨ca,cus,rfl,hca,cal⟩;have hp:IsPs H (.ref pa) P'.ps:=⟨pa,pus,rfl,hpa,pal⟩;have ht:IsI H (.ref ta) P'.ts:=⟨ta,rfl,hta⟩;have hs:IsI H (.ref sa) [P'.l,P'.m]:=⟨sa,rfl,hsa⟩;have cl':=cal.1;have pl':=pal.1;have p1:=ok.p1;have t1:=ok.t1;have sz:∀ n:Nat,n≤100→n≤sizeLine:=fun n h=>n32_ h (by decide);refine ⟨_,rfl,a,_,rfl,SqT.of ha,rfl,.ref ca,_,rfl,.ref pa,_,rfl,.ref ta,_,rfl,.ref sa,_,rfl,rfl,?_⟩;refine ⟨z0_,?_⟩;intro p1 n1;generalize hH1:upd H p1 _=H1;have S1:Same H H1:=by (rw [← hH1];exact Same.new n1)
 have A1:=(congrFun hH1 p1).symm;rw [Zc] at A1;clear hH1;refine ⟨_,rfl,a,_,rfl,.inr (SqT.of (S1 _ _ ha)),?_⟩;intro p2 n2 m2;generalize hH2:upd H1 p2 _=H2;have S2:Same H1 H2:=by (rw [← hH2];exact Same.new n2)
 have A2:=(congrFun hH2 p2).symm;rw [Zc] at A2;clear hH2;refine ⟨_,rfl,_,rfl,a,_,rfl,(S2 _ _ (S1 _ _ ha)),fun p3 H3 S3 A3=>?_⟩;refine ⟨_,rfl,z1_,?_⟩;intro p4 n4;generalize hH4:upd H3 p4 _=H4;have S4:Same H3 H4:=by (rw [← hH4];exact Same.new n4)
 have A4:=(congrFun hH4 p4).symm;rw [Zc] at A4;clear hH4;refine ⟨a,p4,_,_,rfl,rfl,(S4 _ _ (S3 _ _ (S2 _ _ (S1 _ _ ha)))),A4,z5_,fun p5 H5 S5 A5=>?_⟩;refine ⟨_,rfl,ca,cus,rfl,.inr (SqT.of (S5 _ _ (S4 _ _ (S3 _ _ (S2 _ _ (S1 _ _ hca)))))),?_⟩;intro p6 n6 m6;generalize hH6:upd H5 p6 _=H6;have S6:Same H5 H6:=by (rw [← hH6];exact Same.new n6)
 have A6:=(congrFun hH6 p6).symm;rw [Zc] at A6;clear hH6;refine ⟨_,rfl,_,rfl,_,rfl,z4_,?_⟩;intro p7 n7;generalize hH7:upd H6 p7 _=H7;have S7:Same H6 H7:=by (rw [← hH7];exact Same.new n7)
 have A7:=(congrFun hH7 p7).symm;rw [Zc] at A7;clear hH7;refine ⟨_,rfl,by show 7≤sizeLine;decide,?_⟩;intro p8 n8;generalize hH8:upd H7 p8 _=H8;have S8:Same H7 H8:=by (rw [← hH8];exact Same.new n8)
 have A8:=(congrFun hH8 p8).symm;rw [Zc] at A8;clear hH8;refine ⟨_,rfl,_,rfl,_,rfl,_,rfl,z2_,?_⟩;intro p9 n9;generalize hH9:upd H8 p9 _=H9;have S9:Same H8 H9:=by (rw [← hH9];exact Same.new n9)
 have A9:=(congrFun hH9 p9).symm;rw [Zc] at A9;clear hH9;refine ⟨z4_,?_⟩;intro p10 n10;generalize hH10:upd H9 p10 _=H10;have S10:Same H9 H10:=by (rw [← hH10];exact Same.new n10)
 have A10:=(congrFun hH10 p10).symm;rw [Zc] at A10;clear hH10;refine ⟨_,rfl,_,rfl,_,rfl,z2_,?_⟩;intro p11 n11;generalize hH11:upd H10 p11 _=H11;have S11:Same H10 H11:=by (rw [← hH11];exact Same.new n11)
 have A11:=(congrFun hH11 p11).symm;rw [Zc] at A11;clear hH11;refine ⟨z4_,?_⟩;intro p12 n12;generalize hH12:upd H11 p12 _=H12;have S12:Same H11 H12:=by (rw [← hH12];exact Same.new n12)
 have A12:=(congrFun hH12 p12).symm;rw [Zc] at A12;clear hH12;refine ⟨z2_,?_⟩;intro p13 n13;generalize hH13:upd H12 p13 _=H13;have S13:Same H12 H13:=by (rw [← hH13];exact Same.new n13)
 have A13:=(congrFun hH13 p13).symm;rw [Zc] at A13;clear hH13;refine ⟨p8,p13,_,_,rfl,rfl,(S13 _ _ (S12 _ _ (S11 _ _ (S10 _ _ (S9 _ _ A8))))),A13,by show 9≤sizeLine;decide,?_⟩;intro p14 n14;generalize hH14:upd H13 p14 _=H14;have S14:Same H13 H14:=by (rw [← hH14];exact Same.new n14)
 have A14:=(congrFun hH14 p14).symm;rw [Zc] at A14;clear hH14;refine ⟨_,rfl,.inl ⟨rfl,_,SqL.of A14⟩,_,rfl,z0_,?_⟩;intro p15 n15;generalize hH15:upd H14 p15 _=H15;have S15:Same H14 H15:=by (rw [← hH15];exact Same.new n15)
 have A15:=(congrFun hH15 p15).symm;rw [Zc] at A15;clear hH15;refine ⟨z0_,?_⟩;intro p16 n16;generalize hH16:upd H15 p16 _=H16;have S16:Same H15 H16:=by (rw [← hH16];exact Same.new n16)
 have A16:=(congrFun hH16 p16).symm;rw [Zc] at A16;clear hH16;refine ⟨_,rfl,z4_,?_⟩;intro p17 n17;generalize hH17:upd H16 p17 _=H17;have S17:Same H16 H17:=by (rw [← hH17];exact Same.new n17)
 have A17:=(congrFun hH17 p17).symm;rw [Zc] at A17;clear hH17;have QL:H17 p14=some (.lst (([.non,.ref p1,.ref p2,.ref p3,.ref p5,.ref p7,u]++[.ref p10,.ref p12]):List V)):=(S17 _ _ (S16 _ _ (S15 _ _ A14)));refine ⟨p14,_,_,rfl,rfl,QL,by show 9<sizeLine;decide,?_⟩;generalize hHz:upd H17 p14 _=Hz;have Kz:Keep p14 H17 Hz:=by (rw [← hHz];exact Keep.upd)
 have Az:Hz p14=some (.lst ((([.non,.ref p1,.ref p2,.ref p3,.ref p5,.ref p7,u]++[.ref p10,.ref p12]):List V)++[.ref p17])):=by (rw [← hHz];exact Zc)
 clear hHz;have Sz:Same H13 Hz:=fun b o e=>Kz b o (Zr e n14) ((S14.trans (S15.trans (S16.trans S17))) b o e);have S0:Same H Hz:=(S1.trans (S2.trans (S3.trans (S4.trans (S5.trans (S6.trans (S7.trans (S8.trans (S9.trans (S10.trans (S11.trans (S12.trans S13)))))))))))).trans Sz;have B1:=(Sz _ _ (S13 _ _ (S12 _ _ (S11 _ _ (S10 _ _ (S9 _ _ (S8 _ _ (S7 _ _ (S6 _ _ (S5 _ _ (S4 _ _ (S3 _ _ (S2 _ _ A1)))))))))))));have B2:=(Sz _ _ (S13 _ _ (S12 _ _ (S11 _ _ (S10 _ _ (S9 _ _ (S8 _ _ (S7 _ _ (S6 _ _ (S5 _ _ (S4 _ _ (S3 _ _ A2))))))))))));have B3:=(Sz _ _ (S13 _ _ (S12 _ _ (S11 _ _ (S10 _ _ (S9 _ _ (S8 _ _ (S7 _ _ (S6 _ _ (S5 _ _ (S4 _ _ A3)))))))))));have B5:=(Sz _ _ (S13 _ _ (S12 _ _ (S11 _ _ (S10 _ _ (S9 _ _ (S8 _ _ (S7 _ _ (S6 _ _ A5)))))))));have B6:=(Sz _ _ (S13 _ _ (S12 _ _ (S11 _ _ (S10 _ _ (S9 _ _ (S8 _ _ (S7 _ _ A6))))))));have B7:=(Sz _ _ (S13 _ _ (S12 _ _ (S11 _ _ (S10 _ _ (S9 _ _ (S8 _ _ A7)))))));have B9:=(Sz _ _ (S13 _ _ (S12 _ _ (S11 _ _ (S10 _ _ A9)))));have B10:=(Sz _ _ (S13 _ _ (S12 _ _ (S11 _ _ A10))));have B11:=(Sz _ _ (S13 _ _ (S12 _ _ A11)));have B12:=(Sz _ _ (S13 _ _ A12));have B15:=(Kz _ _ (Zdd (S17 _ _ (S16 _ _ A15)) QL (by intro z;cases z)) (S17 _ _ (S16 _ _ A15)));have B16:=(Kz _ _ (Zdd (S17 _ _ A16) QL (by intro z;cases z)) (S17 _ _ A16));have B17:=(Kz _ _ (Zdd A17 QL (by intro z;cases z)) A17);refine ⟨_,rfl,_,rfl,_,rfl,_,rfl,_,rfl,ta,_,rfl,(S0 _ _ hta),fun pz1 Hz1 Sz1 Az1=>?_⟩;refine ⟨_,rfl,z4_,?_⟩;intro pz2 nz2;generalize hHz2:upd Hz1 pz2 _=Hz2;have Sz2:Same Hz1 Hz2:=by (rw [← hHz2];exact Same.new nz2)
 have Az2:=(congrFun hHz2 pz2).symm;rw [Zc] at Az2;clear hHz2;refine ⟨_,rfl,_,rfl,z1_,?_⟩;intro pz3 nz3;generalize hHz3:upd Hz2 pz3 _=Hz3;have Sz3:Same Hz2 Hz3:=by (rw [← hHz3];exact Same.new nz3)
 have Az3:=(congrFun hHz3 pz3).symm;rw [Zc] at Az3;clear hHz3;refine ⟨_,rfl,pa,pus,rfl,.inr (SqT.of (Sz3 _ _ (Sz2 _ _ (Sz1 _ _ (S0 _ _ hpa))))),pz3,_,_,rfl,rfl,Az3,by omega,by omega,by simp,by simp,fun pz4 Hz4 Sz4 Az4=>?_⟩;refine ⟨_,rfl,z4_,?_⟩;intro pz5 nz5;generalize hHz5:upd Hz4 pz5 _=Hz5;have Sz5:Same Hz4 Hz5:=by (rw [← hHz5];exact Same.new nz5)
 have Az5:=(congrFun hHz5 pz5).symm;rw [Zc] at Az5;clear hHz5;refine ⟨z2_,?_⟩;intro pz6 nz6;generalize hHz6:upd Hz5 pz6 _=Hz6;have Sz6:Same Hz5 Hz6:=by (rw [← hHz6];exact Same.new nz6)
 have Az6:=(congrFun hHz6 pz6).symm;rw [Zc] at Az6;clear hHz6;refine ⟨p14,pz6,_,_,rfl,rfl,(Sz6 _ _ (Sz5 _ _ (Sz4 _ _ (Sz3 _ _ (Sz2 _ _ (Sz1 _ _ Az)))))),Az6,by show 12≤sizeLine;decide,?_⟩;intro pz7 nz7;generalize hHz7:upd Hz6 pz7 _=Hz7;have Sz7:Same Hz6 Hz7:=by (rw [← hHz7];exact Same.new nz7)
 have Az7:=(congrFun hHz7 pz7).symm;rw [Zc] at Az7;clear hHz7;refine ⟨_,rfl,_,rfl,z2_,?_⟩;intro pz8 nz8;generalize hHz8:upd Hz7 pz8 _=Hz8;have Sz8:Same Hz7 Hz8:=by (rw [← hHz8];exact Same.new nz8)
 have Az8:=(congrFun hHz8 pz8).symm;rw [Zc] at Az8;clear hHz8;refine ⟨z1_,?_⟩;intro pz9 nz9;generalize hHz9:upd Hz8 pz9 _=Hz9;have Sz9:Same Hz8 Hz9:=by (rw [← hHz9];exact Same.new nz9)
 have Az9:=(congrFun hHz9 pz9).symm;rw [Zc] at Az9;clear hHz9;refine ⟨ca,pz9,_,_,rfl,rfl,(Sz9 _ _ (Sz8 _ _ (Sz7 _ _ (Sz6 _ _ (Sz5 _ _ (Sz4 _ _ (Sz3 _ _ (Sz2 _ _ (Sz1 _ _ (S0 _ _ hca)))))))))),Az9,sz _ (by simp;omega),fun pz10 Hz10 Sz10 Az10=>?_⟩;refine ⟨_,rfl,_,rfl,_,rfl,z4_,?_⟩;intro pz11 nz11;generalize hHz11:upd Hz10 pz11 _=Hz11;have Sz11:Same Hz10 Hz11:=by (rw [← hHz11];exact Same.new nz11)
 have Az11:=(congrFun hHz11 pz11).symm;rw [Zc] at Az11;clear hHz11;refine ⟨_,rfl,_,rfl,pa,2,_,rfl,rfl,(Sz11 _ _ (Sz10 _ _ (Sz9 _ _ (Sz8 _ _ (Sz7 _ _ (Sz6 _ _ (Sz5 _ _ (Sz4 _ _ (Sz3 _ _ (Sz2 _ _ (Sz1 _ _ (S0 _ _ hpa)))))))))))),by decide,by decide,by intro z;rw [z] at pl';simp at pl';omega,by omega,fun pz12 Hz12 Sz12 Az12=>?_⟩;refine ⟨_,rfl,ta,2,_,rfl,rfl,(Sz12 _ _ (Sz11 _ _ (Sz10 _ _ (Sz9 _ _ (Sz8 _ _ (Sz7 _ _ (Sz6 _ _ (Sz5 _ _ (Sz4 _ _ (Sz3 _ _ (Sz2 _ _ (Sz1 _ _ (S0 _ _ hta))))))))))))),by decide,by decide,by intro z;have:=congrArg List.length z;simp at this;rw [this] at t1;simp at t1;omega,by simp;omega,fun pz13 Hz13 Sz13 Az13=>?_⟩;refine ⟨_,rfl,z4_,?_⟩;intro pz14 nz14;generalize hHz14:upd Hz13 pz14 _=Hz14;have Sz14:Same Hz13 Hz14:=by (rw [← hHz14];exact Same.new nz14)
 have Az14:=(congrFun hHz14 pz14).symm;rw [Zc] at Az14;clear hHz14;refine ⟨z2_,?_⟩;intro pz15 nz15;generalize hHz15:upd Hz14 pz15 _=Hz15;have Sz15:Same Hz14 Hz15:=by (rw [← hHz15];exact Same.new nz15)
 have Az15:=(congrFun hHz15 pz15).symm;rw [Zc] at Az15;clear hHz15;refine ⟨pz7,pz15,_,_,rfl,rfl,(Sz15 _ _ (Sz14 _ _ (Sz13 _ _ (Sz12 _ _ (Sz11 _ _ (Sz10 _ _ (Sz9 _ _ (Sz8 _ _ Az7)))))))),Az15,by show 14≤sizeLine;decide,?_⟩;intro pz16 nz16;generalize hHz16:upd Hz15 pz16 _=Hz16;have Sz16:Same Hz15 Hz16:=by (rw [← hHz16];exact Same.new nz16)
 have Az16:=(congrFun hHz16 pz16).symm;rw [Zc] at Az16;clear hHz16;have SF:Same H Hz16:=S0.trans (Sz1.trans (Sz2.trans (Sz3.trans (Sz4.trans (Sz5.trans (Sz6.trans (Sz7.trans (Sz8.trans (Sz9.trans (Sz10.trans (Sz11.trans (Sz12.trans (Sz13.trans (Sz14.trans (Sz15.trans Sz16)))))))))))))));have hcF:=hc.tk SF.tk;have hpF:=hp.tk SF.tk;have htF:=ht.tk SF.tk;have hsF:=hs.tk SF.tk;have F3:=(Sz16 _ _ (Sz15 _ _ (Sz14 _ _ (Sz13 _ _ (Sz12 _ _ (Sz11 _ _ (Sz10 _ _ (Sz9 _ _ (Sz8 _ _ (Sz7 _ _ (Sz6 _ _ (Sz5 _ _ (Sz4 _ _ (Sz3 _ _ (Sz2 _ _ (Sz1 _ _ B3))))))))))))))));have G5:=(Sz16 _ _ (Sz15 _ _ (Sz14 _ _ (Sz13 _ _ (Sz12 _ _ (Sz11 _ _ (Sz10 _ _ (Sz9 _ _ (Sz8 _ _ (Sz7 _ _ (Sz6 _ _ (Sz5 _ _ (Sz4 _ _ (Sz3 _ _ (Sz2 _ _ Az1)))))))))))))));have G10:=(Sz16 _ _ (Sz15 _ _ (Sz14 _ _ (Sz13 _ _ (Sz12 _ _ (Sz11 _ _ (Sz10 _ _ (Sz9 _ _ (Sz8 _ _ (Sz7 _ _ (Sz6 _ _ (Sz5 _ _ Az4))))))))))));have Gc:=(Sz16 _ _ (Sz15 _ _ (Sz14 _ _ (Sz13 _ _ (Sz12 _ _ (Sz11 _ _ Az10))))));have Gp:=(Sz16 _ _ (Sz15 _ _ (Sz14 _ _ (Sz13 _ _ Az12))));rw [show (3:Int)=((3:Nat):Int) from rfl,Zo5] at F3;rw [cut1] at G5;have G11:Hz16 pz4=some (.tup ((List.replicate P'.ps.length 10).map V.int)):=by (rw [G10,Zdh,List.map_replicate,n62_,pl'])
 have hc9:IsCs Hz16 (.ref pz10) (P'.cs++[(99,99)]):=⟨pz10,_,rfl,Gc,(cal.imp fun v x r=>r.tk SF.tk).snoc ⟨pz8,rfl,(Sz16 _ _ (Sz15 _ _ (Sz14 _ _ (Sz13 _ _ (Sz12 _ _ (Sz11 _ _ (Sz10 _ _ (Sz9 _ _ Az8))))))))⟩⟩;have nr9:∀ p∈P'.cs++[((99:Int),(99:Int))],near p:=fun p hp=>(n57_.mp hp).elim (ok.nr p) (fun e=>by rw [n60_.mp e];exact ⟨⟨by decide,by decide⟩,by decide,by decide⟩)
 have nd9:(P'.cs++[((99:Int),(99:Int))]).Nodup:=by
  rw [List.nodup_append];refine ⟨ok.nd,by simp,fun x hx y hy e=>?_⟩
  have:=far x hx
  rw [e,n60_.mp hy] at this;exact absurd this (by decide)
 have hp9:IsPs Hz16 (.ref pz12) (P'.ps++P'.ps):=⟨pz12,pus++pus,rfl,by (rw [Gp];simp),Zr2 (pal.imp fun v x r=>r.tk SF.tk) (pal.imp fun v x r=>r.tk SF.tk)⟩;have X1:Bds K Hz16 [.non,.ref p1,.ref p2,.ref p3,.ref p5,.ref p7,u]:=(Bds.cons (.row (.inl ⟨_,TyOf.non,rfl⟩)) (Bds.cons (.row (.inr ⟨p1,_,rfl,(Sz16 _ _ (Sz15 _ _ (Sz14 _ _ (Sz13 _ _ (Sz12 _ _ (Sz11 _ _ (Sz10 _ _ (Sz9 _ _ (Sz8 _ _ (Sz7 _ _ (Sz6 _ _ (Sz5 _ _ (Sz4 _ _ (Sz3 _ _ (Sz2 _ _ (Sz1 _ _ B1)))))))))))))))),by simp⟩)) (Bds.cons (.row (.inl ⟨_,TyOf.lst (Sz16 _ _ (Sz15 _ _ (Sz14 _ _ (Sz13 _ _ (Sz12 _ _ (Sz11 _ _ (Sz10 _ _ (Sz9 _ _ (Sz8 _ _ (Sz7 _ _ (Sz6 _ _ (Sz5 _ _ (Sz4 _ _ (Sz3 _ _ (Sz2 _ _ (Sz1 _ _ B2)))))))))))))))),rfl⟩)) (Bds.cons (.row (.inr ⟨p3,_,rfl,F3,by simp⟩)) (Bds.cons (.row (.inr ⟨p5,_,rfl,(Sz16 _ _ (Sz15 _ _ (Sz14 _ _ (Sz13 _ _ (Sz12 _ _ (Sz11 _ _ (Sz10 _ _ (Sz9 _ _ (Sz8 _ _ (Sz7 _ _ (Sz6 _ _ (Sz5 _ _ (Sz4 _ _ (Sz3 _ _ (Sz2 _ _ (Sz1 _ _ B5)))))))))))))))),by simp⟩)) (Bds.cons (.cs (Sz16 _ _ (Sz15 _ _ (Sz14 _ _ (Sz13 _ _ (Sz12 _ _ (Sz11 _ _ (Sz10 _ _ (Sz9 _ _ (Sz8 _ _ (Sz7 _ _ (Sz6 _ _ (Sz5 _ _ (Sz4 _ _ (Sz3 _ _ (Sz2 _ _ (Sz1 _ _ B7)))))))))))))))) ⟨_,TyOf.lst (Sz16 _ _ (Sz15 _ _ (Sz14 _ _ (Sz13 _ _ (Sz12 _ _ (Sz11 _ _ (Sz10 _ _ (Sz9 _ _ (Sz8 _ _ (Sz7 _ _ (Sz6 _ _ (Sz5 _ _ (Sz4 _ _ (Sz3 _ _ (Sz2 _ _ (Sz1 _ _ B6)))))))))))))))),rfl⟩) (Bds.cons (.row (row4 (hd.same SF) hz4)) Bds.nil)))))));have X2:Bds K Hz16 [.ref p10,.ref p12]:=(Bds.cons (.st (Sz16 _ _ (Sz15 _ _ (Sz14 _ _ (Sz13 _ _ (Sz12 _ _ (Sz11 _ _ (Sz10 _ _ (Sz9 _ _ (Sz8 _ _ (Sz7 _ _ (Sz6 _ _ (Sz5 _ _ (Sz4 _ _ (Sz3 _ _ (Sz2 _ _ (Sz1 _ _ B10)))))))))))))))) hcF ok.c3 ok.c30 ok.nr ok.nd hpF ok.p1 ok.p40 ok.pc ok.rise htF ok.t1 ok.t9 ⟨p9,rfl,(Sz16 _ _ (Sz15 _ _ (Sz14 _ _ (Sz13 _ _ (Sz12 _ _ (Sz11 _ _ (Sz10 _ _ (Sz9 _ _ (Sz8 _ _ (Sz7 _ _ (Sz6 _ _ (Sz5 _ _ (Sz4 _ _ (Sz3 _ _ (Sz2 _ _ (Sz1 _ _ B9))))))))))))))))⟩ (by decide) (by decide) (by decide)) (Bds.cons (.st (Sz16 _ _ (Sz15 _ _ (Sz14 _ _ (Sz13 _ _ (Sz12 _ _ (Sz11 _ _ (Sz10 _ _ (Sz9 _ _ (Sz8 _ _ (Sz7 _ _ (Sz6 _ _ (Sz5 _ _ (Sz4 _ _ (Sz3 _ _ (Sz2 _ _ (Sz1 _ _ B12)))))))))))))))) hcF ok.c3 ok.c30 ok.nr ok.nd hpF ok.p1 ok.p40 ok.pc ok.rise htF ok.t1 ok.t9 ⟨p11,rfl,(Sz16 _ _ (Sz15 _ _ (Sz14 _ _ (Sz13 _ _ (Sz12 _ _ (Sz11 _ _ (Sz10 _ _ (Sz9 _ _ (Sz8 _ _ (Sz7 _ _ (Sz6 _ _ (Sz5 _ _ (Sz4 _ _ (Sz3 _ _ (Sz2 _ _ (Sz1 _ _ B11))))))))))))))))⟩ (by decide) (by decide) (by decide)) Bds.nil));have X3:Bds K Hz16 [.ref p17]:=(Bds.cons (.psN (Sz16 _ _ (Sz15 _ _ (Sz14 _ _ (Sz13 _ _ (Sz12 _ _ (Sz11 _ _ (Sz10 _ _ (Sz9 _ _ (Sz8 _ _ (Sz7 _ _ (Sz6 _ _ (Sz5 _ _ (Sz4 _ _ (Sz3 _ _ (Sz2 _ _ (Sz1 _ _ B17)))))))))))))))) hcF ok.c3 ok.c30 ok.nr ok.nd (Sz16 _ _ (Sz15 _ _ (Sz14 _ _ (Sz13 _ _ (Sz12 _ _ (Sz11 _ _ (Sz10 _ _ (Sz9 _ _ (Sz8 _ _ (Sz7 _ _ (Sz6 _ _ (Sz5 _ _ (Sz4 _ _ (Sz3 _ _ (Sz2 _ _ (Sz1 _ _ B15))))))))))))))))) Bds.nil);have X4:Bds K Hz16 [.ref pz2,.ref pz5]:=(Bds.cons (.tsN (Sz16 _ _ (Sz15 _ _ (Sz14 _ _ (Sz13 _ _ (Sz12 _ _ (Sz11 _ _ (Sz10 _ _ (Sz9 _ _ (Sz8 _ _ (Sz7 _ _ (Sz6 _ _ (Sz5 _ _ (Sz4 _ _ (Sz3 _ _ Az2)))))))))))))) hcF ok.c3 ok.c30 ok.nr ok.nd hpF ok.p1 ok.p40 ok.pc ok.rise G5 (by simp;omega)) (Bds.cons (.tsO (ts:=List.replicate P'.ps.length 10) (Sz16 _ _ (Sz15 _ _ (Sz14 _ _ (Sz13 _ _ (Sz12 _ _ (Sz11 _ _ (Sz10 _ _ (Sz9 _ _ (Sz8 _ _ (Sz7 _ _ (Sz6 _ _ Az5))))))))))) hcF ok.c3 ok.c30 ok.nr ok.nd hpF ok.p1 ok.p40 ok.pc ok.rise ⟨pz4,rfl,G11⟩ (by simp) (fun t ht=>by rw [List.eq_of_mem_replicate ht];decide) ⟨10,List.mem_replicate.mpr ⟨by omega,rfl⟩,by decide⟩) Bds.nil))
 have X5:Bds K Hz16 [.ref pz11,.ref pz14]:=(Bds.cons (.us (Sz16 _ _ (Sz15 _ _ (Sz14 _ _ (Sz13 _ _ (Sz12 _ _ Az11))))) hc9 (by rw [n25_];have:=ok.c3;omega) (by rw [n25_];simp only [n16_,n59_];omega) nr9 nd9 hpF ok.p1 ok.p40 (fun p hp=>Zma (ok.pc p hp)) ok.rise htF ok.t1 ok.t9 hsF ok.l9 ok.m9 (by rw [ok.used,n25_];simp)) (Bds.cons (.psR (Sz16 _ _ (Sz15 _ _ Az14)) hcF ok.c3 ok.c30 ok.nr ok.nd hp9 (by rw [n25_];omega) (by rw [n25_];omega) (fun p hp=>ok.pc p ((n57_.mp hp).elim id id)) (Znt ok.p1 (fun p hp=>(ok.pc p hp).len) ok.rise)) Bds.nil));exact q _ _ _ SF Az16 (by cases e:H pz16 with|none=>rfl|some o=>exact absurd ((Sz1.trans (Sz2.trans (Sz3.trans (Sz4.trans (Sz5.trans (Sz6.trans (Sz7.trans (Sz8.trans (Sz9.trans (Sz10.trans (Sz11.trans (Sz12.trans (Sz13.trans (Sz14.trans Sz15)))))))))))))) _ _ (S0 _ _ e)) (by rw [nz16];simp)) ((((X1.app X2).app X3).app X4).app X5) (by show 14≤100;decide)
abbrev Zad:Stmt:=top 72
theorem Zec (F:Fun K "_law_cell_at" "_law_cell_at" Zad f fd):FnOk P w K mg base CX0 1 f fd ["_law_script","_law_k"] (Zmd K):=by
 have sc:FnScope ["_law_script","_law_k"] ["_law_script","_law_k"] (Zg Zad):=fsc (by decide +kernel);refine F.ok sc (fun vs H Q E h=>by obtain ⟨a,ns,k,rfl,_⟩:=h;rfl) fun cdv A outer s H vs Q E hr h=>?_;obtain ⟨a,ns,k,rfl,hS,q⟩:=h;refine' ⟨_,?term,?read⟩
 case term=>refine' @Ze _ _ _ _ _ ?g1 (Zf (Zl Zd));case g1=>refine' @Zy _ _ _ _ _ _ _ _ (Z4 Zlv (pv 1) (Zh Zn rfl T.b_len Z8 (Za (pv 0) Zb rfl)) (Zx _)) ?g2 Zp;case g2=>refine' @Zf _ _ _ ?g3;case g3=>refine' @Zl _ _ _ _ ?g4;case g4=>refine' @Z3 _ _ _ _ _ _ _ Yh (pv 0) (pv 1) (fun _ _=>rfl)
 refine ⟨_,rfl,_,rfl,a,_,rfl,.inl hS,_,_,rfl,rfl,_,rfl,?_⟩;refine ite2 (fun hlt=>?_) (fun _=>q 0)
 have hk:k<ns.length:=by
  have z:=n31_ hlt;rw [n23_] at z;omega
 exact ⟨_,rfl,_,rfl,a,_,_,_,rfl,rfl,hS,Zay (by rw [n11_,n1_ hk];rfl),q _⟩
abbrev Za7:Stmt:=top 73
theorem Zfv (F:Fun K "_law_state" "_law_state" Za7 f fd) (Cam_:a40_ P w K mg base):FnOk P w K mg base CX0 2 f fd ["_law_script","_law_k"] (Zjr K):=by
 have sc:FnScope ["_law_script","_law_k","_law_cell"] ["_law_script","_law_k"] (Zg Za7):=fsc (by decide +kernel);refine F.ok sc (fun vs H Q E h=>by obtain ⟨a,ns,k,rfl,_⟩:=h;rfl) fun cdv A outer s H vs Q E hr h=>?_;obtain ⟨a,ns,k,rfl,hS,q⟩:=h;have nd:=sc.nd;refine' ⟨_,?term,?read⟩
 case term=>refine' @Ze _ _ _ _ _ ?g1 ?g2;(case g1=>refine' @Zz _ _ (2) _ _ _ _ nd rfl (Or.inl rfl) (Zi Cam_ hr (by decide) rfl (Za (pv 0) (Za (pv 1) Zb rfl) rfl)) (by rfl) (by first|exact Or.inl rfl|exact Or.inr rfl|assumption));case g2=>refine' @Zf _ _ _ ?g3;case g3=>refine' @Zl _ _ _ _ ?g4;case g4=>refine' @Yk _ _ _ _ (Za (Zh (Zhn rfl) rfl T.b_max Zpw (Za Zd (Za (Zt Xw (pv 2) (Zt Zmc Zd Zd)) Zb rfl) rfl)) (Za (Zt Xl (Zt Za2 (pv 2) Zd) Zd) (Za Zd Zb rfl) rfl) rfl)
 refine ⟨_,rfl,_,rfl,a,ns,k,rfl,hS,fun c=>?_⟩;refine ⟨_,rfl,_,_,rfl,rfl,⟨by decide,by decide,by decide⟩,_,_,rfl,rfl,_,_,rfl,?_⟩;refine ⟨_,rfl,_,_,rfl,rfl,(by show (2147483629:Int)≠0;decide),_,_,rfl,rfl,(z3_),fun p hp=>q p _ hp (Same.new hp) ⟨_,_,_,Zc,?_,?_⟩⟩
 · have:=n49_ c (b:=2147483629) (by decide)
   omega
 · have:=n66_ c (b:=2147483629) (by decide)
   omega
abbrev Zao:Stmt:=top 74
theorem Zem (F:Fun K "_law_choice" "_law_choice" Zao f fd):FnOk P w K mg base CX0 1 f fd ["_law_state_here","_law_many"] Zd3:=by
 have sc:FnScope ["_law_state_here","_law_many","_law_found","_law_mixed"] ["_law_state_here","_law_many"] (Zg Zao):=fsc (by decide +kernel);refine F.ok sc (fun vs H Q E h=>by obtain ⟨l,m,rfl,_⟩:=h;rfl) fun cdv A outer s H vs Q E hr h=>?_;obtain ⟨l,m,rfl,⟨s0,s1,s2,hl,h0,h1⟩,hm,hz,q⟩:=h;have nd:=sc.nd;refine' ⟨_,?term,?read⟩
 case term=>refine' @Ze _ _ _ _ _ ?g1 ?g2;(case g1=>refine' @Zy _ _ _ _ _ _ _ _ ?g3 ?g4 Zp;(case g3=>refine' @Z4 _ _ _ _ _ _ _ _ Zln ?g5 Zd (Zx _);case g5=>refine' @Z3 _ _ _ _ _ _ _ Yh (pv 0) Zd (fun _ _=>rfl));case g4=>refine' @Ze _ _ _ _ _ ?g6 ?g7;(case g6=>refine' @Zz _ _ (2) _ _ _ _ nd rfl (Or.inl rfl) ?g8 (by rfl) (by first|exact Or.inl rfl|exact Or.inr rfl|assumption);case g8=>refine' @Zt _ _ _ _ _ _ _ _ Za2 ?g9 (pv 1);case g9=>refine' @Z3 _ _ _ _ _ _ _ Yh (pv 0) Zd (fun _ _=>rfl));case g7=>refine' @Ze _ _ _ _ _ ?ga (Zf (Zl (pv 2)));case ga=>refine' @Y8 _ _ _ _ _ _ ?gb ?gc (by rfl) (by rfl) (by rfl);(case gb=>refine' @Zt _ _ _ _ _ _ _ _ Zce ?gd (pv 1);case gd=>refine' @Z3 _ _ _ _ _ _ _ Yh (pv 0) Zd (fun _ _=>rfl));case gc=>refine' @Zhg _ _ _ _ _ _ _ (pv 0) Zd Zbx (by intro _ ;rfl));case g2=>refine' @Ze _ _ _ _ _ ?ge ?gf;(case ge=>refine' @Y8 _ _ _ _ _ _ ?gg ?gh (by rfl) (by rfl) (by rfl);(case gg=>refine' @Zt _ _ _ _ _ _ _ _ Xl ?gi Zd;case gi=>refine' @Z3 _ _ _ _ _ _ _ Yh (pv 0) Zd (fun _ _=>rfl));case gh=>refine' @Zhg _ _ _ _ _ _ _ (pv 0) Zd Zbx (by intro _ ;rfl));case gf=>refine' @Ze _ _ _ _ _ ?gj ?gk;(case gj=>refine' @Y8 _ _ _ _ _ _ ?gl ?gm (by rfl) (by rfl) (by rfl);(case gl=>refine' @Zt _ _ _ _ _ _ _ _ Za2 ?gn Zd;case gn=>refine' @Zt _ _ _ _ _ _ _ _ Xl ?go ?gp;(case go=>refine' @Zt _ _ _ _ _ _ _ _ Xl ?gq Zd;case gq=>refine' @Zt _ _ _ _ _ _ _ _ Xf ?gr Zd;case gr=>refine' @Z3 _ _ _ _ _ _ _ Yh (pv 0) Zd (fun _ _=>rfl));case gp=>refine' @Z3 _ _ _ _ _ _ _ Yh (pv 0) Zd (fun _ _=>rfl));case gm=>refine' @Zhg _ _ _ _ _ _ _ (pv 0) Zd Zbx (by intro _ ;rfl));case gk=>refine' @Ze _ _ _ _ _ ?gs ?gt;(case gs=>refine' @Zz _ _ (3) _ _ _ _ nd rfl (Or.inl rfl) ?gu (by rfl) (by first|exact Or.inl rfl|exact Or.inr rfl|assumption);case gu=>refine' @Zt _ _ _ _ _ _ _ _ Za2 ?gv Zd;case gv=>refine' @Zt _ _ _ _ _ _ _ _ Xl ?gw Zd;case gw=>refine' @Zt _ _ _ _ _ _ _ _ Xl ?gx ?gy;(case gx=>refine' @Zt _ _ _ _ _ _ _ _ Xf ?gz ?g10;(case gz=>refine' @Z3 _ _ _ _ _ _ _ Yh (pv 0) Zd (fun _ _=>rfl));case g10=>refine' @Z3 _ _ _ _ _ _ _ Yh (pv 0) Zd (fun _ _=>rfl));case gy=>refine' @Zt _ _ _ _ _ _ _ _ Xf Zd ?g11;case g11=>refine' @Z3 _ _ _ _ _ _ _ Yh (pv 0) Zd (fun _ _=>rfl));case gt=>refine' @Ze _ _ _ _ _ ?g12 (Zf (Zl (Zt Za2 (Zt Zce (pv 3) Zd) (pv 1))));case g12=>refine' @Zz _ _ (3) _ _ _ _ nd rfl (Or.inl rfl) (Zt Za2 (Zt Xl (Zt Xf (pv 3) (pv 3)) (Zt Xf Zd (pv 3))) Zd) (by rfl) (by first|exact Or.inl rfl|exact Or.inr rfl|assumption)
 have hm0:m≠0:=by omega
 refine ⟨_,rfl,l,_,0,_,rfl,rfl,SqL.of hl,rfl,_,_,rfl,rfl,_,rfl,?_⟩;refine ite2 (fun _=>?_) (fun _=>?_)
 · refine ⟨_,rfl,l,_,0,_,rfl,rfl,SqL.of hl,rfl,_,rfl,_,_,rfl,rfl,hm0,?_⟩;refine ⟨_,rfl,l,_,0,_,rfl,rfl,SqL.of hl,rfl,_,rfl,_,_,rfl,rfl,⟨hm0,hz⟩,?_⟩;refine ⟨_,rfl,l,_,0,0,rfl,rfl,hl,rfl,?_⟩;exact ⟨_,rfl,q _ _ (n49_ _ hm) (n66_ _ hm) Keep.upd ⟨_,_,_,Zc,h0,h1⟩⟩
 ·
  refine ⟨_,rfl,l,_,2,_,rfl,rfl,SqL.of hl,rfl,_,_,rfl,rfl,?_⟩;refine ⟨_,rfl,l,_,2,2,rfl,rfl,hl,rfl,?_⟩;refine ⟨_,rfl,l,_,1,_,rfl,rfl,SqL.of Zc,rfl,_,_,rfl,rfl,mulS (by rw [p64];omega) (by decide),_,_,rfl,rfl,?_⟩;refine ⟨_,rfl,l,_,2,_,rfl,rfl,SqL.of Zc,rfl,_,_,rfl,rfl,_,_,rfl,rfl,(by show (2147483647:Int)≠0;decide),?_⟩;refine ⟨_,rfl,l,_,1,1,rfl,rfl,Zc,rfl,?_⟩;generalize hs:Int.fmod (s1*48271+29+(s2+1)) 2147483647=u;have u0:0≤u:=by rw [← hs];exact n49_ _ (by decide)
  have u1:u<2147483647:=by rw [← hs];exact n66_ _ (by decide)
  refine ⟨_,rfl,l,_,1,_,rfl,rfl,SqL.of Zc,rfl,_,rfl,l,_,1,_,rfl,rfl,SqL.of Zc,rfl,u,u,by rw [← hs],by rw [← hs],mulS (by rw [p64];omega) (by rw [p64];omega),?_⟩;refine ⟨_,rfl,l,_,1,_,rfl,rfl,SqL.of Zc,rfl,39373,u,rfl,by rw [← hs],mulS (by decide) (by rw [p64];omega),_,_,rfl,rfl,_,_,rfl,rfl,_,_,rfl,rfl,(by show (2147483629:Int)≠0;decide),?_⟩;generalize hv:Int.fmod (u*u+39373*u+7) 2147483629=v;have v0:0≤v:=by rw [← hv];exact n49_ _ (by decide)
  have v1:v<2147483629:=by rw [← hv];exact n66_ _ (by decide)
  refine ⟨_,rfl,_,rfl,v,v,by rw [← hv],by rw [← hv],mulS (by rw [p64];omega) (by rw [p64];omega),_,rfl,50021,v,rfl,by rw [← hv],mulS (by decide) (by rw [p64];omega),_,_,rfl,rfl,_,_,rfl,rfl,(by show (2147483587:Int)≠0;decide),?_⟩;refine ⟨_,rfl,_,_,rfl,rfl,⟨by decide,Yp (by decide)⟩,_,rfl,_,_,rfl,rfl,hm0,?_⟩;exact q _ _ (n49_ _ hm) (n66_ _ hm) (Keep.upd.trans Keep.upd) ⟨_,u,_,by rw [← hs];exact Zc,u0,by omega⟩
abbrev Zaz:Stmt:=top 75
theorem Zfp (F:Fun K "_law_order" "_law_order" Zaz f fd) (Cd_:a41_ P w K mg base):FnOk P w K mg base CX0 2 f fd ["_law_state_here","_law_many"] Zjq:=by
 have sc:FnScope ["_law_state_here","_law_many","_law_left","_law_found"] ["_law_state_here","_law_many"] (Zg Zaz):=fsc (by decide +kernel);refine F.ok sc (fun vs H Q E h=>by obtain ⟨l,n,rfl,_⟩:=h;rfl) fun cdv A outer s H vs Q E hr h=>?_;obtain ⟨l,n,rfl,hl,h60,q⟩:=h;have nd:=sc.nd;have hu:=Zi6 hr;have hu1:=Nat.lt_of_succ_lt hu;refine' ⟨_,?term,?read⟩
 case term=>refine' @Ze _ _ _ _ _ ?g1 ?g2;(case g1=>refine' @Zha _ _ (2) (3) _ _ _ _ _ _ _ _ _ _ _ rfl nd rfl rfl (by decide) rfl rfl ?g3 rfl (by rfl);case g3=>refine' @Za _ _ _ _ _ ?g4 ?g5 rfl;(case g4=>refine' @Ye _ _ _ _ _ _ _ _ _ (Zkw rfl) rfl T.b_list Zd0 ?g6 (by decide) (by decide) (by rfl) (by rfl);case g6=>refine' @Za _ _ _ _ _ ?g7 Zb rfl;case g7=>refine' @Zsl _ _ _ _ _ rfl T.b_range (Za (pv 1) Zb rfl) (by rfl));case g5=>refine' @Za _ _ _ _ _ ?g8 Zb rfl;case g8=>refine' @Yk _ _ _ _ Zb);case g2=>refine' @Ze _ _ _ _ _ ?g9 (Zf (Zl (pv 3)));case g9=>refine' @Zdg _ _ _ _ _ _ PassesOwn.never ?ga ?gb;(case ga=>refine' @Z4 _ _ _ _ _ _ _ _ (Zrw hu1) (pv 2) ?gc (Zx _);case gc=>refine' @Yk _ _ _ _ Zb);case gb=>refine' @Zf _ _ _ ?gd;case gd=>refine' @Zbn _ _ _ _ ?ge (by rfl);case ge=>refine' @Zh5 _ _ _ _ _ _ _ _ _ _ _ _ PySem.F.plainAttrs_list PySem.F.slot_list_append PySem.F.type_list_append Zdz (pv 3) ?gf (by rfl) (by rfl) (by rfl) (by rfl) (by rfl);case gf=>refine' @Za _ _ _ _ _ ?gg Zb rfl;case gg=>refine' @Zh5 _ _ _ _ _ _ _ _ _ _ _ _ PySem.F.plainAttrs_list PySem.F.slot_list_pop PySem.F.type_list_pop Zkd (pv 2) (Za (Zi Cd_ hr (by decide) rfl (Za (pv 0) (Za (Zh Zn rfl T.b_len Z8 (Za (pv 2) Zb rfl)) Zb rfl) rfl)) Zb rfl) (by rfl) (by rfl) (by rfl) (by rfl) (by rfl)
 refine ⟨_,rfl,n,rfl,fun R nR=>?_⟩;refine ⟨R,n,rfl,Zc,by omega,fun L nL=>?_⟩;have s1:Same H (upd H R (.rng 0 n)):=Same.new nR;generalize upd H R (.rng 0 n)=H1 at s1 nL ⊢
 have nL0:H L=none:=by
  cases e:H L with
  | none=>rfl
  | some o=>rw [s1 _ _ e] at nL;cases nL
 generalize gG:upd H1 L (.lst ((List.range n).map fun i:Nat=>V.int i))=H2;obtain ⟨s2,e2⟩:=gen_upd gG nL;refine ⟨z0_,fun F nF=>?_⟩;have s3:Same H2 (upd H2 F (.lst [])):=Same.new nF;have e3:upd H2 F (.lst []) F=some (.lst []):=Zc;have nLF:L≠F:=Zr e2 nF;generalize upd H2 F (.lst [])=H3 at s3 e3 ⊢;have s03:=s1.trans (s2.trans s3)
 have nF0:H F=none:=by
  cases e:H F with
  | none=>rfl
  | some o=>rw [s2 _ _ (s1 _ _ e)] at nF;cases nF
 have nLl:L≠l:=hl.neN nL0;have nFl:F≠l:=hl.neN nF0;refine ⟨_,_,rfl,?_⟩;refine Zdf (fun σ H2=>σ=[some (.ref l),some (.int n),some (.ref L),some (.ref F)]∧Keep l H H2∧StAt H2 l∧∃ xs ys:List Int,H2 L=some (.lst (xs.map V.int))∧H2 F=some (.lst (ys.map V.int))∧(ys++xs).Perm ((List.range n).map fun i:Nat=>(i:Int))) (fun σ H2=>match H2 L with|some (.lst xs)=>xs.length|_=>0) ⟨rfl,s03.keep,hl.same s03,(List.range n).map fun i:Nat=>(i:Int),[],?_,e3,.refl _⟩ ?_ ?_
 · rw [List.map_map];exact s3 _ _ e2
 · rintro σ H4 ⟨rfl,k4,l4,xs,ys,eL,eF,pm⟩
   refine ⟨_,rfl,z0_,fun E nE=>?_⟩;generalize gG:upd H4 E (.lst [])=H5;obtain ⟨s5,e5⟩:=gen_upd gG nE;refine ⟨L,E,_,rfl,rfl,SqL.of (s5 _ _ eL),SqL.of e5,_,rfl,?_⟩;cases xs with
   | nil =>
     refine iteF ?_;refine ⟨_,rfl,q H5 F ys (k4.trans s5.keep) (l4.same s5) nF0 (s5 _ _ eF) ?_⟩
     simpa using pm
   | cons x xs =>
     refine iteT ?_
     have len:ys.length+(x :: xs).length=n:=by
      have:=pm.length_eq
      simpa using this
     have l5:=l4.same s5;refine ⟨_,rfl,.inl ⟨rfl,_,SqL.of (s5 _ _ eF)⟩,_,rfl,.inl ⟨rfl,_,SqL.of (s5 _ _ eL)⟩,_,rfl,_,rfl,L,_,rfl,.inl (SqL.of (s5 _ _ eL)),l,_,rfl,l5,?_,?_,fun r H6 r0 r1 k6 l6=>?_⟩
     · simp
     · rw [n23_];refine Yp ?_;show _<18446744073709551616
       simp at len ⊢;omega
     · rw [n23_] at r1;have hr:r.toNat<(x :: xs).length:=by omega
       have eL6:=k6 _ _ nLl (s5 _ _ eL);have eF6:=k6 _ _ nFl (s5 _ _ eF);refine ⟨L,_,r,r.toNat,.int ((x :: xs)[r.toNat]),rfl,rfl,eL6,by omega,?_,seqI r0 (by rw [n23_];exact r1),by rw [n11_,n1_ hr];rfl,?_⟩
       · have:(n:Int)≤60:=by omega
         have:((x :: xs).length:Int)≤n:=by omega
         omega
       · refine ⟨F,_,_,rfl,rfl,by rw [Zs nLF.symm];exact eF6,?_,?_⟩
         · rw [n23_,sizeLine_eq];omega
         · have eL7:∀ o,upd (upd H6 L (.lst (((x :: xs).map V.int).eraseIdx r.toNat))) F o L=some (.lst (((x :: xs).map V.int).eraseIdx r.toNat)):=fun o=>by rw [Zs nLF,Zc]
           refine ⟨⟨rfl,?_,?_,(x :: xs).eraseIdx r.toNat,ys++[(x :: xs)[r.toNat]],?_,?_,?_⟩,?_⟩
           · intro b o nb e;rw [Zs (Zr e nF0),Zs (Zr e nL0)];exact k6 _ _ nb (s5 _ _ (k4 _ _ nb e))
           · obtain ⟨a,b,c,e,r⟩:=l6;exact ⟨a,b,c,by rw [Zs nFl.symm,Zs nLl.symm];exact e,r⟩
           · rw [eL7,Zhv]
           · rw [Zc,List.map_append];rfl
           · refine List.Perm.trans ?_ pm;rw [List.append_assoc];refine List.Perm.append_left ys ?_;exact Zfi _ _ hr
           · rw [eL7,eL];dsimp only;rw [List.length_eraseIdx_of_lt (by rw [n23_];exact hr)]
             simp
 · rintro σ H' Q1 Q2 hq ⟨v,e,z,f⟩
   refine ⟨v,e,z,fun p np=>?_⟩;obtain ⟨a,b,xs,e1,e2,h1,h2,k,t,q'⟩:=f p np;exact ⟨a,b,xs,e1,e2,h1,h2,k,t,hq _ _ q'⟩
abbrev Zcj:Stmt:=top 76
theorem Zi7 (F:Fun K "_law_low" "_law_low" Zcj f fd):FnOk P w K mg base CX0 1 f fd ["_law_top","_law_bottom"] Zpm:=by
 have sc:FnScope ["_law_top","_law_bottom","_law_one","_law_other"] ["_law_top","_law_bottom"] (Zg Zcj):=fsc (by decide +kernel);refine F.ok sc (fun vs H Q E h=>by obtain ⟨t,b,rfl,_⟩:=h;rfl) fun cdv A outer s H vs Q E hr h=>?_;obtain ⟨t,b,rfl,hb,hz,q⟩:=h;have nd:=sc.nd;refine' ⟨_,?term,?read⟩
 case term=>refine' @Ze _ _ _ _ _ ?g1 ?g2;(case g1=>refine' @Zha _ _ (2) (3) _ _ _ _ _ _ _ _ _ _ _ rfl nd rfl rfl (by decide) rfl rfl (Za (Zh Zdi rfl T.b_abs Zj5 (Za (pv 0) Zb rfl)) (Za (Zh Zdi rfl T.b_abs Zj5 (Za (pv 1) Zb rfl)) Zb rfl) rfl) rfl (by rfl));case g2=>refine' @Ze _ _ _ _ _ ?g3 ?g4;(case g3=>refine' @Zdg _ _ _ _ _ _ PassesOwn.never (Z4 Zln (pv 3) Zd (Zx _)) ?g5;case g5=>refine' @Zf _ _ _ ?g6;case g6=>refine' @Zha _ _ (2) (3) _ _ _ _ _ _ _ _ _ _ _ rfl nd rfl rfl (by decide) rfl rfl (Za (pv 3) (Za (Zt Za2 (pv 2) (pv 3)) Zb rfl) rfl) rfl (by rfl));case g4=>refine' @Zf _ _ _ ?g7;case g7=>refine' @Zl _ _ _ _ ?g8;case g8=>refine' @Zu _ _ _ _ _ ?g9;case g9=>refine' @Za _ _ _ _ _ ?ga (Za (Zt Zce (Zh Zdi rfl T.b_abs Zj5 (Za (pv 1) Zb rfl)) (pv 2)) Zb rfl) rfl;case ga=>refine' @Zjx _ _ _ _ _ _ _ _ (Z4 Zln (pv 1) Zd (Zx _)) (Zt Zce (pv 0) (pv 2)) (Zt Xw Zd (Zt Zce (pv 0) (pv 2)))
 have hg:=FM.gcd_ne (t:=t) hb;have hgz:(Int.gcd t b)<2^8999:=n52_ (Nat.gcd_le_right _ (Int.natAbs_pos.mpr hb)) (Zsg hz);have ab:∀ x:Int,(if x<0 then -x else x)=(x.natAbs:Int):=fun x=>by split<;>omega
 refine ⟨_,rfl,t,rfl,_,rfl,b,rfl,_,_,rfl,?_⟩
 refine Zdf (fun σ H'=>∃ x y:Int,σ=[some (.int t),some (.int b),some (.int x),some (.int y)]∧H'=H∧0≤x∧0≤y∧Int.gcd x y=Int.gcd t b) (fun σ _=>match σ with|[_,_,_,some (.int y)]=>y.natAbs|_=>0)
  ⟨_,_,rfl,rfl,by rw [ab];omega,by rw [ab];omega,by rw [ab,ab];simp [Int.gcd]⟩ ?_ ?_
 · rintro σ H' ⟨x,y,rfl,rfl,hx,hy,e⟩
   refine ⟨_,rfl,_,_,rfl,rfl,_,rfl,?_⟩;refine ite2 (fun hlt=>?_) (fun hlt=>?_)
   · have hy':0<y:=n31_ hlt;have hy0:y≠0:=by omega
     refine ⟨_,rfl,_,rfl,_,rfl,x,y,rfl,rfl,hy0,_,_,rfl,⟨y,x.fmod y,rfl,rfl,hy,n49_ _ hy',by rw [FM.gcd_fmod hy0];exact e⟩,FM.fmod_abs_lt hy0⟩
   · have hy':¬ 0<y:=fun z=>hlt (n19_ z);have y0:y=0:=by omega
     subst y0;have x0:x=(Int.gcd t b:Int):=by rw [← e,Int.gcd_zero_right];omega
     subst x0;refine ⟨_,rfl,_,_,rfl,rfl,_,rfl,?_⟩
     have fin:∀ n:Int,n=(if 0<b then t.fdiv (Int.gcd t b:Int) else 0-t.fdiv (Int.gcd t b:Int))→∀ p,H' p=none→Q (.ref p) (upd H' p (.tup [.int n,.int (Int.fdiv (if b<0 then -b else b) (Int.gcd t b:Int))])):=by
      rintro n rfl p hp
      rw [ab,FM.low_num hb,FM.low_den hb];exact q p _ (Same.new hp) Zc
     refine ite2 (fun hlt=>?_) (fun hlt=>?_)
     · have hb':0<b:=n31_ hlt;refine ⟨_,rfl,_,rfl,_,_,rfl,rfl,⟨hg,hgz⟩,_,rfl,b,rfl,_,rfl,_,_,rfl,rfl,⟨hg,hgz⟩,z2_,?_⟩;exact fin _ (by rw [if_pos hb'])
     · have hb':¬ 0<b:=fun z=>hlt (n19_ z);refine ⟨_,rfl,_,rfl,_,_,rfl,rfl,⟨hg,hgz⟩,_,_,rfl,rfl,_,rfl,b,rfl,_,rfl,_,_,rfl,rfl,⟨hg,hgz⟩,z2_,?_⟩;exact fin _ (by rw [if_neg hb'])
 · rintro σ H' Q1 Q2 hq ⟨v,e,i,j,e1,e2,k,e3,q'⟩
   exact ⟨v,e,i,j,e1,e2,k,e3,hq _ _ q'⟩
abbrev X0:Stmt:=top 77
theorem Zdc (F:Fun K "_law_fraction" "_law_fraction" X0 f fd) (Cd_:a41_ P w K mg base) (Cz_:a42_ P w K mg base):FnOk P w K mg base CX0 2 f fd ["_law_state_here"] (Zhe 60):=by
 have sc:FnScope ["_law_state_here","_law_top","_law_way"] ["_law_state_here"] (Zg X0):=fsc (by decide +kernel);refine F.ok sc (fun vs H Q E h=>by obtain ⟨l,rfl,_⟩:=h;rfl) fun cdv A outer s H vs Q E hr h=>?_;obtain ⟨l,rfl,hl,q⟩:=h;have nd:=sc.nd;refine' ⟨_,?term,?read⟩
 case term=>refine' @Ze _ _ _ _ _ ?g1 ?g2;(case g1=>refine' @Zz _ _ (1) _ _ _ _ nd rfl (Or.inl rfl) (Zt Xw (Zi Cd_ hr (by decide) rfl (Za (pv 0) (Za Zd Zb rfl) rfl)) Zd) (by rfl) (by first|exact Or.inl rfl|exact Or.inr rfl|assumption));case g2=>refine' @Ze _ _ _ _ _ ?g3 ?g4;(case g3=>refine' @Zz _ _ (2) _ _ _ _ nd rfl (Or.inl rfl) (Zi Cd_ hr (by decide) rfl (Za (pv 0) (Za Zd Zb rfl) rfl)) (by rfl) (by first|exact Or.inl rfl|exact Or.inr rfl|assumption));case g4=>refine' @Ze _ _ _ _ _ ?g5 ?g6;(case g5=>refine' @Zy _ _ _ _ _ _ _ _ (Z4 Zlv (pv 2) Zd (Zx _)) ?g7 Zp;case g7=>refine' @Zf _ _ _ ?g8;case g8=>refine' @Zl _ _ _ _ ?g9;case g9=>refine' @Z3 _ _ _ _ _ _ _ Yh ?ga (pv 2) (fun _ _=>rfl);case ga=>refine' @Yk _ _ _ _ (Za (Zu (Za Zd (Za Zd Zb rfl) rfl)) (Za (Zu (Za Zd (Za Zd Zb rfl) rfl)) (Za (Zu (Za (pv 1) (Za Zd Zb rfl) rfl)) Zb rfl) rfl) rfl));case g6=>refine' @Zf _ _ _ ?gb;case gb=>refine' @Zl _ _ _ _ ?gc;case gc=>refine' @Zi _ _ _ _ _ _ _ _ _ _ _ Cz_ hr (by decide) rfl ?gd (by decide) (by rfl) (by rfl);case gd=>refine' @Za _ _ _ _ _ ?ge (Za (Zt Xl Zd (Zi Cd_ hr (by decide) rfl (Za (pv 0) (Za Zd Zb rfl) rfl))) Zb rfl) rfl;case ge=>refine' @Zt _ _ _ _ _ _ _ _ Xf (pv 1) ?gf;case gf=>refine' @Z3 _ _ _ _ _ _ _ Yh ?gg (Ye Zlt rfl T.b_int Zkh (Za (Yx Zco (Zi Cd_ hr (by decide) rfl (Za (pv 0) (Za Zd Zb rfl) rfl)) Zd (Zx _)) Zb rfl)) (fun _ _=>rfl);case gg=>refine' @Yk _ _ _ _ (Za Zd (Za (Zt Xl (Zt Zmc Zd Zd) Zd) Zb rfl) rfl)
 refine ⟨_,rfl,l,19,rfl,hl,by decide,Yp (by decide),fun r1 H1 a1 b1 k1 l1=>?_⟩;refine ⟨_,_,rfl,rfl,?_⟩;refine ⟨_,rfl,l,5,rfl,l1,by decide,Yp (by decide),fun r2 H2 a2 b2 k2 l2=>?_⟩;refine ⟨_,rfl,_,_,rfl,rfl,_,rfl,?_⟩;have k12:=k1.trans k2;refine ite2 (fun hlt=>?_) (fun hlt=>?_)
 · have hlt':r2<3:=n31_ hlt;refine ⟨z2_,?_⟩;intro p3 n3;generalize hH3:upd H2 p3 _=H3;have S3:Same H2 H3:=by (rw [← hH3];exact Same.new n3)
   have A3:=(congrFun hH3 p3).symm;rw [Zc] at A3;refine ⟨z2_,?_⟩;intro p4 n4;generalize hH4:upd H3 p4 _=H4;have S4:Same H3 H4:=by (rw [← hH4];exact Same.new n4)
   have A4:=(congrFun hH4 p4).symm;rw [Zc] at A4;refine ⟨_,rfl,z2_,?_⟩;intro p5 n5;generalize hH5:upd H4 p5 _=H5;have S5:Same H4 H5:=by (rw [← hH5];exact Same.new n5)
   have A5:=(congrFun hH5 p5).symm;rw [Zc] at A5;refine ⟨z3_,?_⟩;intro p6 n6;generalize hH6:upd H5 p6 _=H6;have S6:Same H5 H6:=by (rw [← hH6];exact Same.new n6)
   have A6:=(congrFun hH6 p6).symm;rw [Zc] at A6;refine ⟨_,rfl,?_⟩;have hk:Keep l H H6:=k12.trans (((S3.trans S4).trans (S5.trans S6)).keep);have l6:StAt H6 l:=l2.same ((S3.trans S4).trans (S5.trans S6));have B3:=S6 _ _ (S5 _ _ (S4 _ _ A3));have B4:=S6 _ _ (S5 _ _ A4);have B5:=S6 _ _ A5;have hr2:r2=0∨r2=1∨r2=2:=by omega
   have w1:=FM.whole (r1-9)
   rcases hr2 with rfl|rfl|rfl
   · exact ⟨p6,_,0,_,rfl,rfl,SqL.of A6,rfl,q _ p3 0 hk l6 B3 ⟨⟨by decide,by decide⟩,by decide⟩⟩
   · exact ⟨p6,_,1,_,rfl,rfl,SqL.of A6,rfl,q _ p4 1 hk l6 B4 ⟨⟨by decide,by decide⟩,by decide⟩⟩
   · refine ⟨p6,_,2,_,rfl,rfl,SqL.of A6,rfl,q _ p5 (Rat.divInt (r1-9) 1) hk l6 (by rw [rt,w1.1,w1.2];exact B5) ⟨⟨?_,?_⟩,Zro _ (by decide) (by decide)⟩⟩
     · rw [w1.1];show _<1152921504606846976;omega
     · have:=w1.2;show _<1152921504606846976;omega
 · refine ⟨_,rfl,?_⟩;refine ⟨_,_,rfl,rfl,⟨by decide,by decide,by decide⟩,_,_,rfl,rfl,z2_,?_⟩;intro p3 n3;generalize hH3:upd H2 p3 _=H3;have S3:Same H2 H3:=by (rw [← hH3];exact Same.new n3)
   have A3:=(congrFun hH3 p3).symm;rw [Zc] at A3;refine ⟨_,rfl,l,9,rfl,l2.same S3,by decide,Yp (by decide),fun r4 H4 a4 b4 k4 l4=>?_⟩;refine ⟨rfl,.inr ⟨_,rfl,?_⟩⟩;have B3:=k4 _ _ (fun z=>l2.ne n3 z.symm) A3;have hk4:Keep l H H4:=k12.trans (S3.keep.trans k4)
   by_cases h0:V.int r4=V.int 0
   · rw [n19_ h0];refine ⟨p3,_,_,_,rfl,rfl,SqL.of B3,rfl,?_⟩;have hz:(10^Int.toNat 12+7:Int).natAbs≤1000000000007:=by decide
     refine ⟨_,_,rfl,rfl,mulS (by rw [p64];omega) (by decide),?_⟩;refine ⟨_,rfl,l,6,rfl,l4,by decide,Yp (by decide),fun r5 H5 a5 b5 k5 l5=>⟨_,_,rfl,rfl,_,_,rfl,by omega,Yp (by rw [p64];omega),fun p H6 s6 at6=>?_⟩⟩;refine q _ p _ (hk4.trans (k5.trans s6.keep)) (l5.same s6) at6 ⟨FM.B_divInt (by omega) ?_ ?_,Zro _ (by omega) (by omega)⟩
     · rw [n64_];have h9:(r1-9).natAbs≤9:=by omega
       have:=n53_ h9 hz
       show _<1152921504606846976
       omega
     · show _<1152921504606846976
       omega
   · rw [n8_ h0];refine ⟨p3,_,_,_,rfl,rfl,SqL.of B3,rfl,?_⟩;have hz:(1:Int).natAbs≤1000000000007:=by decide
     refine ⟨_,_,rfl,rfl,mulS (by rw [p64];omega) (by decide),?_⟩;refine ⟨_,rfl,l,6,rfl,l4,by decide,Yp (by decide),fun r5 H5 a5 b5 k5 l5=>⟨_,_,rfl,rfl,_,_,rfl,by omega,Yp (by rw [p64];omega),fun p H6 s6 at6=>?_⟩⟩;refine q _ p _ (hk4.trans (k5.trans s6.keep)) (l5.same s6) at6 ⟨FM.B_divInt (by omega) ?_ ?_,Zro _ (by omega) (by omega)⟩
     · rw [n64_];have h9:(r1-9).natAbs≤9:=by omega
       have:=n53_ h9 hz
       show _<1152921504606846976
       omega
     · show _<1152921504606846976
       omega
abbrev Zaj:Stmt:=top 78
theorem Zel (F:Fun K "_law_shapes" "_law_shapes" Zaj f fd):FnOk P w K mg base CX0 1 f fd [] Zh4:=by
 have sc:FnScope ["_law_one","_law_two","_law_hub","_law_hinge","_law_apart","_law_strip","_law_cross","_law_chain"] [] (Zg Zaj):=fsc (by decide +kernel);refine F.ok sc (fun vs H Q E h=>by obtain ⟨rfl,_⟩:=h;rfl) fun cdv A outer s H vs Q E hr h=>?_;obtain ⟨rfl,q⟩:=h;have nd:=sc.nd;refine' ⟨_,?term,?read⟩
 case term=>refine' @Ze _ _ _ _ _ ?g1 ?g2;(case g1=>refine' @Zz _ _ (0) _ _ _ _ nd rfl (Or.inl rfl) ?g3 (by rfl) (by first|exact Or.inl rfl|exact Or.inr rfl|assumption);case g3=>refine' @X6 _ _ (([(0,0),(2,0),(0,3)],[[0,1,2]])) rfl);case g2=>refine' @Ze _ _ _ _ _ ?g4 ?g5;(case g4=>refine' @Zz _ _ (1) _ _ _ _ nd rfl (Or.inl rfl) ?g6 (by rfl) (by first|exact Or.inl rfl|exact Or.inr rfl|assumption);case g6=>refine' @X6 _ _ (([(0,0),(3,0),(3,2),(0,2)],[[0,1,2],[0,2,3]])) rfl);case g5=>refine' @Ze _ _ _ _ _ ?g7 ?g8;(case g7=>refine' @Zz _ _ (2) _ _ _ _ nd rfl (Or.inl rfl) ?g9 (by rfl) (by first|exact Or.inl rfl|exact Or.inr rfl|assumption);case g9=>refine' @X6 _ _ (([(0,0),(6,0),(0,6),(2,1)],[[0,1,3],[0,2,3],[1,2,3]])) rfl);case g8=>refine' @Ze _ _ _ _ _ ?ga ?gb;(case ga=>refine' @Zz _ _ (3) _ _ _ _ nd rfl (Or.inl rfl) ?gc (by rfl) (by first|exact Or.inl rfl|exact Or.inr rfl|assumption);case gc=>refine' @X6 _ _ (([(0,0),(2,1),(2,-1),(-2,1),(-3,-1)],[[0,1,2],[0,3,4]])) rfl);case gb=>refine' @Ze _ _ _ _ _ ?gd ?ge;(case gd=>refine' @Zz _ _ (4) _ _ _ _ nd rfl (Or.inl rfl) ?gf (by rfl) (by first|exact Or.inl rfl|exact Or.inr rfl|assumption);case gf=>refine' @X6 _ _ (([(0,0),(2,0),(0,2),(4,0),(6,1),(4,3)],[[0,1,2],[3,4,5]])) rfl);case ge=>refine' @Ze _ _ _ _ _ ?gg ?gh;(case gg=>refine' @Zz _ _ (5) _ _ _ _ nd rfl (Or.inl rfl) ?gi (by rfl) (by first|exact Or.inl rfl|exact Or.inr rfl|assumption);case gi=>refine' @X6 _ _ (([(0,0),(0,2),(2,0),(3,2),(5,0)],[[0,1,2],[1,2,3],[2,3,4]])) rfl);case gh=>refine' @Ze _ _ _ _ _ ?gj ?gk;(case gj=>refine' @Zz _ _ (6) _ _ _ _ nd rfl (Or.inl rfl) ?gl (by rfl) (by first|exact Or.inl rfl|exact Or.inr rfl|assumption);case gl=>refine' @X6 _ _ (([(0,0),(2,0),(0,3),(-2,0),(0,-1)],[[0,1,2],[0,2,3],[0,3,4],[0,1,4]])) rfl);case gk=>refine' @Ze _ _ _ _ _ ?gm ?gn;(case gm=>refine' @Zz _ _ (7) _ _ _ _ nd rfl (Or.inl rfl) ?go (by rfl) (by first|exact Or.inl rfl|exact Or.inr rfl|assumption);case go=>refine' @X6 _ _ (([(0,0),(1,2),(2,0),(3,2),(4,0),(5,3)],[[0,1,2],[2,3,4],[3,4,5]])) rfl);case gn=>refine' @Zf _ _ _ ?gp;case gp=>refine' @Zl _ _ _ _ ?gq;case gq=>refine' @Yk _ _ _ _ (Za (pv 0) (Za (pv 1) (Za (pv 3) (Za (pv 4) (Za (pv 2) (Za (pv 5) (Za (pv 7) (Za (pv 6) Zb rfl) rfl) rfl) rfl) rfl) rfl) rfl) rfl)
 intro H1 v_one s1 h_one;intro H2 v_two s2 h_two;intro H3 v_hub s3 h_hub;intro H4 v_hinge s4 h_hinge;intro H5 v_apart s5 h_apart;intro H6 v_strip s6 h_strip;intro H7 v_cross s7 h_cross;intro H8 v_chain s8 h_chain;replace h_one:=h_one.tk s2.tk;replace h_one:=h_one.tk s3.tk;replace h_one:=h_one.tk s4.tk;replace h_one:=h_one.tk s5.tk;replace h_one:=h_one.tk s6.tk;replace h_one:=h_one.tk s7.tk;replace h_one:=h_one.tk s8.tk;replace h_two:=h_two.tk s3.tk;replace h_two:=h_two.tk s4.tk;replace h_two:=h_two.tk s5.tk;replace h_two:=h_two.tk s6.tk;replace h_two:=h_two.tk s7.tk;replace h_two:=h_two.tk s8.tk;replace h_hub:=h_hub.tk s4.tk;replace h_hub:=h_hub.tk s5.tk;replace h_hub:=h_hub.tk s6.tk;replace h_hub:=h_hub.tk s7.tk;replace h_hub:=h_hub.tk s8.tk;replace h_hinge:=h_hinge.tk s5.tk;replace h_hinge:=h_hinge.tk s6.tk;replace h_hinge:=h_hinge.tk s7.tk;replace h_hinge:=h_hinge.tk s8.tk;replace h_apart:=h_apart.tk s6.tk;replace h_apart:=h_apart.tk s7.tk;replace h_apart:=h_apart.tk s8.tk;replace h_strip:=h_strip.tk s7.tk;replace h_strip:=h_strip.tk s8.tk;replace h_cross:=h_cross.tk s8.tk;refine ⟨_,rfl,_,rfl,_,rfl,_,rfl,_,rfl,_,rfl,_,rfl,_,rfl,by show 8≤sizeLine;decide,fun r nr=>?_⟩;have s9:Same H8 (upd H8 r (.lst [v_one,v_two,v_hinge,v_apart,v_hub,v_strip,v_chain,v_cross])):=Same.new nr;have s08:=(((((((s1.trans s2).trans s3).trans s4).trans s5).trans s6).trans s7).trans s8);refine q _ r _ (s08.trans s9) ?_ Zc ?_
 · cases e:H r with
   | none=>rfl
   | some o=>rw [s08 _ _ e] at nr;cases nr
 · exact (.cons (h_one.tk s9.tk) (.cons (h_two.tk s9.tk) (.cons (h_hinge.tk s9.tk) (.cons (h_apart.tk s9.tk) (.cons (h_hub.tk s9.tk) (.cons (h_strip.tk s9.tk) (.cons (h_chain.tk s9.tk) (.cons (h_cross.tk s9.tk) .nil))))))))
abbrev Y6:Stmt:=top 79
theorem Zfr (F:Fun K "_law_plate" "_law_plate" Y6 f fd) (Cd_:a41_ P w K mg base) (Cat_:a43_ P w K mg base) (Car_:a44_ P w K mg base):FnOk P w K mg base CX0 3 f fd ["_law_state_here","_law_most"] Zku:=by
 have sc:FnScope ["_law_state_here","_law_most","_law_points","_law_pieces","_law_a","_law_b","_law_c","_law_d","_law_s","_law_t","_law_order_here","_law_corners","_law_at","_law_x","_law_y","_law_rows","_law_thicks"] ["_law_state_here","_law_most"] (Zg Y6):=fsc (by decide +kernel);refine F.ok sc (fun vs H Q E h=>by obtain ⟨l,rfl,_⟩:=h;rfl) fun cdv A outer s H vs Q E hr h=>?_;obtain ⟨l,rfl,hl,q'⟩:=h;have nd:=sc.nd;refine' ⟨_,?term,?read⟩
 case term=>refine' @Ze _ _ _ _ _ ?g1 ?g2;(case g1=>refine' @Y8 _ _ _ _ _ _ ?g3 ?g4 (by rfl) (by rfl) (by rfl);(case g3=>refine' @Z3 _ _ _ _ _ _ _ Yh ?g5 (Zi Cd_ hr (by decide) rfl (Za (pv 0) (Za (pv 1) Zb rfl) rfl)) (fun _ _=>rfl);case g5=>refine' @Zqa _ _ _ _ _ _ _ Car_ hr (by decide) rfl (by decide));case g4=>refine' @Yu _ _ _ _ _ (2) rfl (Zm (Zo (i:=2) nd rfl (Or.inl rfl)) (Zm (Zo (i:=3) nd rfl (Or.inl rfl)) Yb)) (by rfl) (by rfl));case g2=>refine' @Ze _ _ _ _ _ ?g6 ?g7;(case g6=>refine' @Zjj _ _ (4) (5) (6) _ _ _ _ _ _ _ _ _ _ _ _ _ _ rfl nd rfl rfl rfl (by decide) (by decide) (by decide) rfl rfl rfl (Za (Zt Xl Zd (Zi Cd_ hr (by decide) rfl (Za (pv 0) (Za Zd Zb rfl) rfl))) (Za (Zt Xw (Zi Cd_ hr (by decide) rfl (Za (pv 0) (Za Zd Zb rfl) rfl)) Zd) (Za (Zt Xw (Zi Cd_ hr (by decide) rfl (Za (pv 0) (Za Zd Zb rfl) rfl)) Zd) Zb rfl) rfl) rfl) rfl (by rfl));case g7=>refine' @Ze _ _ _ _ _ ?g8 ?g9;(case g8=>refine' @Zjj _ _ (7) (8) (9) _ _ _ _ _ _ _ _ _ _ _ _ _ _ rfl nd rfl rfl rfl (by decide) (by decide) (by decide) rfl rfl rfl (Za (Zt Xw (Zi Cd_ hr (by decide) rfl (Za (pv 0) (Za Zd Zb rfl) rfl)) Zd) (Za (Zt Xw (Zi Cd_ hr (by decide) rfl (Za (pv 0) (Za Zd Zb rfl) rfl)) Zd) (Za (Zt Xw (Zi Cd_ hr (by decide) rfl (Za (pv 0) (Za Zd Zb rfl) rfl)) Zd) Zb rfl) rfl) rfl) rfl (by rfl));case g9=>refine' @Ze _ _ _ _ _ ?ga ?gb;(case ga=>refine' @Zy _ _ _ _ _ _ _ _ (Z4 Zco (Zt Xf (pv 4) (pv 7)) (Zt Xf (pv 5) (pv 6)) (Zx _)) ?gc Zp;case gc=>refine' @Zf _ _ _ ?gd;case gd=>refine' @Y8 _ _ _ _ _ _ (Zu (Za Zd (Za (pv 5) (Za Zd (Za Zd Zb rfl) rfl) rfl) rfl)) ?ge (by rfl) (by rfl) (by rfl);case ge=>refine' @Yu _ _ _ _ _ (4) rfl (Zm (Zo (i:=4) nd rfl (Or.inl rfl)) (Zm (Zo (i:=5) nd rfl (Or.inl rfl)) (Zm (Zo (i:=6) nd rfl (Or.inl rfl)) (Zm (Zo (i:=7) nd rfl (Or.inl rfl)) Yb)))) (by rfl) (by rfl));case gb=>refine' @Ze _ _ _ _ _ ?gf ?gg;(case gf=>refine' @Zz _ _ (10) _ _ _ _ nd rfl (Or.inr rfl) (Zi Cat_ hr (by decide) rfl (Za (pv 0) (Za (Zh Zn rfl T.b_len Z8 (Za (pv 2) Zb rfl)) Zb rfl) rfl)) (by rfl) (by first|exact Or.inl rfl|exact Or.inr rfl|assumption));case gg=>refine' @Ze _ _ _ _ _ ?gh ?gi;(case gh=>refine' @Zz _ _ (11) _ _ _ _ nd rfl (Or.inl rfl) ?gj (by rfl) (by first|exact Or.inl rfl|exact Or.inr rfl|assumption);case gj=>refine' @Zt _ _ _ _ _ _ _ _ Zrz ?gk (Zh Zn rfl T.b_len Z8 (Za (pv 2) Zb rfl));case gk=>refine' @Yk _ _ _ _ (Za (Zu (Za Zd (Za Zd Zb rfl) rfl)) Zb rfl));case gi=>refine' @Ze _ _ _ _ _ ?gl ?gm;(case gl=>refine' @Zdl _ _ _ _ _ _ _ _ PassesOwn.never rfl ?gn ?go ?gp (by intro _ ;rfl);(case gn=>refine' @Znp _ _ _ _ .t _ _ _ _ rfl T.b_enumerate (Za (pv 2) Zb rfl) (by rfl));(case go=>refine' @Yu _ _ _ _ _ (2) rfl ?gq (by rfl) (by rfl);case gq=>refine' @Zm _ _ _ _ _ (Zo (i:=12) nd rfl (Or.inl rfl)) ?gr (by rfl);case gr=>refine' @Zm _ _ _ _ _ ?gs Yb (by rfl);case gs=>refine' @Yu _ _ _ _ _ (2) rfl (Zm (Zo (i:=13) nd rfl (Or.inl rfl)) (Zm (Zo (i:=14) nd rfl (Or.inl rfl)) Yb)) (by rfl) (by rfl));case gp=>refine' @Zf _ _ _ ?gt;case gt=>refine' @Y8 _ _ _ _ _ _ (Zu (Za (Zt Xl (Zt Xl (Zt Xf (pv 4) (pv 13)) (Zt Xf (pv 5) (pv 14))) (pv 8)) (Za (Zt Xl (Zt Xl (Zt Xf (pv 6) (pv 13)) (Zt Xf (pv 7) (pv 14))) (pv 9)) Zb rfl) rfl)) ?gu (by rfl) (by rfl) (by rfl);case gu=>refine' @Zhg _ _ _ _ _ _ _ (pv 11) ?gv Zbx (by intro _ ;rfl);case gv=>refine' @Z3 _ _ _ _ _ _ _ Yh (pv 10) (pv 12) (fun _ _=>rfl));case gm=>refine' @Ze _ _ _ _ _ ?gw ?gx;(case gw=>refine' @Zz _ _ (15) _ _ _ _ nd rfl (Or.inl rfl) ?gy (by rfl) (by first|exact Or.inl rfl|exact Or.inr rfl|assumption);case gy=>refine' @Zh _ _ _ _ _ _ _ _ _ Zgy rfl T.b_sorted Zhs ?gz (by decide) (by decide) (by rfl) (by rfl);case gz=>refine' @Za _ _ _ _ _ ?g10 Zb rfl;case g10=>refine' @Xg _ _ _ _ _ _ _ (["_law_piece","_law_order_here"]) ([none,some 10]) _ _ _ _ _ rfl (Yz (XN:=["_law_state_here","_law_most","_law_points","_law_pieces","_law_a","_law_b","_law_c","_law_d","_law_s","_law_t","_law_order_here","_law_corners","_law_at","_law_x","_law_y","_law_rows","_law_thicks"]) (Scope.names (Zg Y6)) rfl rfl rfl (fun _ h=>Z9 h) (by decide +kernel) rfl) (Yq (pv 3)) (fun _ _ _ _=>pgB 0) (fun _ _ _ _=>Zw) (fun _ _ _ _=>Ye (Zeq K rfl) rfl T.b_tuple Yl (Za (Zh (Zfo K rfl) rfl T.b_sorted Zhs (Za (Xg (N:=["_law_at","_law_order_here"]) (fr:=[none,some 1]) rfl (Yz (XN:=["_law_piece","_law_order_here"]) (relN _ (Scope.names (Zg Y6))) rfl rfl rfl (fun _ h=>Zmj (by decide +kernel) h) (by decide +kernel) rfl) (Zi0 K rfl (pv 0)) (fun _ _ _ _=>pgB 0) (fun _ _ _ _=>Zw) (fun _ _ _ _=>Z3 (Zkf K rfl) (pv 1) (pv 0) (fun _ _=>rfl))) Zb rfl)) Zb rfl)) (by intro _ ;rfl));case gx=>refine' @Ze _ _ _ _ _ ?g11 ?g12;(case g11=>refine' @Zz _ _ (16) _ _ _ _ nd rfl (Or.inl rfl) ?g13 (by rfl) (by first|exact Or.inl rfl|exact Or.inr rfl|assumption);case g13=>refine' @Ye _ _ _ _ _ _ _ _ _ Yo rfl T.b_tuple Yl ?g14 (by decide) (by decide) (by rfl) (by rfl);case g14=>refine' @Za _ _ _ _ _ ?g15 Zb rfl;case g15=>refine' @Xg _ _ _ _ _ _ _ (["_law_row_here","_law_state_here"]) ([none,some 0]) _ _ _ _ _ rfl (Yz (XN:=["_law_state_here","_law_most","_law_points","_law_pieces","_law_a","_law_b","_law_c","_law_d","_law_s","_law_t","_law_order_here","_law_corners","_law_at","_law_x","_law_y","_law_rows","_law_thicks"]) (Scope.names (Zg Y6)) rfl rfl rfl (fun _ h=>Z9 h) (by decide +kernel) rfl) (Zd1 (pv 15)) (fun _ _ _ _=>pgB 0) (fun _ _ _ _=>Zw) (fun _ _ _ _=>Zt Xl Zd (Zi Cd_ hr (by decide) rfl (Za (pv 1) (Za (Z3 (Zkf K rfl) (Yk (Za Zd (Za Zd Zb rfl) rfl)) (Zi Cd_ hr (by decide) rfl (Za (pv 1) (Za Zd Zb rfl) rfl)) (fun _ _=>rfl)) Zb rfl) rfl))) (by intro _ ;rfl));case g12=>refine' @Zf _ _ _ ?g16;case g16=>refine' @Zl _ _ _ _ ?g17;case g17=>refine' @Zu _ _ _ _ _ ?g18;case g18=>refine' @Za _ _ _ _ _ (Ye Yo rfl T.b_tuple Yl (Za (pv 11) Zb rfl)) (Za (Ye Yo rfl T.b_tuple Yl (Za (pv 15) Zb rfl)) (Za (pv 16) (Za (Zu (Za (Zi Cd_ hr (by decide) rfl (Za (pv 0) (Za Zd Zb rfl) rfl)) (Za (Zt Xl Zd (Zi Cd_ hr (by decide) rfl (Za (pv 0) (Za Zd Zb rfl) rfl))) Zb rfl) rfl)) Zb rfl) rfl) rfl) rfl
 refine ⟨rfl,fun H0 R us0 s0 nR eR al0=>?_⟩;have nRl:R≠l:=hl.neN nR;refine ⟨_,rfl,_,rfl,l,8,rfl,hl.same s0,by decide,Yp (by decide),fun r0 H1 r00 r01 k1 l1=>?_⟩;have al1:Al (IsSh H1) us0 Zd5:=al0.imp fun v x r=>r.tk (tkS k1 (hl.same s0));obtain ⟨u,sh,eu,hsh,msh⟩:=Zof al1 r00 r01;have B:=Zla msh;obtain ⟨pts,pcs⟩:=sh;obtain ⟨a0,c,p,rfl,ha0,hc0,hp0⟩:=hsh;obtain ⟨c,cvs,rfl,hc7,cal⟩:=hc0;obtain ⟨p,pvs,rfl,hp7,pal⟩:=hp0;replace cal:Al (IsP H1) cvs pts:=cal;replace pal:Al (IsI H1) pvs pcs:=pal;replace B:Base pts pcs:=B;have n6:pts.length≤6:=B.n6;have clen:=cal.1;refine ⟨R,us0,_,_,rfl,rfl,SqL.of (k1 _ _ nRl eR),eu,?_⟩;refine ⟨a0,_,rfl,SqT.of ha0,rfl,_,_,rfl,_,_,rfl,rfl,?_⟩;refine ⟨_,rfl,l,3,rfl,l1,by decide,Yp (by decide),fun r1 H2 r10 r11 k2 l2=>⟨_,_,rfl,rfl,?_⟩⟩;refine ⟨_,rfl,l,5,rfl,l2,by decide,Yp (by decide),fun r2 H3 r20 r21 k3 l3=>⟨_,_,rfl,rfl,?_⟩⟩;refine ⟨_,rfl,l,5,rfl,l3,by decide,Yp (by decide),fun r3 H4 r30 r31 k4 l4=>⟨_,_,rfl,rfl,?_⟩⟩;refine ⟨_,_,_,rfl,?_⟩;refine ⟨_,rfl,l,7,rfl,l4,by decide,Yp (by decide),fun r4 H5 r40 r41 k5 l5=>⟨_,_,rfl,rfl,?_⟩⟩;refine ⟨_,rfl,l,41,rfl,l5,by decide,Yp (by decide),fun r5 H6 r50 r51 k6 l6=>⟨_,_,rfl,rfl,?_⟩⟩;refine ⟨_,rfl,l,9,rfl,l6,by decide,Yp (by decide),fun r6 H7 r60 r61 k7 l7=>⟨_,_,rfl,rfl,?_⟩⟩;refine ⟨_,_,_,rfl,?_⟩;have k17:=k2.trans (k3.trans (k4.trans (k5.trans (k6.trans k7))));have t7:Tk H1 H7:=tkS k17 l1;have kk:Keep l H H7:=s0.keep.trans (k1.trans k17);dsimp only;refine Zrv (R:=fun σ Hn=>∃ A:Aff,σ=[some (.ref l),some (.int 8),some (.ref c),some (.ref p),some (.int A.a),some (.int A.b),some (.int A.c),some (.int A.d),some (.int A.s),some (.int A.t),none,none,none,none,none,none,none]∧A.det≠0∧Small A∧Same H7 Hn) ?_ ?_ ?_ ?_ ?_
 · refine ⟨_,rfl,_,rfl,_,_,rfl,rfl,mul4 (by omega) (by omega),_,rfl,_,rfl,_,_,rfl,rfl,mul4 (by omega) (by omega),rfl,_,rfl,?_⟩;refine ite2 (fun hd=>?_) (fun hd=>?_)
   · refine ⟨_,rfl,z4_,fun Z nZ=>?_⟩;exact ⟨Z,_,rfl,SqT.of Zc,rfl,_,_,rfl,_,_,rfl,_,_,rfl,_,_,rfl,rfl,Aff.mk 1 (r2-2) 0 1 (r5-20) (r6-4),rfl,by show (1:Int)*1-(r2-2)*0≠0;omega,⟨by show (1:Int).natAbs≤3;decide,by show (r2-2).natAbs≤3;omega,by show (0:Int).natAbs≤3;decide,by show (1:Int).natAbs≤3;decide,by show (r5-20).natAbs≤20;omega,by show (r6-4).natAbs≤20;omega⟩,Same.new nZ⟩
   · refine ⟨Aff.mk (1+r1) (r2-2) (r3-2) (r4-3) (r5-20) (r6-4),rfl,fun z=>?_,⟨by show (1+r1).natAbs≤3;omega,by show (r2-2).natAbs≤3;omega,by show (r3-2).natAbs≤3;omega,by show (r4-3).natAbs≤3;omega,by show (r5-20).natAbs≤20;omega,by show (r6-4).natAbs≤20;omega⟩,Same.refl _⟩;refine hd (n19_ (congrArg V.int ?_));have z':(1+r1)*(r4-3)-(r2-2)*(r3-2)=0:=z;omega
 · rintro Q1 Q2 hq ⟨v1,e1,v2,e2,i1,j1,f1,f2,m1,v3,e3,v4,e4,i2,j2,f3,f4,m2,f5,k,f6,q6⟩
   exact ⟨v1,e1,v2,e2,i1,j1,f1,f2,m1,v3,e3,v4,e4,i2,j2,f3,f4,m2,f5,k,f6,hq _ _ q6⟩
 · rintro key H1' ⟨v1,e1,z1,f1⟩
   refine ⟨v1,e1,z1,fun Z nZ=>?_⟩;obtain ⟨b1,xs1,g1,g2,g3,x1,y1,g4,x2,y2,g5,x3,y3,g6,x4,y4,g7,g8,q8⟩:=f1 Z nZ;exact ⟨b1,xs1,g1,g2,g3,x1,y1,g4,x2,y2,g5,x3,y3,g6,x4,y4,g7,g8,key _ _ q8⟩
 · exact fun key H1' r=>key _ _ r
 rintro σ H7n ⟨A,rfl,hdet,W,s7n⟩
 replace t7:=t7.trans s7n.tk;replace kk:=kk.trans s7n.keep;replace l7:=l7.same s7n;clear k1 k2 k3 k4 k5 k6 k7 k17;have Wa:=W.a;have Wb:=W.b;have Wc:=W.c;have Wd:=W.d;obtain ⟨Aa,Ab,Ac,Ad,As,At⟩:=A;replace Wa:Aa.natAbs≤1000:=n32_ Wa (by decide);replace Wb:Ab.natAbs≤1000:=n32_ Wb (by decide);replace Wc:Ac.natAbs≤1000:=n32_ Wc (by decide);replace Wd:Ad.natAbs≤1000:=n32_ Wd (by decide);refine ⟨_,rfl,_,rfl,c,cvs,rfl,.inr (SqT.of (t7 _ _ hc7)),l,cvs.length,rfl,l7,by omega,fun H8 O o k8 l8 nO eO pm=>?_⟩;rw [cal.1] at pm;have CO:=Zs4 pm;have t8:Tk H1 H8:=t7.trans (tkS k8 l7);refine ⟨z2_,fun z nz=>?_⟩;generalize gG:upd H8 z (.tup [.int 0,.int 0])=H9;obtain ⟨s9,e9⟩:=gen_upd gG nz;refine ⟨z1_,fun y ny=>?_⟩;generalize gG:upd H9 y (.lst [.ref z])=H10;obtain ⟨s10,e10⟩:=gen_upd gG ny;have t10:Tk H1 H10:=t8.trans (s9.trans s10).tk;refine ⟨_,rfl,c,cvs,rfl,.inr (SqT.of (t10 _ _ hc7)),y,cvs.length,_,rfl,rfl,e10,by omega,by omega,by simp;rw [sizeLine_eq];omega,fun C nC=>?_⟩;rw [n62_,Zdh];have s11:Same H10 (upd H10 C (.lst (List.replicate cvs.length (.ref z)))):=Same.new nC;have e11:upd H10 C (.lst (List.replicate cvs.length (.ref z))) C=some (.lst (List.replicate cvs.length (.ref z))):=Zc;have nCl:C≠l:=(l8.same (s9.trans s10)).neN nC;generalize upd H10 C (.lst (List.replicate cvs.length (.ref z)))=H11 at s11 e11 ⊢;have s811:=s9.trans (s10.trans s11);have t11:Tk H1 H11:=t8.trans s811.tk;have l11:=l8.same s811;have k11:Keep l H H11:=(kk.trans k8).trans s811.keep;have eO11:=s811 _ _ eO;have nOC:O≠C:=Zr (s9.trans s10 _ _ eO) nC
 have nC0:H C=none:=by
  cases e:H C with
  | none=>rfl
  | some ob =>
    have:=(kk.trans k8).trans (s9.trans s10).keep _ _ nCl e
    rw [this] at nC;cases nC
 refine ⟨_,rfl,c,rfl,⟨_,SqT.of (t11 _ _ hc7)⟩,?_⟩;refine Zjd (n:=pts.length) (fun i σ H2=>Keep C H11 H2∧(∃ x1 x2 x3,σ=[some (.ref l),some (.int 8),some (.ref c),some (.ref p),some (.int Aa),some (.int Ab),some (.int Ac),some (.int Ad),some (.int As),some (.int At),some (.ref O),some (.ref C),x1,x2,x3,none,none])∧∃ us cs,H2 C=some (.lst us)∧Al (IsP H2) us cs∧cs.length=pts.length∧∀ j:Nat,j<i→cs[(o.getD j 0).toNat]? = some ((Aff.mk Aa Ab Ac Ad As At).at (pts.getD j (0,0)))) ⟨Keep.refl _ _,⟨_,_,_,rfl⟩,_,List.replicate cvs.length (0,0),e11,Zpr ⟨z,rfl,s11 _ _ (s10 _ _ e9)⟩ _,by simp [cal.1],fun j hj=>absurd hj (Nat.not_lt_zero _)⟩ (fun i σ H2 hi p=>?_) (fun σ H2 p=>?_) (fun i x σ H2 H3 hi y p=>?_) (fun σ H2 p=>?_)
 · have t2:Tk H11 H2:=Tk.of_keep p.1 e11;exact ⟨cvs,cvs[i]'(by rw [cal.1];exact hi),SqT.of (t2 _ _ (t11 _ _ hc7)),n1_ _⟩
 · have t2:Tk H11 H2:=Tk.of_keep p.1 e11;exact ⟨cvs,SqT.of (t2 _ _ (t11 _ _ hc7)),cal.1⟩
 · obtain ⟨k2,⟨x1,x2,x3,rfl⟩,us,cs,eC,alc,lc,hc⟩:=p;obtain ⟨g,x,rfl,ng,rfl,y1⟩:=y;have t2:Tk H11 H2:=Tk.of_keep k2 e11;have ex:=y1 cvs (SqT.of (t2 _ _ (t11 _ _ hc7)));obtain ⟨pt,ept,b,rfl,hb⟩:=cal.get ex;have hpt:=Zo3 (B.bd pt (n12_ ept));generalize gG:upd H2 g (.tup [.int i,.ref b])=H3;obtain ⟨sg,eg⟩:=gen_upd gG ng;have hb3:=sg _ _ (t2 _ _ (t11 _ _ hb));refine ⟨g,_,rfl,SqT.of eg,rfl,_,_,rfl,_,_,rfl,⟨b,_,rfl,SqT.of hb3,rfl,_,_,rfl,_,_,rfl,rfl,rfl,?_⟩⟩;refine ⟨_,rfl,_,rfl,_,_,rfl,rfl,mul4 Wa hpt.1,_,rfl,_,rfl,_,_,rfl,rfl,mul4 Wb hpt.2,_,_,rfl,rfl,_,rfl,_,_,rfl,rfl,?_⟩;refine ⟨_,rfl,_,rfl,_,_,rfl,rfl,mul4 Wc hpt.1,_,rfl,_,rfl,_,_,rfl,rfl,mul4 Wd hpt.2,_,_,rfl,rfl,_,rfl,_,_,rfl,rfl,?_⟩;refine ⟨z2_,fun w nw=>?_⟩;generalize hH4:upd H3 w _=H4;have sw:Same H3 H4:=by (rw [← hH4];exact Same.new nw)
   have ew0:=(congrFun hH4 w).symm;rw [Zc] at ew0;have ew:H4 w=some (.tup [.int (Aa*pt.1+Ab*pt.2+As),.int (Ac*pt.1+Ad*pt.2+At)]):=ew0;clear ew0 hH4;have s24:=sg.trans sw;have eO4:H4 O=some (.lst (o.map V.int)):=s24 _ _ (k2 _ _ nOC eO11);have bo:=CO.bd i hi;have eC4:=s24 _ _ eC;refine ⟨_,rfl,_,rfl,_,rfl,O,_,(i:Int),_,rfl,rfl,SqL.of eO4,o_at CO (Int.natCast_nonneg i) (Int.ofNat_lt.mpr hi),?_⟩;have ulen:us.length=pts.length:=by rw [alc.1,lc]
   refine ⟨C,us,_,(o.getD i 0).toNat,rfl,rfl,eC4,Zlw bo.1 (by rw [ulen];exact bo.2),?_⟩;have tC:Tk H4 (upd H4 C (.lst (us.set (o.getD i 0).toNat (.ref w)))):=Tk.upd_lst eC4;refine ⟨fun b' o' nb e=>?_,⟨_,_,_,rfl⟩,_,cs.set (o.getD i 0).toNat ((Aff.mk Aa Ab Ac Ad As At).at pt),Zc,?_,by simp [lc],fun j hj=>?_⟩
   · rw [Zs nb];exact s24 _ _ (k2 _ _ nb e)
   · exact Zto (alc.imp fun v x r=>r.tk (s24.tk.trans tC)) _ ⟨w,rfl,tC _ _ ew⟩
   · rw [List.getElem?_set]
     by_cases hji:j=i
     · subst hji;rw [if_pos rfl,if_pos (by rw [lc];omega),n3_ (l:=pts),ept];rfl
     · rw [if_neg (fun z=>hji (CO.inj j i (by omega) hi (by have b2:=CO.bd j (by omega);omega)))];exact hc j (by omega)
 · obtain ⟨k2,⟨x1,x2,x3,rfl⟩,us,cs,eC,alc,lc,hc⟩:=p;have t2:Tk H11 H2:=Tk.of_keep k2 e11;have t12:=t11.trans t2;have eO2:=k2 _ _ nOC eO11
   have l2:StAt H2 l:=by
    obtain ⟨a',b',c',e,r⟩:=l11;exact ⟨a',b',c',k2 _ _ nCl.symm e,r⟩
   have k02:Keep l H H2:=fun b' o' nb e=>k2 _ _ (Zr e nC0) (k11 _ _ nb e);have hp2:=t12 _ _ hp7;refine ⟨_,rfl,p,rfl,⟨_,SqT.of hp2⟩,fun D nD=>?_⟩;refine lc_T (k:=.t) (vs:=pvs) (fun H v pc=>∃ r,IsI H v r∧(r.Perm (pc.map (oAt o))∧r.Pairwise (·≤·))) (fun H1 H2 v x t r=>let ⟨r',i,j⟩:=r;⟨r',i.tk t,j⟩) pcs (by rw [pal.1]) (by rw [pal.1];have:=B.p4;omega) nD hp2 (fun i w H4 C' hw s4 c'=>?_) (fun H4 vs s4 e4 a4=>?_)
   · obtain ⟨pc,epc,b,rfl,hb⟩:=pal.get hw;have hb4:=s4 _ _ (t12 _ _ hb);obtain ⟨i1,j1,k1,rfl,bi,bj,bk,_⟩:=Zp0 (B.pc _ (n12_ epc));refine ⟨_,rfl,b,rfl,⟨_,SqT.of hb4⟩,fun E nE=>?_⟩;refine lc_T (k:=.t) (vs:=[i1,j1,k1].map V.int) RI hRI ([i1,j1,k1].map (oAt o)) (by simp) (by simp) nE hb4 (fun n x H6 C6 hx s6 c6=>?_) (fun H6 us6 s6 e6 a6=>?_)
     · rw [n11_] at hx;obtain ⟨y,ey,rfl⟩:=n38_.mp hx
       have by':0≤y∧y<(pts.length:Int):=by
        have:=n12_ ey
        simp only [n14_,n17_,or_false] at this
        rcases this with rfl|rfl|rfl<;>assumption
       exact ⟨_,rfl,_,rfl,O,_,y,_,rfl,rfl,SqL.of (s6 _ _ (s4 _ _ eO2)),o_at CO by'.1 by'.2,c6 _ _ _ (Same.refl _) (by rw [n11_,ey];rfl) rfl⟩
     · rw [a6.ints] at e6;refine ⟨E,_,rfl,SqL.of e6,by simp,fun L ns' nL pm' so'=>?_⟩;have s7:Same H6 (upd H6 L (.lst (ns'.map V.int))):=Same.new nL;have e7:upd H6 L (.lst (ns'.map V.int)) L=some (.lst (ns'.map V.int)):=Zc;generalize upd H6 L (.lst (ns'.map V.int))=H7' at s7 e7 ⊢;refine ⟨L,_,rfl,.inl ⟨SqL.of e7,fun T' nT=>?_⟩⟩;exact c' _ _ [i1,j1,k1] (s6.trans (s7.trans (Same.new nT))) epc ⟨ns',⟨T',rfl,Zc⟩,pm',so'⟩
   · obtain ⟨kl,klen,kal,kT⟩:=Znj a4;have DR:∀ q:List Nat,q.Perm (List.range pcs.length)→Drawn pts pcs (Aff.mk Aa Ab Ac Ad As At) o cs kl q:=fun q hq=>⟨B,hdet,W,CO,lc,hc,klen,fun i hi=>kT i hi,hq⟩;have D0:=DR _ (List.Perm.refl _);have p4:=B.p4;refine ⟨D,vs,kl,3,rfl,SqL.of e4,kal.1,fun i v hv=>?_,D0.knd,by rw [klen];exact p4,fun k hk=>?_,by decide,fun L q nL qp rise=>?_⟩
     · obtain ⟨k,ek,b,rfl,hb⟩:=kal.get hv;exact ⟨b,k,rfl,ek,SqT.of hb⟩
     · obtain ⟨n,hn,rfl⟩:=n40_ hk;rw [klen] at hn;obtain ⟨_,_,_,x,y,z,_,e,_⟩:=D0.piece hn
       have:kl[n]=[x,y,z]:=by rw [← e,n3_,n1_ (by rw [klen];exact hn)];rfl
       rw [this];rfl
     · rw [klen] at qp;have D1:=DR q qp;have s5:Same H4 (upd H4 L (.lst (q.map fun i=>vs.getD i .non))):=Same.new nL;have e5:upd H4 L (.lst (q.map fun i=>vs.getD i .non)) L=some (.lst (q.map fun i=>vs.getD i .non)):=Zc;have nLl:L≠l:=(l2.same s4).neN nL;generalize upd H4 L (.lst (q.map fun i=>vs.getD i .non))=H5 at s5 e5 ⊢;have s25:=s4.trans s5;have l5:=l2.same s25;have k05:=k02.trans s25.keep;have qlen:q.length=pcs.length:=by rw [qp.length_eq,List.length_range]
       refine ⟨_,rfl,L,rfl,⟨_,SqL.of e5⟩,fun E nE=>?_⟩;refine Zio (n:=pcs.length) (l:=l) (fun H v (x:Int)=>v=.int x∧1≤x∧x≤9) (fun _ _ _ _ _ r=>r) (by omega) (fun σ=>∃ u,σ=[u,some (.ref l)]) ⟨_,rfl⟩ nE l5 (fun i H6 k6 hi=>⟨_,_,SqL.of (k6 _ _ nLl e5),n1_ (by simp [qlen];exact hi)⟩) (fun H6 k6=>⟨_,SqL.of (k6 _ _ nLl e5),by simp [qlen]⟩) (fun i x σ2 H6 H7' C' hi k6 l6 y o' c'=>?_) (fun H6 ts ys k6 l6 e6 hy a6=>?_)
       · obtain ⟨u,rfl⟩:=o';obtain ⟨rfl,y2⟩:=y;refine ⟨_,rfl,z2_,fun W' nW=>?_⟩;have s8':Same H7' (upd H7' W' (.lst [.int 9,.int 2])):=Same.new nW;have e8':upd H7' W' (.lst [.int 9,.int 2]) W'=some (.lst [.int 9,.int 2]):=Zc;have nWl:W'≠l:=l6.neN nW;generalize upd H7' W' (.lst [.int 9,.int 2])=H8' at s8' e8' ⊢;refine ⟨_,rfl,l,2,rfl,l6.same s8',by decide,Yp (by decide),fun r9 H9' r90 r91 k9 l9=>?_⟩;have hr9:r9=0∨r9=1:=by omega
         have fin:∀ m:Int,0<m→m≤9→Zd3 [.ref l,.int m] H9' (fun v H=>∃ i j,V.int 1=.int i∧v=.int j∧C' [some x,some (.ref l)] (.int (i+j)) H) E0:=fun m m0 m9=>⟨l,m,rfl,l9,m0,Yp (by show _<18446744073709551616;omega),fun r10 H10' ra rb k10 l10=>⟨_,_,rfl,rfl,c' _ _ _ _ ⟨_,rfl⟩ (s8'.keep.trans (k9.trans k10)) l10 ⟨rfl,by omega,by omega⟩⟩⟩
         rcases hr9 with rfl|rfl
         · exact ⟨W',_,_,_,rfl,rfl,SqL.of (k9 _ _ nWl e8'),rfl,fin 9 (by decide) (by decide)⟩
         · exact ⟨W',_,_,_,rfl,rfl,SqL.of (k9 _ _ nWl e8'),rfl,fin 2 (by decide) (by decide)⟩
       · have ets:ts=ys.map V.int:=by
          refine (Al.ints (ns:=ys) ?_);exact a6.imp fun v x r=>r.1
         refine ⟨E,ts,rfl,.inl ⟨SqL.of e6,fun T' nT=>?_⟩⟩;have s7:Same H6 (upd H6 T' (.tup ts)):=Same.new nT;have e7:upd H6 T' (.tup ts) T'=some (.tup (ys.map V.int)):=by rw [Zc,ets]
         generalize upd H6 T' (.tup ts)=H7' at s7 e7 ⊢;have t57:Tk H5 H7':=(tkS k6 l5).trans s7.tk;have t27:Tk H2 H7':=s25.tk.trans t57;have k07:=k05.trans (k6.trans s7.keep);have l7':=l6.same s7;have nDl:C≠l:=nCl;have eC7:H7' C=some (.lst us):=s7 _ _ (k6 _ _ nCl (s25 _ _ eC));have eL7:H7' L=some (.lst (q.map fun i=>vs.getD i .non)):=s7 _ _ (k6 _ _ nLl e5);refine ⟨_,rfl,C,us,rfl,.inl ⟨SqL.of eC7,fun T1 n1=>?_⟩⟩;generalize gG:upd H7' T1 (.tup us)=G1;obtain ⟨u1,f1⟩:=gen_upd gG n1;refine ⟨_,rfl,L,_,rfl,.inl ⟨SqL.of (u1 _ _ eL7),fun T2 n2=>?_⟩⟩;generalize gG:upd G1 T2 (.tup (q.map fun i=>vs.getD i .non))=G2;obtain ⟨u2,f2⟩:=gen_upd gG n2;have u02:=u1.trans u2;refine ⟨_,rfl,_,rfl,l,10,rfl,l7'.same u02,by decide,Yp (by decide),fun rl G3 rl0 rl1 k3' l3'=>?_⟩;refine ⟨_,rfl,l,9,rfl,l3',by decide,Yp (by decide),fun rm G4 rm0 rm1 k4' l4'=>⟨_,_,rfl,rfl,z2_,fun T4 n4=>?_⟩⟩;generalize gG:upd G4 T4 (.tup [.int rl,.int (1+rm)])=G5;obtain ⟨u5,f5⟩:=gen_upd gG n4;refine ⟨z4_,fun T5 n5=>?_⟩;have u6:Same G5 (upd G5 T5 (.tup [.ref T1,.ref T2,.ref T',.ref T4])):=Same.new n5;have w24:Tk G2 G4:=(tkS k3' (l7'.same u02)).trans (tkS k4' l3');have w26:Tk G2 (upd G5 T5 (.tup [.ref T1,.ref T2,.ref T',.ref T4])):=w24.trans (u5.trans u6).tk;have w76:=u02.tk.trans w26;refine q' _ _ ⟨cs,q.map fun i=>kl.getD i [],ys,rl,1+rm⟩ (k07.trans (u02.keep.trans (k3'.trans (k4'.trans (u5.trans u6).keep)))) (l4'.same (u5.trans u6)) ⟨T5,_,_,_,_,rfl,Zc,⟨T1,us,rfl,w26 _ _ (u2 _ _ f1),alc.imp fun v x r=>r.tk (t27.trans w76)⟩,⟨T2,_,rfl,w26 _ _ f2,?_⟩,⟨T',rfl,w76 _ _ e7⟩,⟨T4,rfl,u6 _ _ f5⟩⟩ (D1.ok rise (by rw [hy]) (fun t ht=>?_) ⟨rl0,by omega⟩ ⟨by omega,by omega⟩) (show (q.map fun i=>kl.getD i []).length≤4 by rw [n23_,qlen];exact p4) (show cs.length≤6 by rw [lc];exact n6) (Drawn.far D1)
         · refine (Zt1 kal (q:=q) fun i hi=>?_).imp fun v x r=>r.tk (s5.tk.trans (t57.trans w76));rw [klen];exact n35_.mp (qp.mem_iff.mp hi)
         · obtain ⟨i,hi,e⟩:=n40_ ht;obtain ⟨v,_,r⟩:=a6.got (show ys[i]? = some t by rw [n1_ hi,e]);exact r.2
abbrev Za8:Stmt:=top 80
theorem Zjc (F:Fun K "_law_row" "_law_row" Za8 f fd) (Cak_:a45_ P w K mg base):FnOk P w K mg base CX0 3 f fd ["_law_state_here","_law_many"] Zm8:=by
 have sc:FnScope ["_law_state_here","_law_many"] ["_law_state_here","_law_many"] (Zg Za8):=fsc (by decide +kernel);refine F.ok sc (fun vs H Q E h=>by obtain ⟨l,n,rfl,_⟩:=h;rfl) fun cdv A outer s H vs Q E hr h=>?_;obtain ⟨l,n,rfl,hl,h1000,q⟩:=h;refine' ⟨_,?term,?read⟩
 case term=>refine' @Zf _ _ _ ?g1;case g1=>refine' @Zl _ _ _ _ ?g2;case g2=>refine' @Ye _ _ _ _ _ _ _ _ _ Yo rfl T.b_tuple Yl ?g3 (by decide) (by decide) (by rfl) (by rfl);case g3=>refine' @Za _ _ _ _ _ ?g4 Zb rfl;case g4=>refine' @Xg _ _ _ _ _ _ _ (["_law_turn","_law_state_here"]) ([none,some 0]) _ _ _ _ _ rfl (Yz (XN:=["_law_state_here","_law_many"]) (Scope.names (Zg Za8)) rfl rfl rfl (fun _ h=>Z9 h) (by decide +kernel) rfl) ?g5 (fun _ _ _ _=>pgB 0) (fun _ _ _ _=>Zw) (fun _ _ _ _=>Zi Cak_ hr (by decide) rfl (Za (pv 1) Zb rfl)) (by intro _ ;rfl);case g5=>refine' @Zdr _ _ _ _ _ _ rfl T.b_range (Za (pv 1) Zb rfl) (by rfl)
 refine ⟨_,rfl,n,rfl,by omega,by omega,fun D nD=>?_⟩;refine Zio (n:=n) (l:=l) (fun H v (x:Rat)=>IsQ H v x∧FM.B 60 x∧x.den∣60) (fun H1 H2 v x t r=>⟨r.1.tk t,r.2⟩) h1000 (fun σ=>∃ u,σ=[u,some (.ref l)]) ⟨_,rfl⟩ nD hl (fun i H2 k hi=>hi) (fun H2 k=>n6_ _) (fun i x σ2 H2 H3 C hi k2 l2 y o c=>?_) (fun H2 vs ys k2 l2 e2 hy a2=>?_)
 · obtain ⟨u,rfl⟩:=o;obtain ⟨rfl,rfl⟩:=y;exact ⟨_,rfl,l,rfl,l2,fun H5 p x k5 l5 hp hB=>c _ _ _ x ⟨_,rfl⟩ k5 l5 ⟨⟨p,rfl,hp⟩,hB⟩⟩
 · refine ⟨D,vs,rfl,.inl ⟨SqL.of e2,fun t nt=>?_⟩⟩;have s3:Same H2 (upd H2 t (.tup vs)):=Same.new nt;refine q _ _ ys (k2.trans s3.keep) (l2.same s3) ⟨t,vs,rfl,Zc,a2.imp fun v x r=>r.1.tk s3.tk⟩ hy (fun x hx=>?_) (fun x hx=>?_)
   · obtain ⟨i,hi,e⟩:=n40_ hx;obtain ⟨v,_,r⟩:=a2.got (show ys[i]? = some x by rw [n1_ hi,e]);exact r.2.1
   · obtain ⟨i,hi,e⟩:=n40_ hx;obtain ⟨v,_,r⟩:=a2.got (show ys[i]? = some x by rw [n1_ hi,e]);exact r.2.2
abbrev Zbo:Stmt:=top 81
theorem Zic (F:Fun K "_law_same" "_law_same" Zbo f fd):FnOk P w K mg base CX0 1 f fd ["_law_found","_law_due"] Zjo:=by
 have sc:FnScope ["_law_found","_law_due"] ["_law_found","_law_due"] (Zg Zbo):=fsc (by decide +kernel);refine F.ok sc (fun vs H Q E h=>by obtain ⟨N,k,v,u,d,rfl,_⟩:=h;rfl) fun cdv A outer s H vs Q E hr h=>?_;obtain ⟨N,k,v,u,d,rfl,h1,h2,hk,hd,hz,q⟩:=h;refine' ⟨_,?term,?read⟩
 case term=>refine' @Zf _ _ _ (Zl (Yx Zco (Zh (Za9 hr) rfl T.b_repr Zga (Za (pv 0) Zb rfl)) (Zh (Za9 hr) rfl T.b_repr Zga (Za (pv 1) Zb rfl)) (Zx _)))
 refine ⟨_,rfl,N,k,v,d,rfl,h1,hk,hd,hz,_,rfl,N,k,u,d,rfl,h2,hk,hd,hz,rfl,?_⟩;rw [n19_ rfl];exact q
abbrev Zcq:Stmt:=top 82
theorem Zjf (F:Fun K "_law_odd" "_law_odd" Zcq f fd) (Cd_:a41_ P w K mg base):FnOk P w K mg base CX0 2 f fd ["_law_state_here"] Znw:=by
 have sc:FnScope ["_law_state_here","_law_some"] ["_law_state_here"] (Zg Zcq):=fsc (by decide +kernel);refine F.ok sc (fun vs H Q E h=>by obtain ⟨l,N,rfl,_⟩:=h;rfl) fun cdv A outer s H vs Q E hr h=>?_;obtain ⟨l,N,rfl,hl,hN,hD,q⟩:=h;have nd:=sc.nd;refine' ⟨_,?term,?read⟩
 case term=>refine' @Ze _ _ _ _ _ ?g1 ?g2;(case g1=>refine' @Zz _ _ (1) _ _ _ _ nd rfl (Or.inl rfl) ?g3 (by rfl) (by first|exact Or.inl rfl|exact Or.inr rfl|assumption);case g3=>refine' @Zfz _ _ _ _ ?g4;case g4=>refine' @Za _ _ _ _ _ Zp4 ?g5 rfl;case g5=>refine' @Za _ _ _ _ _ Z2 ?g6 rfl;case g6=>refine' @Za _ _ _ _ _ Z2 ?g7 rfl;case g7=>refine' @Za _ _ _ _ _ Zd ?g8 rfl;case g8=>refine' @Za _ _ _ _ _ Zd ?g9 rfl;case g9=>refine' @Za _ _ _ _ _ (Zk8 Ze4 Zd) ?ga rfl;case ga=>refine' @Za _ _ _ _ _ (Zt Zmc Zd Zd) ?gb rfl;case gb=>refine' @Za _ _ _ _ _ Yj ?gc rfl;case gc=>refine' @Za _ _ _ _ _ Yj ?gd rfl;case gd=>refine' @Za _ _ _ _ _ (Zu Zb) ?ge rfl;case ge=>refine' @Za _ _ _ _ _ ?gf ?gg rfl;(case gf=>refine' @Zfz _ _ _ _ Zb);case gg=>refine' @Za _ _ _ _ _ Zqs ?gh rfl;case gh=>refine' @Za _ _ _ _ _ (Zu (Za Zd (Za Zd Zb rfl) rfl)) ?gi rfl;case gi=>refine' @Za _ _ _ _ _ (Zu (Za Zd (Za Zd Zb rfl) rfl)) ?gj rfl;case gj=>refine' @Za _ _ _ _ _ ?gk Zb rfl;case gk=>refine' @Zfz _ _ _ _ (Za Zd (Za Zd Zb rfl) rfl));case g2=>refine' @Zf _ _ _ ?gl;case gl=>refine' @Zl _ _ _ _ ?gm;case gm=>refine' @Z3 _ _ _ _ _ _ _ Yh ?gn (Zi Cd_ hr (by decide) rfl (Za (pv 0) (Za Zd Zb rfl) rfl)) (fun _ _=>rfl);case gn=>refine' @Zt _ _ _ _ _ _ _ _ Zag (pv 1) ?go;case go=>refine' @Zfz _ _ _ _ ?gp;case gp=>refine' @Za _ _ _ _ _ (Zu (Za (Zu (Za Zd (Za Zd Zb rfl) rfl)) Zb rfl)) (Za (Zu (Za Zd (Za Zd Zb rfl) rfl)) (Za (Zu (Za Zd (Za Zd Zb rfl) rfl)) (Za (Zu (Za Zd (Za Zd Zb rfl) rfl)) (Za (Zu (Za Z2 (Za Zd Zb rfl) rfl)) Zb rfl) rfl) rfl) rfl) rfl
 refine ⟨_,rfl,_,_,rfl,rfl,⟨by decide,by decide,by decide⟩,z0_,?_⟩;intro p1 n1;generalize hH1:upd H p1 _=H1;have S1:Same H H1:=by (rw [← hH1];exact Same.new n1)
 have A1:=(congrFun hH1 p1).symm;rw [Zc] at A1;clear hH1;have st1:=(hl).same S1;refine ⟨z0_,?_⟩;intro p2 n2 m2;generalize hH2:upd H1 p2 _=H2;have S2:Same H1 H2:=by (rw [← hH2];exact Same.new n2)
 have A2:=(congrFun hH2 p2).symm;rw [Zc] at A2;clear hH2;have st2:=(st1).same S2;intro p3 n3;generalize hH3:upd H2 p3 _=H3;have S3:Same H2 H3:=by (rw [← hH3];exact Same.new n3)
 have A3:=(congrFun hH3 p3).symm;rw [Zc] at A3;clear hH3;have st3:=(st2).same S3;refine ⟨z2_,?_⟩;intro p4 n4;generalize hH4:upd H3 p4 _=H4;have S4:Same H3 H4:=by (rw [← hH4];exact Same.new n4)
 have A4:=(congrFun hH4 p4).symm;rw [Zc] at A4;clear hH4;have st4:=(st3).same S4;refine ⟨z2_,?_⟩;intro p5 n5;generalize hH5:upd H4 p5 _=H5;have S5:Same H4 H5:=by (rw [← hH5];exact Same.new n5)
 have A5:=(congrFun hH5 p5).symm;rw [Zc] at A5;clear hH5;have st5:=(st4).same S5;refine ⟨z2_,?_⟩;intro p6 n6 m6;generalize hH6:upd H5 p6 _=H6;have S6:Same H5 H6:=by (rw [← hH6];exact Same.new n6)
 have A6:=(congrFun hH6 p6).symm;rw [Zc] at A6;clear hH6;have st6:=(st5).same S6;refine ⟨by show 15≤sizeLine;decide,?_⟩;intro p7 n7 m7;generalize hH7:upd H6 p7 _=H7;have S7:Same H6 H7:=by (rw [← hH7];exact Same.new n7)
 have A7:=(congrFun hH7 p7).symm;rw [Zc] at A7;clear hH7;have st7:=(st6).same S7;refine ⟨_,rfl,z2_,?_⟩;intro p8 n8;generalize hH8:upd H7 p8 _=H8;have S8:Same H7 H8:=by (rw [← hH8];exact Same.new n8)
 have A8:=(congrFun hH8 p8).symm;rw [Zc] at A8;clear hH8;have st8:=(st7).same S8;refine ⟨z1_,?_⟩;intro p9 n9;generalize hH9:upd H8 p9 _=H9;have S9:Same H8 H9:=by (rw [← hH9];exact Same.new n9)
 have A9:=(congrFun hH9 p9).symm;rw [Zc] at A9;clear hH9;have st9:=(st8).same S9;refine ⟨z2_,?_⟩;intro p10 n10;generalize hH10:upd H9 p10 _=H10;have S10:Same H9 H10:=by (rw [← hH10];exact Same.new n10)
 have A10:=(congrFun hH10 p10).symm;rw [Zc] at A10;clear hH10;have st10:=(st9).same S10;refine ⟨z2_,?_⟩;intro p11 n11;generalize hH11:upd H10 p11 _=H11;have S11:Same H10 H11:=by (rw [← hH11];exact Same.new n11)
 have A11:=(congrFun hH11 p11).symm;rw [Zc] at A11;clear hH11;have st11:=(st10).same S11;refine ⟨z2_,?_⟩;intro p12 n12;generalize hH12:upd H11 p12 _=H12;have S12:Same H11 H12:=by (rw [← hH12];exact Same.new n12)
 have A12:=(congrFun hH12 p12).symm;rw [Zc] at A12;clear hH12;have st12:=(st11).same S12;refine ⟨z2_,?_⟩;intro p13 n13;generalize hH13:upd H12 p13 _=H13;have S13:Same H12 H13:=by (rw [← hH13];exact Same.new n13)
 have A13:=(congrFun hH13 p13).symm;rw [Zc] at A13;clear hH13;have st13:=(st12).same S13;refine ⟨z5_,?_⟩;intro p14 n14 m14;generalize hH14:upd H13 p14 _=H14;have S14:Same H13 H14:=by (rw [← hH14];exact Same.new n14)
 have A14:=(congrFun hH14 p14).symm;rw [Zc] at A14;clear hH14;have st14:=(st13).same S14;refine ⟨p7,p14,_,_,rfl,rfl,(S14 _ _ (S13 _ _ (S12 _ _ (S11 _ _ (S10 _ _ (S9 _ _ (S8 _ _ A7))))))),A14,by show 20≤sizeLine;decide,?_⟩;intro p15 n15;generalize hH15:upd H14 p15 _=H15;have S15:Same H14 H15:=by (rw [← hH15];exact Same.new n15)
 have A15:=(congrFun hH15 p15).symm;rw [Zc] at A15;clear hH15;have st15:=(st14).same S15;have T1:Tgs N H15 100 2 8 [.non,.bl true,.bl false,.int 0,.int 1,.int (-1),.int (10^Int.toNat 29),.str "",.str "a",.ref p1,.ref p2,.ref p3,.ref p4,.ref p5,.ref p6]:=(Tgs.cons (⟨_,.non,n20_ rfl,by decide +kernel⟩) (Tgs.cons (⟨_,(.bl true),n20_ rfl,by decide +kernel⟩) (Tgs.cons (⟨_,(.bl false),n20_ rfl,by decide +kernel⟩) (Tgs.cons (⟨_,(dint 0 (by decide) (by decide)),n20_ rfl,by decide +kernel⟩) (Tgs.cons (⟨_,(dint 1 (by decide) (by decide)),n20_ rfl,by decide +kernel⟩) (Tgs.cons (⟨_,(dint (-1) (by decide) (by decide)),n20_ rfl,by decide +kernel⟩) (Tgs.cons (⟨_,(dint (10^Int.toNat 29) (by decide) (by decide)),n20_ rfl,by decide +kernel⟩) (Tgs.cons (⟨_,(.str ""),n20_ rfl,by decide +kernel⟩) (Tgs.cons (⟨_,(.str "a"),n20_ rfl,by decide +kernel⟩) (Tgs.cons (⟨_,.tup (S15 _ _ (S14 _ _ (S13 _ _ (S12 _ _ (S11 _ _ (S10 _ _ (S9 _ _ (S8 _ _ (S7 _ _ (S6 _ _ (S5 _ _ (S4 _ _ (S3 _ _ (S2 _ _ A1)))))))))))))) .nil,n20_ rfl,by decide +kernel⟩) (Tgs.cons (⟨_,.lst (S15 _ _ (S14 _ _ (S13 _ _ (S12 _ _ (S11 _ _ (S10 _ _ (S9 _ _ (S8 _ _ (S7 _ _ (S6 _ _ (S5 _ _ (S4 _ _ (S3 _ _ A2))))))))))))) ((hD.same S1).new n2) m2 .nil,n20_ rfl,by decide +kernel⟩) (Tgs.cons (⟨_,.dic (S15 _ _ (S14 _ _ (S13 _ _ (S12 _ _ (S11 _ _ (S10 _ _ (S9 _ _ (S8 _ _ (S7 _ _ (S6 _ _ (S5 _ _ (S4 _ _ A3)))))))))))),n20_ rfl,by decide +kernel⟩) (Tgs.cons (⟨_,.tup (S15 _ _ (S14 _ _ (S13 _ _ (S12 _ _ (S11 _ _ (S10 _ _ (S9 _ _ (S8 _ _ (S7 _ _ (S6 _ _ (S5 _ _ A4))))))))))) (.cons (dint 0 (by decide) (by decide)) (.cons (dint 1 (by decide) (by decide)) .nil)),n20_ rfl,by decide +kernel⟩) (Tgs.cons (⟨_,.tup (S15 _ _ (S14 _ _ (S13 _ _ (S12 _ _ (S11 _ _ (S10 _ _ (S9 _ _ (S8 _ _ (S7 _ _ (S6 _ _ A5)))))))))) (.cons (dint 1 (by decide) (by decide)) (.cons (dint 1 (by decide) (by decide)) .nil)),n20_ rfl,by decide +kernel⟩) (Tgs.cons (⟨_,.lst (S15 _ _ (S14 _ _ (S13 _ _ (S12 _ _ (S11 _ _ (S10 _ _ (S9 _ _ (S8 _ _ (S7 _ _ A6))))))))) ((hD.same (S1.trans (S2.trans (S3.trans (S4.trans S5))))).new n6) m6 (.cons (dint 0 (by decide) (by decide)) (.cons (dint 1 (by decide) (by decide)) .nil)),n20_ rfl,by decide +kernel⟩) Tgs.nil)))))))))))))));have T2:Tgs N H15 100 2 8 [.ref p9,.ref p10,.ref p11,.ref p12,.ref p13]:=(Tgs.cons (⟨_,.tup (S15 _ _ (S14 _ _ (S13 _ _ (S12 _ _ (S11 _ _ (S10 _ _ A9)))))) (.cons (.tup (S15 _ _ (S14 _ _ (S13 _ _ (S12 _ _ (S11 _ _ (S10 _ _ (S9 _ _ A8))))))) (.cons (dint 0 (by decide) (by decide)) (.cons (dint 1 (by decide) (by decide)) .nil))) .nil),n20_ rfl,by decide +kernel⟩) (Tgs.cons (⟨_,.tup (S15 _ _ (S14 _ _ (S13 _ _ (S12 _ _ (S11 _ _ A10))))) (.cons (dint 2 (by decide) (by decide)) (.cons (dint 4 (by decide) (by decide)) .nil)),n20_ rfl,by decide +kernel⟩) (Tgs.cons (⟨_,.tup (S15 _ _ (S14 _ _ (S13 _ _ (S12 _ _ A11)))) (.cons (dint 1 (by decide) (by decide)) (.cons (dint 0 (by decide) (by decide)) .nil)),n20_ rfl,by decide +kernel⟩) (Tgs.cons (⟨_,.tup (S15 _ _ (S14 _ _ (S13 _ _ A12))) (.cons (dint 0 (by decide) (by decide)) (.cons (dint 2 (by decide) (by decide)) .nil)),n20_ rfl,by decide +kernel⟩) (Tgs.cons (⟨_,.tup (S15 _ _ (S14 _ _ A13)) (.cons (.bl true) (.cons (dint 1 (by decide) (by decide)) .nil)),n20_ rfl,by decide +kernel⟩) Tgs.nil)))))
 refine ⟨_,rfl,l,20,rfl,st15,by decide,Yp (by decide),fun r Hz r0 r1 kz lz=>?_⟩;have TT:=T1.app T2;obtain ⟨v,hv,mv⟩:=Zmp (xs:=[.non,.bl true,.bl false,.int 0,.int 1,.int (-1),.int (10^Int.toNat 29),.str "",.str "a",.ref p1,.ref p2,.ref p3,.ref p4,.ref p5,.ref p6]++[.ref p9,.ref p10,.ref p11,.ref p12,.ref p13]) r0 (by exact r1);exact ⟨p15,_,r,v,rfl,rfl,SqL.of (kz _ _ (fun z=>st14.ne n15 z.symm) A15),hv,q _ _ (((S1.trans (S2.trans (S3.trans (S4.trans (S5.trans (S6.trans (S7.trans (S8.trans (S9.trans (S10.trans (S11.trans (S12.trans (S13.trans (S14.trans S15))))))))))))))).keep.trans kz) lz (Tg.keepS hN st15 (TT v mv) kz)⟩
abbrev Za4:Stmt:=top 86
theorem Zf2 (F:Fun K "_law_whole" "_law_whole" Za4 f fd):FnOk P w K mg base CX0 1 f fd ["_law_thing"] Zbz:=by
 have sc:FnScope ["_law_thing"] ["_law_thing"] (Zg Za4):=fsc (by decide +kernel);refine F.ok sc (fun vs H Q E h=>by obtain ⟨N,k,v,d,rfl,_⟩:=h;rfl) fun cdv A outer s H vs Q E hr h=>?_;obtain ⟨N,k,v,d,rfl,h,q⟩:=h;refine' ⟨_,?term,?read⟩
 case term=>refine' @Zf _ _ _ ?g1;case g1=>refine' @Zl _ _ _ _ ?g2;case g2=>refine' @Y3 _ _ _ _ _ _ _ (Zh Yn rfl T.b_isinstance Zj (Za (pv 0) (Za (Y1 (v:=.ty "int") rfl T.b_int Zkh rfl) Zb rfl) rfl)) ?g3;case g3=>refine' @Yy _ _ _ _ _ ?g4;case g4=>refine' @Zjk _ _ _ _ (Zh Yn rfl T.b_isinstance Zj (Za (pv 0) (Za (Y1 (v:=.ty "bool") rfl T.b_bool Zi8 rfl) Zb rfl) rfl))
 cases h with
 | non=>exact ⟨_,rfl,_,_,_,_,rfl,TyOf.non,rfl,false,rfl,iteF q⟩
 | bl b=>exact ⟨_,rfl,_,_,_,_,rfl,TyOf.bl b,rfl,true,rfl,iteT ⟨_,rfl,_,_,_,_,rfl,TyOf.bl b,rfl,true,rfl,q⟩⟩
 | int hi=>exact ⟨_,rfl,_,_,_,_,rfl,TyOf.int _,rfl,true,rfl,iteT ⟨_,rfl,_,_,_,_,rfl,TyOf.int _,rfl,false,rfl,q⟩⟩
 | str x=>exact ⟨_,rfl,_,_,_,_,rfl,TyOf.str x,rfl,false,rfl,iteF q⟩
 | tup h r=>exact ⟨_,rfl,_,_,_,_,rfl,TyOf.tup h,rfl,false,rfl,iteF q⟩
 | lst h n m r=>exact ⟨_,rfl,_,_,_,_,rfl,TyOf.lst h,rfl,false,rfl,iteF q⟩
 | dic h=>exact ⟨_,rfl,_,_,_,_,rfl,TyOf.dK h,rfl,false,rfl,iteF q⟩
abbrev Xe:Stmt:=top 85
theorem Zbq (F:Fun K "_law_is_fraction" "_law_is_fraction" Xe f fd) (Cz_:a42_ P w K mg base) (Cw_:a46_ P w K mg base):FnOk P w K mg base CX0 2 f fd ["_law_thing"] Zjn:=by
 have sc:FnScope ["_law_thing"] ["_law_thing"] (Zg Xe):=fsc (by decide +kernel);refine F.ok sc (fun vs H Q E h=>by obtain ⟨N,k,v,d,rfl,_⟩:=h;rfl) fun cdv A outer s H vs Q E hr h=>?_;obtain ⟨N,k,v,d,rfl,h,hk,q⟩:=h;have hu:=Zi6 hr;refine' ⟨_,?term,?read⟩
 case term=>refine' @Ze _ _ _ _ _ ?g1 ?g2;(case g1=>refine' @Zy _ _ _ _ _ _ _ _ ?g3 (Zf (Zl Z2)) Zp;case g3=>refine' @PW.pt _ _ _ ?g4;case g4=>refine' @Ys _ _ _ _ _ _ _ ?g5 ?g6;(case g5=>refine' @Zq _ _ _ _ ?g7;case g7=>refine' @Zk _ _ _ (Zh Yn rfl T.b_isinstance Zj (Za (pv 0) (Za (Y1 (v:=.ty "tuple") rfl T.b_tuple Yl rfl) Zb rfl) rfl)) (fun _=>rfl));case g6=>refine' @Ys _ _ _ _ _ _ _ (Z4 Zgj (Zh Zn rfl T.b_len Z8 (Za (pv 0) Zb rfl)) Zd (Zx _)) ?g8;case g8=>refine' @Z6 _ _ _ _ ?g9;case g9=>refine' @Zq _ _ _ _ ?ga;case ga=>refine' @Zk _ _ _ ?gb (fun _=>rfl);case gb=>refine' @Zh _ _ _ _ _ _ _ _ _ (Z1 rfl) rfl T.b_all Xa ?gc (by decide) (by decide) (by rfl) (by rfl);case gc=>refine' @Za _ _ _ _ _ ?gd Zb rfl;case gd=>refine' @Xg _ _ _ _ _ _ _ (["_law_one"]) ([none]) _ _ _ _ _ rfl (Z7 (by decide) rfl (by decide) rfl rfl) (Yq (pv 0)) (fun _ _ _ _=>pgB 0) (fun _ _ _ _=>Zw) (fun _ _ _ _=>Zi Cw_ hr (by decide) rfl (Za (pv 0) Zb rfl)) (by intro _ ;rfl));case g2=>refine' @Zf _ _ _ ?ge;case ge=>refine' @Zl _ _ _ _ ?gf;case gf=>refine' @Y3 _ _ _ _ _ _ _ ?gg ?gh;(case gg=>refine' @Yx _ _ _ _ _ _ _ _ Zln ?gi Zd (Zx _);case gi=>refine' @Z3 _ _ _ _ _ _ _ Yc (pv 0) Zd (fun _ _=>rfl));case gh=>refine' @Yy _ _ _ _ _ ?gj;case gj=>refine' @Yx _ _ _ _ _ _ _ _ (Zsr (Nat.lt_of_succ_lt hu)) ?gk (pv 0) (Zx _);case gk=>refine' @Zi _ _ _ _ _ _ _ _ _ _ _ Cz_ hr (by decide) rfl ?gl (by decide) (by rfl) (by rfl);case gl=>refine' @Za _ _ _ _ _ ?gm ?gn rfl;(case gm=>refine' @Z3 _ _ _ _ _ _ _ Yc (pv 0) Zd (fun _ _=>rfl));case gn=>refine' @Za _ _ _ _ _ ?go Zb rfl;case go=>refine' @Z3 _ _ _ _ _ _ _ Yc (pv 0) Zd (fun _ _=>rfl)
 rcases h.isT with ⟨p,xs,ds,rfl,rfl,hp,hs⟩|e
 case inr =>
  obtain ⟨t,ty,ki⟩:=h.ty (K:=K);refine ⟨_,rfl,_,_,t,_,rfl,ty,ki,_,rfl,?_⟩;rw [e];have z:isFr d=false:=by cases d<;>first|rfl|(cases e)
  rw [z] at q;exact iteT (iteT (q _ (Same.refl H)))
 refine ⟨_,rfl,_,_,_,_,rfl,TyOf.tup hp,rfl,true,rfl,iteF ?_⟩
 by_cases h2:xs.length=2
 case neg =>
  rw [hs.len0 h2] at q;refine ⟨_,rfl,p,_,rfl,.inr (SqT.of hp),rfl,_,rfl,?_⟩;rw [show decide (V.int (xs.length:Int)=V.int 2)=false from n8_ (fun z=>h2 (by have:=V.int.inj z;omega))];exact iteT (iteT (q _ (Same.refl H)))
 obtain ⟨x,y,d1,d2,rfl,rfl,k1,k2⟩:∃ x y d1 d2,xs=[x,y]∧ds=[d1,d2]∧Dt N H k x d1∧Dt N H k y d2:=by
  match xs,ds,hs,h2 with
  | [x,y],[d1,d2],.cons a (.cons b .nil),_=>exact ⟨x,y,d1,d2,rfl,rfl,a,b⟩
 refine ⟨_,rfl,p,_,rfl,.inr (SqT.of hp),rfl,false,rfl,iteF ?_⟩;refine ⟨_,rfl,p,rfl,⟨_,SqT.of hp⟩,fun D nD=>?_⟩;refine Zr0 (xs:=[x,y]) (fun n σ2 H2=>Same H H2∧H2 D=some (.lst (([isI d1,isI d2].take n).map V.bl))∧σ2.length=1) ⟨Same.new nD,Zc,rfl⟩ ?_ ?_ ?_
 · rintro n σ2 H2 _ ⟨s2,_,_⟩
   exact SqT.of (s2 _ _ hp)
 · rintro n z σ2 H2 hn ⟨s2,a2,l2⟩
   obtain ⟨u,rfl⟩:∃ u,σ2=[u]:=by
    match σ2,l2 with
    | [u],_=>exact ⟨u,rfl⟩
   refine Zmz ?_
   match n,hn with
   | 0,hn =>
     cases (show x=z by simpa using hn)
     refine ⟨_,rfl,N,k,x,d1,rfl,k1.same s2,?_⟩;refine Zkj (by show 0<2;decide) a2 (by show 0<sizeLine;decide) ⟨?_,?_,rfl⟩
     · exact fun b o e=>by rw [Zs (Zr e nD)];exact s2 b o e
     · rw [Zc];rfl
   | 1,hn =>
     cases (show y=z by simpa using hn)
     refine ⟨_,rfl,N,k,y,d2,rfl,k2.same s2,?_⟩;refine Zkj (by show 1<2;decide) a2 (by show 1<sizeLine;decide) ⟨?_,?_,rfl⟩
     · exact fun b o e=>by rw [Zs (Zr e nD)];exact s2 b o e
     · rw [Zc];rfl
   | n+2,hn=>simp at hn
 · rintro σ2 H2 ⟨s2,a2,_⟩
   refine ⟨D,[isI d1,isI d2],rfl,SqL.of a2,_,rfl,?_⟩
   rcases k1.isI with ⟨i,rfl,rfl,hi⟩|e1
   case inr =>
    rw [show List.all [isI d1,isI d2] id=false by simp [e1]];have q':=q H2 s2;rw [fr_1 e1] at q';exact iteT q'
   rcases k2.isI with ⟨j,rfl,rfl,hj⟩|e2
   case inr =>
    rw [show List.all [isI (.int i),isI d2] id=false by simp [e2]];have q':=q H2 s2;rw [fr_2 e2] at q';exact iteT q'
   refine iteF ?_;refine ⟨_,rfl,p,_,1,_,rfl,rfl,SqT.of (s2 _ _ hp),rfl,_,_,rfl,rfl,_,rfl,?_⟩;refine ite2 (fun hlt=>?_) (fun hlt=>?_)
   · have z:0<j:=n31_ hlt;refine ⟨_,rfl,p,_,0,_,rfl,rfl,SqT.of (s2 _ _ hp),rfl,_,rfl,p,_,1,_,rfl,rfl,SqT.of (s2 _ _ hp),rfl,i,j,rfl,by omega,Zl2 hj hk,fun p3 H3 s3 a3=>?_⟩;refine ⟨_,rfl,p3,p,[(Rat.divInt i j).num,((Rat.divInt i j).den:Int)],[i,j],rfl,rfl,SqT.of a3,SqT.of (s3 _ _ (s2 _ _ hp)),?_⟩;rw [if_neg (by decide),Ztc z];exact q _ (s2.trans s3)
   · have z:¬ 0<j:=fun z=>hlt (n19_ z);have q':=q H2 s2
     have e:isFr (.tuple [.int i,.int j])=false:=by
      show (decide (1≤j)&&decide (Int.gcd i j=1))=false
      rw [n8_ (by omega)];rfl
     rw [e] at q';exact q'
abbrev Zal:Stmt:=top 87
theorem Zeu (F:Fun K "_law_is_row" "_law_is_row" Zal f fd) (Cae_:a47_ P w K mg base):FnOk P w K mg base CX0 4 f fd ["_law_many","_law_thing"] Zj1:=by
 have sc:FnScope ["_law_many","_law_thing"] ["_law_many","_law_thing"] (Zg Zal):=fsc (by decide +kernel);refine F.ok sc (fun vs H Q E h=>by obtain ⟨N,k,v,d,n,rfl,_⟩:=h;rfl) fun cdv A outer s H vs Q E hr h=>?_;obtain ⟨N,k,v,d,n,rfl,h,hk,hz,q⟩:=h;have hu:=Zi6 hr;refine' ⟨_,?term,?read⟩
 case term=>refine' @Ze _ _ _ _ _ ?g1 ?g2;(case g1=>refine' @Zy _ _ _ _ _ _ _ _ ?g3 (Zf (Zl Z2)) Zp;case g3=>refine' @PW.pt _ _ _ ?g4;case g4=>refine' @Ys _ _ _ _ _ _ _ ?g5 ?g6;(case g5=>refine' @Zq _ _ _ _ ?g7;case g7=>refine' @Zk _ _ _ (Zh Yn rfl T.b_isinstance Zj (Za (pv 1) (Za (Y1 (v:=.ty "tuple") rfl T.b_tuple Yl rfl) Zb rfl) rfl)) (fun _=>rfl));case g6=>refine' @Z6 _ _ _ _ (Z4 Zgj (Zh Zn rfl T.b_len Z8 (Za (pv 1) Zb rfl)) (pv 0) (Zx _)));case g2=>refine' @Zf _ _ _ ?g8;case g8=>refine' @Zl _ _ _ _ ?g9;case g9=>refine' @Yx _ _ _ _ _ _ _ _ (Zml (Nat.lt_of_succ_lt hu)) ?ga ?gb (Zx _);(case ga=>refine' @Xg _ _ _ _ _ _ _ (["_law_one"]) ([none]) _ _ _ _ _ rfl (Z7 (by decide) rfl (by decide) rfl rfl) (Yq (pv 1)) (fun _ _ _ _=>pgB 0) (fun _ _ _ _=>Zgf (Zq (Zhw K rfl (Zi Cae_ hr (by decide) rfl (Za (pv 0) Zb rfl)) (fun _=>rfl)))) (fun _ _ _ _=>pv 0) (by intro _ ;rfl));case gb=>refine' @Yk _ _ _ _ Zb
 rcases h.isT with ⟨a,us,ds,rfl,rfl,ha,hs⟩|e
 case inr =>
  obtain ⟨t,ty,ki⟩:=h.ty (K:=K);refine ⟨_,rfl,_,_,t,_,rfl,ty,ki,_,rfl,?_⟩;rw [e];rw [Zj0 e] at q;exact iteT (iteT (q _ (Same.refl H)))
 refine ⟨_,rfl,_,_,_,_,rfl,TyOf.tup ha,rfl,true,rfl,iteF ?_⟩;have hl:=hs.len;have hz1:1+Z0 ds≤1000:=hz;have h1000:us.length≤1000:=by have:=Ze6 ds;omega
 refine ⟨_,rfl,a,us,rfl,.inr (SqT.of ha),_,rfl,rfl,_,rfl,?_⟩
 by_cases hn:us.length=n
 case neg =>
  rw [show decide (V.int (us.length:Int)=V.int (n:Nat))=false from n8_ (fun z=>hn (by have:=V.int.inj z;omega))];rw [Zjm (by omega)] at q;exact iteT (q _ (Same.refl H))
 rw [n19_ (show V.int (us.length:Int)=V.int (n:Nat) by rw [hn])];refine iteF ?_;refine ⟨_,rfl,a,rfl,⟨_,SqT.of ha⟩,fun D nD=>?_⟩;refine lc_F (k:=.t) (vs:=us) (fun _ _ (_:Unit)=>True) (fun _ _ _ _ _ _=>trivial) (fun i=>if isFr (ds.getD i .none)=true then none else some ()) h1000 nD ha (fun i w H2 C N' hw s2 c n'=>?_) (fun H2 us' s2 e2 a2=>?_)
 · obtain ⟨dx,ed,hdx⟩:=hs.get hw;have zx:=Zjt ed;have eg:ds.getD i .none=dx:=by rw [n3_,ed];rfl
   refine ⟨_,rfl,N,k,w,dx,rfl,hdx.same s2,hk,fun H3 s3=>⟨_,rfl,?_⟩⟩;cases ef:isFr dx with
   | true=>exact iteF (n' _ s3 (by show (if isFr (ds.getD i .none)=true then none else some ())=none;rw [eg,if_pos ef]))
   | false=>exact iteT ⟨_,rfl,c _ _ () s3 (by show (if isFr (ds.getD i .none)=true then none else some ())=some ();rw [eg,if_neg (by rw [ef];decide)]) trivial⟩
 · rw [hl] at a2;refine ⟨z0_,fun E nE=>?_⟩;have s3:Same H2 (upd H2 E (.lst [])):=Same.new nE;refine ⟨D,E,us',rfl,rfl,SqL.of (s3 _ _ e2),SqL.of Zc,?_⟩;rw [Zpe (H:=H) ds isFr a2];rw [Zka (by omega)] at q;exact q _ (s2.trans s3)
abbrev Y5:Stmt:=top 88
theorem Zbg (F:Fun K "_law_are_stresses" "_law_are_stresses" Y5 f fd) (Cas_:a48_ P w K mg base):FnOk P w K mg base CX0 5 f fd ["_law_plate_here","_law_thing"] Zah:=by
 have sc:FnScope ["_law_plate_here","_law_thing"] ["_law_plate_here","_law_thing"] (Zg Y5):=fsc (by decide +kernel);refine F.ok sc (fun vs H Q E h=>by obtain ⟨N,k,u,v,d,P',rfl,_⟩:=h;rfl) fun cdv A outer s H vs Q E hr h=>?_;obtain ⟨N,k,u,v,d,P',rfl,⟨pa,c,p,t,st,rfl,hpa,hc,⟨qa,ws,rfl,hqa,bl⟩,ht,hs'⟩,ok,h,hk,hz,q⟩:=h;have hu:=Zi6 hr;refine' ⟨_,?term,?read⟩
 case term=>refine' @Ze _ _ _ _ _ ?g1 ?g2;(case g1=>refine' @Zy _ _ _ _ _ _ _ _ ?g3 (Zf (Zl Z2)) Zp;case g3=>refine' @PW.pt _ _ _ ?g4;case g4=>refine' @Ys _ _ _ _ _ _ _ ?g5 ?g6;(case g5=>refine' @Zq _ _ _ _ ?g7;case g7=>refine' @Zk _ _ _ (Zh Yn rfl T.b_isinstance Zj (Za (pv 1) (Za (Y1 (v:=.ty "tuple") rfl T.b_tuple Yl rfl) Zb rfl) rfl)) (fun _=>rfl));case g6=>refine' @Z6 _ _ _ _ ?g8;case g8=>refine' @Z4 _ _ _ _ _ _ _ _ Zgj (Zh Zn rfl T.b_len Z8 (Za (pv 1) Zb rfl)) ?g9 (Zx _);case g9=>refine' @Zh _ _ _ _ _ _ _ _ _ Zn rfl T.b_len Z8 ?ga (by decide) (by decide) (by rfl) (by rfl);case ga=>refine' @Za _ _ _ _ _ ?gb Zb rfl;case gb=>refine' @Z3 _ _ _ _ _ _ _ Yc (pv 0) Zd (fun _ _=>rfl));case g2=>refine' @Zf _ _ _ ?gc;case gc=>refine' @Zl _ _ _ _ ?gd;case gd=>refine' @Yx _ _ _ _ _ _ _ _ (Zml (Nat.lt_of_succ_lt hu)) ?ge ?gf (Zx _);(case ge=>refine' @Xg _ _ _ _ _ _ _ (["_law_one"]) ([none]) _ _ _ _ _ rfl (Z7 (by decide) rfl (by decide) rfl rfl) (Yq (pv 1)) (fun _ _ _ _=>pgB 0) (fun _ _ _ _=>Zgf (Zq (Zhw K rfl (Zi Cas_ hr (by decide) rfl (Za Zd (Za (pv 0) Zb rfl) rfl)) (fun _=>rfl)))) (fun _ _ _ _=>pv 0) (by intro _ ;rfl));case gf=>refine' @Yk _ _ _ _ Zb
 have bl1:=bl.1;rw [← bl1] at q
 rcases h.isT with ⟨a,us,ds,rfl,rfl,ha,hs⟩|e
 case inr =>
  obtain ⟨t,ty,ki⟩:=h.ty (K:=K);refine ⟨_,rfl,_,_,t,_,rfl,ty,ki,_,rfl,?_⟩;rw [e];rw [Zkr e] at q;exact iteT (iteT (q _ (Same.refl H)))
 refine ⟨_,rfl,_,_,_,_,rfl,TyOf.tup ha,rfl,true,rfl,iteF ?_⟩;have hl:=hs.len;have hz1:1+Z0 ds≤1000:=hz;have h1000:us.length≤1000:=by have:=Ze6 ds;omega
 refine ⟨_,rfl,a,us,rfl,.inr (SqT.of ha),_,rfl,pa,_,1,_,rfl,rfl,SqT.of hpa,rfl,qa,ws,rfl,.inr (SqT.of hqa),rfl,_,rfl,?_⟩
 by_cases hn:us.length=ws.length
 case neg =>
  rw [show decide (V.int (us.length:Int)=V.int (ws.length:Nat))=false from n8_ (fun z=>hn (by have:=V.int.inj z;omega))];rw [Zj9 (by omega)] at q;exact iteT (q _ (Same.refl H))
 rw [n19_ (show V.int (us.length:Int)=V.int (ws.length:Nat) by rw [hn])];refine iteF ?_;refine ⟨_,rfl,a,rfl,⟨_,SqT.of ha⟩,fun D nD=>?_⟩;refine lc_F (k:=.t) (vs:=us) (fun _ _ (_:Unit)=>True) (fun _ _ _ _ _ _=>trivial) (fun i=>if (Za6 3) (ds.getD i .none)=true then none else some ()) h1000 nD ha (fun i w H2 C N' hw s2 c n'=>?_) (fun H2 us' s2 e2 a2=>?_)
 · obtain ⟨dx,ed,hdx⟩:=hs.get hw;have zx:=Zjt ed;have eg:ds.getD i .none=dx:=by rw [n3_,ed];rfl
   refine ⟨_,rfl,N,k,w,dx,3,rfl,hdx.same s2,hk,n32_ zx hz,fun H3 s3=>⟨_,rfl,?_⟩⟩;cases ef:(Za6 3) dx with
   | true=>exact iteF (n' _ s3 (by show (if (Za6 3) (ds.getD i .none)=true then none else some ())=none;rw [eg,if_pos ef]))
   | false=>exact iteT ⟨_,rfl,c _ _ () s3 (by show (if (Za6 3) (ds.getD i .none)=true then none else some ())=some ();rw [eg,if_neg (by rw [ef];decide)]) trivial⟩
 · rw [hl] at a2;refine ⟨z0_,fun E nE=>?_⟩;have s3:Same H2 (upd H2 E (.lst [])):=Same.new nE;refine ⟨D,E,us',rfl,rfl,SqL.of (s3 _ _ e2),SqL.of Zc,?_⟩;rw [Zpe (H:=H) ds (Za6 3) a2];rw [Zks (by omega)] at q;exact q _ (s2.trans s3)
abbrev Zje:Nat→Sp|0=>fun _ _ _ _=>False|n+1=>Zfh n
abbrev Xu:Stmt:=top 89
theorem X7 {n:Nat} (F:Fun K "_law_bent" "_law_bent" Xu f fd) (Cay_:Cal P w K mg base "_law_bent" (n+2) ["_law_state_here","_law_thing","_law_deep"] (Zje n)) (Cd_:a41_ P w K mg base) (Cu_:a49_ P w K mg base) (Cw_:a46_ P w K mg base):FnOk P w K mg base CX0 (n+3) f fd ["_law_state_here","_law_thing","_law_deep"] (Zfh n):=by
 have sc:FnScope ["_law_state_here","_law_thing","_law_deep","_law_at","_law_kind_here","_law_row_here"] ["_law_state_here","_law_thing","_law_deep"] (Zg Xu):=fsc (by decide +kernel);refine F.ok sc (fun vs H Q E h=>by obtain ⟨l,N,k,v,d,m,rfl,_⟩:=h;rfl) fun cdv A outer s H vs Q E hr h=>?_;obtain ⟨l,N,k,v,d,m,rfl,hl,hN,hD,hd,hk,hn,hnm,hz,q⟩:=h;have nd:=sc.nd;have hu:=Zi6 hr;refine' ⟨_,?term,?read⟩
 case term=>refine' @Ze _ _ _ _ _ ?g1 ?g2;(case g1=>refine' @Zy _ _ _ _ _ _ _ _ ?g3 ?g4 Zp;(case g3=>refine' @PW.pt _ _ _ ?g5;case g5=>refine' @Zsn _ _ _ _ _ _ _ ?g6 ?g7;(case g6=>refine' @Zk _ _ _ (Zi Cw_ hr (by omega) rfl (Za (pv 1) Zb rfl)) (fun _=>rfl));case g7=>refine' @Zqx _ _ _ _ (Z4 Zln (Zi Cd_ hr (by omega) rfl (Za (pv 0) (Za Zd Zb rfl) rfl)) Zd (Zx _)));case g4=>refine' @Zf _ _ _ ?g8;case g8=>refine' @Zl _ _ _ _ ?g9;case g9=>refine' @Zt _ _ _ _ _ _ _ _ Xl (pv 1) ?ga;case ga=>refine' @Z3 _ _ _ _ _ _ _ Yh ?gb (Zi Cd_ hr (by omega) rfl (Za (pv 0) (Za Zd Zb rfl) rfl)) (fun _ _=>rfl);case gb=>refine' @Yk _ _ _ _ (Za Zd (Za (Zk8 Ze4 Zd) (Za Zd (Za Zd Zb rfl) rfl) rfl) rfl));case g2=>refine' @Ze _ _ _ _ _ ?gc ?gd;(case gc=>refine' @Zy _ _ _ _ _ _ _ _ ?ge (Zf (Zl (Zi Cu_ hr (by omega) rfl (Za (pv 0) Zb rfl)))) Zp;case ge=>refine' @PW.pt _ _ _ ?gf;case gf=>refine' @Ys _ _ _ _ _ _ _ ?gg ?gh;(case gg=>refine' @Zq _ _ _ _ ?gi;case gi=>refine' @Zk _ _ _ (Zh Yn rfl T.b_isinstance Zj (Za (pv 1) (Za (Y1 (v:=.ty "tuple") rfl T.b_tuple Yl rfl) Zb rfl) rfl)) (fun _=>rfl));case gh=>refine' @Ys _ _ _ _ _ _ _ (Z4 (Zsm (Nat.lt_of_succ_lt hu)) (pv 1) (Zu Zb) (Zx _)) ?gj;case gj=>refine' @Z6 _ _ _ _ (Z4 Zco (pv 2) Zd (Zx _)));case gd=>refine' @Ze _ _ _ _ _ ?gk ?gl;(case gk=>refine' @Zjj _ _ (3) (4) (5) _ _ _ _ _ _ _ _ _ _ _ _ _ _ rfl nd rfl rfl rfl (by decide) (by decide) (by decide) rfl rfl rfl (Za (Zi Cd_ hr (by omega) rfl (Za (pv 0) (Za (Zh Zn rfl T.b_len Z8 (Za (pv 1) Zb rfl)) Zb rfl) rfl)) (Za (Zi Cd_ hr (by omega) rfl (Za (pv 0) (Za Zd Zb rfl) rfl)) (Za (Ye Zbc rfl T.b_list Zd0 (Za (pv 1) Zb rfl)) Zb rfl) rfl) rfl) rfl (by rfl));case gl=>refine' @Ze _ _ _ _ _ ?gm (Zf (Zl (Ye Yo rfl T.b_tuple Yl (Za (pv 5) Zb rfl))));case gm=>refine' @Zy _ _ _ _ _ _ _ _ (Z4 Zco (pv 4) Zd (Zx _)) ?gn ?go;(case gn=>refine' @Zf _ _ _ ?gp;case gp=>refine' @Zbn _ _ _ _ ?gq (by rfl);case gq=>refine' @Zh5 _ _ _ _ _ _ _ _ _ _ _ _ PySem.F.plainAttrs_list PySem.F.slot_list_insert PySem.F.type_list_insert Zhm (pv 5) (Za (pv 3) (Za (Zi Cu_ hr (by omega) rfl (Za (pv 0) Zb rfl)) Zb rfl) rfl) (by rfl) (by rfl) (by rfl) (by rfl) (by rfl));case go=>refine' @Zf _ _ _ ?gr;case gr=>refine' @Zy _ _ _ _ _ _ _ _ (Z4 Zco (pv 4) Zd (Zx _)) ?gs ?gt;(case gs=>refine' @Zf _ _ _ ?gu;case gu=>refine' @Zbn _ _ _ _ ?gv (by rfl);case gv=>refine' @Zh5 _ _ _ _ _ _ _ _ _ _ _ _ PySem.F.plainAttrs_list PySem.F.slot_list_pop PySem.F.type_list_pop Zkd (pv 5) (Za (pv 3) Zb rfl) (by rfl) (by rfl) (by rfl) (by rfl) (by rfl));case gt=>refine' @Zf _ _ _ ?gw;case gw=>refine' @Zy _ _ _ _ _ _ _ _ (Z4 Zco (pv 4) Zd (Zx _)) ?gx ?gy;(case gx=>refine' @Zf _ _ _ ?gz;case gz=>refine' @Zbn _ _ _ _ ?g10 (by rfl);case g10=>refine' @Zh5 _ _ _ _ _ _ _ _ _ _ _ _ PySem.F.plainAttrs_list PySem.F.slot_list_insert PySem.F.type_list_insert Zhm (pv 5) ?g11 (by rfl) (by rfl) (by rfl) (by rfl) (by rfl);case g11=>refine' @Za _ _ _ _ _ (pv 3) ?g12 rfl;case g12=>refine' @Za _ _ _ _ _ ?g13 Zb rfl;case g13=>refine' @Z3 _ _ _ _ _ _ _ Yh (pv 5) (pv 3) (fun _ _=>rfl));case gy=>refine' @Zf _ _ _ ?g14;case g14=>refine' @Zy _ _ _ _ _ _ _ _ (Z4 Zco (pv 4) Zd (Zx _)) (Zf (Zl (pv 5))) ?g15;case g15=>refine' @Zf _ _ _ ?g16;case g16=>refine' @Y8 _ _ _ _ _ _ ?g17 ?g18 (by rfl) (by rfl) (by rfl);(case g17=>refine' @Zi _ _ _ _ _ _ _ _ _ _ _ Cay_ hr (by omega) rfl ?g19 (by decide) (by rfl) (by rfl);case g19=>refine' @Za _ _ _ _ _ (pv 0) ?g1a rfl;case g1a=>refine' @Za _ _ _ _ _ ?g1b (Za (Zt Xw (pv 2) Zd) Zb rfl) rfl;case g1b=>refine' @Z3 _ _ _ _ _ _ _ Yh (pv 5) (pv 3) (fun _ _=>rfl));case g18=>refine' @Zhg _ _ _ _ _ _ _ (pv 5) (pv 3) Zbx (by intro _ ;rfl)
 refine ⟨_,rfl,N,k,v,d,rfl,hd,_,rfl,?_⟩
 rcases hd.isI with ⟨i,rfl,rfl,hi⟩|e2
 · refine iteT ?_;refine ⟨_,rfl,l,4,rfl,hl,by decide,Yp (by decide),fun r H1 r0 r1 k1 l1=>?_⟩;refine ⟨_,_,rfl,rfl,_,rfl,?_⟩;refine ite2 (fun _=>?_) (fun _=>?_)
   · refine ⟨_,rfl,_,rfl,z4_,fun p2 n2=>?_⟩;refine ⟨_,rfl,l,4,rfl,l1.new n2,by decide,Yp (by decide),fun r' H3 r0' r1' k3 l3=>?_⟩;obtain ⟨w,hw,hm'⟩:=Zmp (xs:=[V.int 1,V.int (-1),V.int 2,V.int 100]) r0' (by exact r1')
     obtain ⟨c,ec,hc⟩:∃ c,w=.int c∧c.natAbs≤101:=by
      simp only [n14_,n17_,or_false] at hm'
      rcases hm' with rfl|rfl|rfl|rfl<;>exact ⟨_,rfl,by decide⟩
     refine ⟨p2,_,r',w,rfl,rfl,SqL.of (k3 _ _ (fun z=>l1.ne n2 z.symm) Zc),hw,i,c,rfl,ec,?_⟩;refine q _ _ ((k1.trans (Keep.new n2)).trans k3) l3 ⟨.int (i+c),.int ?_,n43_ _,by show 1≤_;omega⟩;have h1:2^(k+1)=2*2^k:=Nat.pow_succ';have h2:2^7≤2^k:=n41_ (by decide) (by omega);have h3:=Int.natAbs_add_le i c;rw [h1];have h5:(2:Nat)^7=128:=by decide
     omega
   · refine ⟨_,rfl,_,_,_,_,rfl,TyOf.int i,rfl,_,rfl,iteT (iteT ?_)⟩;exact ⟨_,rfl,l,N,rfl,l1,hN,Dom.keepS hD k1 l1,fun Hy vy ky ly ty=>q _ _ (k1.trans ky) ly (ty.up (by omega) (by omega) (by omega))⟩
 rw [e2];refine iteF (iteF ?_)
 rcases hd.isT with ⟨a,xs,ds,rfl,rfl,ha,hs⟩|e
 case inr =>
  obtain ⟨t,ty,ki⟩:=hd.ty (K:=K);rw [e] at ki;refine ⟨_,rfl,_,_,t,_,rfl,ty,ki,_,rfl,iteT (iteT ?_)⟩;exact ⟨_,rfl,l,N,rfl,hl,hN,hD,fun Hy vy ky ly ty=>q _ _ ((Keep.refl l H).trans ky) ly (ty.up (by omega) (by omega) (by omega))⟩
 refine ⟨_,rfl,_,_,_,_,rfl,TyOf.tup ha,rfl,true,rfl,iteF ?_⟩;refine ⟨_,rfl,z0_,fun p1 n1=>?_⟩;generalize gG:upd H p1 (.tup [])=H1;obtain ⟨S1,A1⟩:=gen_upd gG n1;have st1:=hl.same S1;refine ⟨a,p1,xs,rfl,rfl,SqT.of (S1 _ _ ha),SqT.of A1,_,rfl,?_⟩
 by_cases hx:xs=[]
 · rw [n19_ hx];refine iteT (iteT ?_);exact ⟨_,rfl,l,N,rfl,st1,hN,hD.same S1,fun Hy vy ky ly ty=>q _ _ (S1.keep.trans ky) ly (ty.up (by omega) (by omega) (by omega))⟩
 rw [n8_ hx];refine iteF ?_;refine ⟨_,rfl,rfl,_,rfl,?_⟩
 rcases n with _|n
 · exact iteT ⟨_,rfl,l,N,rfl,st1,hN,hD.same S1,fun Hy vy ky ly ty=>q _ _ (S1.keep.trans ky) ly (ty.up (by omega) (by omega) (by omega))⟩
 rw [show decide (V.int ((n+1:Nat):Int)=V.int 0)=false from n8_ (fun z=>by have:=V.int.inj z;omega)];refine iteF ?_;have dep:PyData.depthAll ds+1≤m:=hn;have hzz:1+Z0 ds≤100000:=hz;have hlen:xs.length≤100000:=by rw [hs.len];have:=Ze6 ds;omega
 have hpos:0<xs.length:=by rcases xs with _|⟨x,xs⟩;exact absurd rfl hx;simp
 refine ⟨_,rfl,_,rfl,a,xs,rfl,.inr (SqT.of (S1 _ _ ha)),l,xs.length,rfl,st1,by omega,Yp (by rw [p64];omega),fun r H2 r0 r1 k2 l2=>?_⟩;obtain ⟨rn,rfl⟩:=Int.eq_ofNat_of_zero_le r0;have hrn:rn<xs.length:=by omega
 refine ⟨_,rfl,l,9,rfl,l2,by decide,Yp (by decide),fun r' H3 r0' r1' k3 l3=>?_⟩;have K3:Keep l H H3:=S1.keep.trans (k2.trans k3);have h3:H3 a=some (.tup xs):=K3 _ _ (hl.neT ha) ha;refine ⟨_,rfl,a,xs,rfl,.inr (SqT.of h3),fun p4 n4 m4=>?_⟩;generalize gG:upd H3 p4 (.lst xs)=H5;obtain ⟨S35,e5⟩:=gen_upd gG n4;refine ⟨_,_,_,rfl,?_⟩;have st5:=l3.same S35;have d5k:Dts (fun b=>N b∨b=p4) H5 k xs ds:=((Dts.keepS hN hl hs K3).more n4).same S35;have d5:Dts (fun b=>N b∨b=p4) H5 (k+1) xs ds:=d5k.up (by omega);have D5:Dom (fun b=>N b∨b=p4) H5:=Dom.more ((Dom.keepS hD K3 l3).same S35) e5;obtain ⟨dx,edx,hdxk⟩:=d5k.get (n1_ hrn);have hdx:=hdxk.up (show k≤k+1 by omega);obtain ⟨gn,gd⟩:=Zdm edx;have pl:p4≠l:=fun z=>l3.ne n4 z.symm;have sz:xs.length<sizeLine:=by have e:=sizeLine_eq;omega
 have tk1:=Zfg rn ds;have dk1:=Zfc rn ds;have r62:rn<2^62:=n9_ hrn (n32_ hlen (by decide))
 have gdr:Z0 (ds.drop rn)=nz dx+1+Z0 (ds.drop (rn+1)):=by
  have h1:=Xj (ds.take rn) (ds.drop rn);rw [n65_] at h1;omega
 have nzT:nz (.tuple ds)=1+Z0 ds:=rfl;refine ⟨_,rfl,rfl,_,rfl,?_⟩;refine ite2 (fun _=>?_) (fun _=>?_)
 · refine ⟨_,rfl,.inl ⟨rfl,_,SqL.of e5⟩,_,rfl,_,rfl,l,_,rfl,st5,.inl hN,D5,fun H6 v6 k6 l6 t6=>?_⟩;obtain ⟨d6,b6,c6,z6⟩:=t6;have e6:=k6 _ _ pl e5;refine ⟨p4,xs,_,rn,v6,rfl,rfl,rfl,e6,by omega,r62,sz,?_⟩;have u7:Keep p4 H6 (upd H6 p4 (.lst (xs.take rn++v6 :: xs.drop rn))):=Keep.upd;have e7:upd H6 p4 (.lst (xs.take rn++v6 :: xs.drop rn)) p4=some (.lst (xs.take rn++v6 :: xs.drop rn)):=Zc;generalize upd H6 p4 (.lst (xs.take rn++v6 :: xs.drop rn))=H7 at u7 e7 ⊢;have d7:=((Dts.keepS (.inl hN) st5 d5 k6).keep (.inr rfl) e6 u7);have b7:=((b6.up (show 100≤k+1 by omega)).keep (.inr rfl) e6 u7);exact ⟨_,rfl,p4,_,rfl,.inl ⟨SqL.of e7,fun t nt=>q _ _ ((Zfy K3 n4 (S35.keep.trans k6) u7).trans (Keep.new nt)) ((l6.keep u7 (fun z=>pl z.symm)).new nt) (bfin (mid:=[v6]) (es:=[d6]) d7 (.cons b7 .nil) dep (by simp only [PyData.depthAll];omega) (by simp only [Z0];omega) nt)⟩⟩
 refine ⟨_,rfl,rfl,_,rfl,?_⟩;refine ite2 (fun _=>?_) (fun _=>?_)
 · refine ⟨_,rfl,.inl ⟨rfl,_,SqL.of e5⟩,_,rfl,p4,xs,rn,rn,xs[rn],rfl,rfl,e5,by omega,by omega,seqI (by omega) (by omega),n1_ hrn,?_⟩;rw [List.eraseIdx_eq_take_drop_succ];have u7:Keep p4 H5 (upd H5 p4 (.lst (xs.take rn++xs.drop (rn+1)))):=Keep.upd;have e7:upd H5 p4 (.lst (xs.take rn++xs.drop (rn+1))) p4=some (.lst (xs.take rn++xs.drop (rn+1))):=Zc;generalize upd H5 p4 (.lst (xs.take rn++xs.drop (rn+1)))=H7 at u7 e7 ⊢;have d7:=(d5.keep (.inr rfl) e5 u7);exact ⟨_,rfl,p4,_,rfl,.inl ⟨SqL.of e7,fun t nt=>q _ _ ((Zfy K3 n4 S35.keep u7).trans (Keep.new nt)) ((st5.keep u7 (fun z=>pl z.symm)).new nt) (bfin (mid:=[]) (es:=[]) d7 .nil dep (by simp only [PyData.depthAll];omega) (by simp only [Z0];omega) nt)⟩⟩
 refine ⟨_,rfl,rfl,_,rfl,?_⟩;refine ite2 (fun _=>?_) (fun _=>?_)
 · refine ⟨_,rfl,.inl ⟨rfl,_,SqL.of e5⟩,_,rfl,_,rfl,_,rfl,p4,xs,rn,xs[rn],rfl,rfl,SqL.of e5,Zay (n1_ hrn),p4,xs,_,rn,xs[rn],rfl,rfl,rfl,e5,by omega,r62,sz,?_⟩;have u7:Keep p4 H5 (upd H5 p4 (.lst (xs.take rn++xs[rn] :: xs.drop rn))):=Keep.upd;have e7:upd H5 p4 (.lst (xs.take rn++xs[rn] :: xs.drop rn)) p4=some (.lst (xs.take rn++xs[rn] :: xs.drop rn)):=Zc;generalize upd H5 p4 (.lst (xs.take rn++xs[rn] :: xs.drop rn))=H7 at u7 e7 ⊢;have d7:=(d5.keep (.inr rfl) e5 u7);have b7:=(hdx.keep (.inr rfl) e5 u7);exact ⟨_,rfl,p4,_,rfl,.inl ⟨SqL.of e7,fun t nt=>q _ _ ((Zfy K3 n4 S35.keep u7).trans (Keep.new nt)) ((st5.keep u7 (fun z=>pl z.symm)).new nt) (bfin (mid:=[xs[rn]]) (es:=[dx]) d7 (.cons b7 .nil) dep (by simp only [PyData.depthAll];omega) (by simp only [Z0];omega) nt)⟩⟩
 refine ⟨_,rfl,rfl,_,rfl,?_⟩;refine ite2 (fun _=>?_) (fun _=>?_)
 · exact ⟨_,rfl,q _ _ (K3.trans S35.keep) st5 ⟨.list ds,.lst e5 ((Dom.keepS hD K3 l3).new n4) m4 (Dts.less d5),by show PyData.depthAll ds+1≤m;exact dep,by show 1+Z0 ds≤_;omega⟩⟩
 refine ⟨_,rfl,_,rfl,_,rfl,p4,xs,rn,xs[rn],rfl,rfl,SqL.of e5,Zay (n1_ hrn),_,rfl,_,_,rfl,rfl,l,_,k,xs[rn],dx,m-1,congrArg (fun z=>[V.ref l,xs[rn],V.int z]) (show ((n+1:Nat):Int)-1=(n:Int) by omega),st5,.inl hN,D5,hdxk,by omega,by omega,by omega,by omega,fun H6 v6 k6 l6 t6=>?_⟩;obtain ⟨d6,b6,c6,z6⟩:=t6;have e6:=k6 _ _ pl e5;refine ⟨_,rfl,_,rfl,p4,xs,rn,rn,rfl,rfl,e6,Zlw (by omega) (by omega),?_⟩;rw [show xs.set rn v6=xs.take rn++v6 :: xs.drop (rn+1) from by rw [List.set_eq_take_append_cons_drop,if_pos hrn]];have u7:Keep p4 H6 (upd H6 p4 (.lst (xs.take rn++v6 :: xs.drop (rn+1)))):=Keep.upd;have e7:upd H6 p4 (.lst (xs.take rn++v6 :: xs.drop (rn+1))) p4=some (.lst (xs.take rn++v6 :: xs.drop (rn+1))):=Zc;generalize upd H6 p4 (.lst (xs.take rn++v6 :: xs.drop (rn+1)))=H7 at u7 e7 ⊢;have d7:=((Dts.keepS (.inl hN) st5 d5 k6).keep (.inr rfl) e6 u7);have b7:=(b6.keep (.inr rfl) e6 u7);exact ⟨_,rfl,p4,_,rfl,.inl ⟨SqL.of e7,fun t nt=>q _ _ ((Zfy K3 n4 (S35.keep.trans k6) u7).trans (Keep.new nt)) ((l6.keep u7 (fun z=>pl z.symm)).new nt) (bfin (mid:=[v6]) (es:=[d6]) d7 (.cons b7 .nil) dep (by simp only [PyData.depthAll];omega) (by simp only [Z0];omega) nt)⟩⟩
theorem Zhr (F:Fun K "_law_bent" "_law_bent" Xu f fd):FnOk P w K mg base CX0 2 f fd ["_law_state_here","_law_thing","_law_deep"] (Zje 0):=by
 have sc:FnScope ["_law_state_here","_law_thing","_law_deep","_law_at","_law_kind_here","_law_row_here"] ["_law_state_here","_law_thing","_law_deep"] (Zg Xu):=fsc (by decide +kernel);exact F.ok sc (fun _ _ _ _ h=>h.elim) fun _ _ _ _ _ _ _ _ _ h=>h.elim
abbrev Zep:Stmt:=top 91
theorem Zsf (F:Fun K "law" "law" Zep f fd) {cl:Str→Addr} (Z:Ek K mg cl) {cc Pl Pw:Addr} (hcd:fd.code=.ref cc) (CK:∀ h,K.In h→PySem.W.CodeHd h cc Pl) (BK:BltK K mg) (X_are_stressesX:CalX P w K mg base "are_stresses" 7 ["plate","thing"] (Zaf K cl)) (Cab_:a50_ P w K mg base) (Caf_:a51_ P w K mg base) (Cag_:a52_ P w K mg base) (Cu_:a49_ P w K mg base) (Cau_:a53_ P w K mg base) (Ca4_:a54_ P w K mg base) (Caz_:Cal P w K mg base "_law_said" 9 ["_law_call"] (Zi4 P w K mg base cl)) (Ca0_:a55_ P w K mg base) (Cav_:a56_ P w K mg base) (Can_:a57_ P w K mg base):FnOk P w K mg base CX0 11 f fd ["_law_script"] (Zju K Pw Pl):=by
 have sc:FnScope ["_law_script","_law_k","_law_state_here","_law_plate_here","_law_odd_here","_law_some","_law_things","_law_turn","_law_once","_law_thing","_law_kept","_law_due","_law_bad"] ["_law_script"] (Zg Zep):=fsc (by decide +kernel);refine F.okC sc (fun vs H Q E h=>?_) (fun cdv ecd A outer s H vs Q E hr h=>?_)
 · obtain ⟨a,ns,rfl,_⟩:=h;rfl
 · obtain ⟨a,ns,rfl,hS,hlen,tl,q⟩:=h;have nd:=sc.nd;refine' ⟨_,?term,?read⟩
   case term=>refine' @Ze _ _ _ _ _ ?g1 (Zf (Zl Z2));case g1=>refine' @Zdl _ _ _ _ _ _ _ _ PassesOwn.never rfl ?g2 (Zo (i:=1) nd rfl (Or.inl rfl)) ?g3 (by intro _ ;rfl);(case g2=>refine' @Zdr _ _ _ _ _ _ rfl T.b_range (Za (Zh (Zhn rfl) rfl T.b_max Zpw (Za Zd (Za (Zh (Zgz rfl) rfl T.b_min Zpz (Za (Zh Zn rfl T.b_len Z8 (Za (pv 0) Zb rfl)) (Za Zd Zb rfl) rfl)) Zb rfl) rfl)) Zb rfl) (by rfl));case g3=>refine' @Ze _ _ _ _ _ ?g4 ?g5;(case g4=>refine' @Zz _ _ (2) _ _ _ _ nd rfl (Or.inr rfl) (Zi Cav_ hr (by decide) rfl (Za (pv 0) (Za (pv 1) Zb rfl) rfl)) (by rfl) (by first|exact Or.inl rfl|exact Or.inr rfl|assumption));case g5=>refine' @Ze _ _ _ _ _ ?g6 ?g7;(case g6=>refine' @Zha _ _ (3) (4) _ _ _ _ _ _ _ _ _ _ _ rfl nd rfl rfl (by decide) rfl rfl (Za (Zi Cau_ hr (by decide) rfl (Za (pv 2) (Za Zd Zb rfl) rfl)) (Za (Zi Cu_ hr (by decide) rfl (Za (pv 2) Zb rfl)) Zb rfl) rfl) rfl (by rfl));case g7=>refine' @Ze _ _ _ _ _ ?g8 ?g9;(case g8=>refine' @Zz _ _ (5) _ _ _ _ nd rfl (Or.inr rfl) ?ga (by rfl) (by first|exact Or.inl rfl|exact Or.inr rfl|assumption);case ga=>refine' @Ye _ _ _ _ _ _ _ _ _ Yo rfl T.b_tuple Yl ?gb (by decide) (by decide) (by rfl) (by rfl);case gb=>refine' @Za _ _ _ _ _ ?gc Zb rfl;case gc=>refine' @Xg _ _ _ _ _ _ _ (["_law_piece","_law_state_here"]) ([none,some 2]) _ _ _ _ _ rfl (Yz (XN:=["_law_script","_law_k","_law_state_here","_law_plate_here","_law_odd_here","_law_some","_law_things","_law_turn","_law_once","_law_thing","_law_kept","_law_due","_law_bad"]) (Scope.names (Zg Zep)) rfl rfl rfl (fun _ h=>Z9 h) (by decide +kernel) rfl) ?gd (fun _ _ _ _=>pgB 0) (fun _ _ _ _=>Zw) (fun _ _ _ _=>Zi Ca4_ hr (by decide) rfl (Za (pv 1) (Za Zd Zb rfl) rfl)) (by intro _ ;rfl);case gd=>refine' @Yq _ _ _ _ ?ge;case ge=>refine' @Z3 _ _ _ _ _ _ _ Yc (pv 3) Zd (fun _ _=>rfl));case g9=>refine' @Ze _ _ _ _ _ ?gf ?gg;(case gf=>refine' @Zz _ _ (6) _ _ _ _ nd rfl (Or.inl rfl) ?gh (by rfl) (by first|exact Or.inl rfl|exact Or.inr rfl|assumption);case gh=>refine' @Yk _ _ _ _ ?gi;case gi=>refine' @Za _ _ _ _ _ (pv 5) ?gj rfl;case gj=>refine' @Za _ _ _ _ _ (Ye Zbc rfl T.b_list Zd0 (Za (pv 5) Zb rfl)) ?gk rfl;case gk=>refine' @Za _ _ _ _ _ ?gl ?gm rfl;(case gl=>refine' @Xd _ _ _ _ _ _ _ _ _ _ Zab (pv 5) (Xs Zd) Xv);case gm=>refine' @Za _ _ _ _ _ ?gn ?go rfl;(case gn=>refine' @Zt _ _ _ _ _ _ _ _ Zdv (pv 5) ?gp;case gp=>refine' @Xd _ _ _ _ _ _ _ _ _ _ Zab (pv 5) Xv (Xs Zd));case go=>refine' @Za _ _ _ _ _ (Zu Zb) ?gq rfl;case gq=>refine' @Za _ _ _ _ _ (pv 4) ?gr rfl;case gr=>refine' @Za _ _ _ _ _ (Zt Zgr (Zu (Za (pv 4) Zb rfl)) (Zh Zn rfl T.b_len Z8 (Za (pv 5) Zb rfl))) ?gs rfl;case gs=>refine' @Za _ _ _ _ _ ?gt Zb rfl;case gt=>refine' @Zt _ _ _ _ _ _ _ _ Zdv ?gu ?gv;(case gu=>refine' @Xd _ _ _ _ _ _ _ _ _ _ Zab (pv 5) Xv (Xs (Zk8 Ze4 Zd)));case gv=>refine' @Zu _ _ _ _ _ ?gw;case gw=>refine' @Za _ _ _ _ _ ?gx Zb rfl;case gx=>refine' @Xd _ _ _ _ _ _ _ _ _ _ Zab ?gy Xv (Xs Zd);case gy=>refine' @Z3 _ _ _ _ _ _ _ Yc (pv 5) Zd (fun _ _=>rfl));case gg=>refine' @Ze _ _ _ _ _ ?gz ?g10;(case gz=>refine' @Zdl _ _ _ _ _ _ _ _ PassesOwn.never rfl ?g11 (Zo (i:=7) nd rfl (Or.inl rfl)) ?g12 (by intro _ ;rfl);(case g11=>refine' @Zdr _ _ _ _ _ _ rfl T.b_range (Za Zd Zb rfl) (by rfl));case g12=>refine' @Ze _ _ _ _ _ ?g13 ?g14;(case g13=>refine' @Zz _ _ (8) _ _ _ _ nd rfl (Or.inl rfl) (Zi Cag_ hr (by decide) rfl (Za (pv 2) (Za (pv 5) (Za Zd Zb rfl) rfl) rfl)) (by rfl) (by first|exact Or.inl rfl|exact Or.inr rfl|assumption));case g14=>refine' @Zf _ _ _ ?g15;case g15=>refine' @Zz _ _ (6) _ _ _ _ nd rfl (Or.inl rfl) ?g16 (by rfl) (by first|exact Or.inl rfl|exact Or.inr rfl|assumption);case g16=>refine' @Zt _ _ _ _ _ _ _ _ Zag (pv 6) ?g17;case g17=>refine' @Yk _ _ _ _ ?g18;case g18=>refine' @Za _ _ _ _ _ (pv 8) ?g19 rfl;case g19=>refine' @Za _ _ _ _ _ (Zi Cag_ hr (by decide) rfl (Za (pv 2) (Za (pv 8) (Za Zd Zb rfl) rfl) rfl)) ?g1a rfl;case g1a=>refine' @Za _ _ _ _ _ ?g1b Zb rfl;case g1b=>refine' @Zt _ _ _ _ _ _ _ _ Zdv ?g1c (Zu (Za (Zu (Za (Zu (Za Zd (Za Zd Zb rfl) rfl)) (Za (Zu (Za Zd (Za Zd Zb rfl) rfl)) (Za (Zu (Za Zd (Za Zd Zb rfl) rfl)) Zb rfl) rfl) rfl)) Zb rfl));case g1c=>refine' @Xd _ _ _ _ _ _ _ _ _ _ Zab (pv 5) Xv (Xs (Zk8 Ze4 Zd)));case g10=>refine' @Ze _ _ _ _ _ ?g1d ?g1e;(case g1d=>refine' @Zdl _ _ _ _ _ _ _ _ PassesOwn.never rfl (Zd1 (pv 6)) (Zo (i:=9) nd rfl (Or.inl rfl)) ?g1f (by intro _ ;rfl);case g1f=>refine' @Ze _ _ _ _ _ ?g1g ?g1h;(case g1g=>refine' @Zz _ _ (10) _ _ _ _ nd rfl (Or.inl rfl) (Zh (Za9 hr) rfl T.b_repr Zga (Za (pv 9) Zb rfl)) (by rfl) (by first|exact Or.inl rfl|exact Or.inr rfl|assumption));case g1h=>refine' @Ze _ _ _ _ _ ?g1i ?g1j;(case g1i=>refine' @Zz _ _ (11) _ _ _ _ nd rfl (Or.inl rfl) (Zi Cab_ hr (by decide) rfl (Za (pv 3) (Za (pv 9) Zb rfl) rfl)) (by rfl) (by first|exact Or.inl rfl|exact Or.inr rfl|assumption));case g1j=>refine' @Zf _ _ _ ?g1k;case g1k=>refine' @Zy _ _ _ _ _ _ _ _ ?g1l (Zf (Zl Z2)) Zp;case g1l=>refine' @PW.pt _ _ _ ?g1m;case g1m=>refine' @Ys _ _ _ _ _ _ _ ?g1n ?g1o;(case g1n=>refine' @Zq _ _ _ _ ?g1p;case g1p=>refine' @Zk _ _ _ (Zi Ca0_ hr (by decide) rfl (Za (Zi Can_ hr (by decide) rfl (Za (pv 3) (Za (pv 9) Zb rfl) rfl)) (Za (pv 11) Zb rfl) rfl)) (fun _=>rfl));case g1o=>refine' @Z6 _ _ _ _ (Z4 Zgj (Zh (Za9 hr) rfl T.b_repr Zga (Za (pv 9) Zb rfl)) (pv 10) (Zx _)));case g1e=>refine' @Zf _ _ _ ?g1q;case g1q=>refine' @Zdl _ _ _ _ _ _ _ _ PassesOwn.never rfl (Zd1 (Zi Caf_ hr (by decide) rfl (Za (pv 3) (Za (pv 4) Zb rfl) rfl))) (Zo (i:=12) nd rfl (Or.inr rfl)) ?g1r (by intro _ ;rfl);case g1r=>refine' @Zf _ _ _ ?g1s;case g1s=>refine' @Zy _ _ _ _ _ _ _ _ (Z4 (Zsv Zrl (Zue hr)) (Zps (i:=12) rfl rfl rfl rfl (Zps (i:=5) rfl rfl rfl rfl (Zi Caz_ hr (by decide) rfl (Za (Zsw (cc:=cc) (P:=Pl) (q := "law.<locals>.<lambda>") rfl rfl (ecd.symm.trans hcd) rfl CK BK) Zb rfl)))) (Zu (Za Yj Zb rfl)) (Zx _)) (Zf (Zl Z2)) Zp
   case read =>
    refine ⟨_,rfl,a,_,rfl,.inl hS,_,_,rfl,_,_,rfl,_,rfl,?_,?_,?_⟩
    · split<;>(try split)<;>omega
    · rw [n23_];split<;>(try split)<;>omega
    refine Zg7 (fun i σ H2=>∃ v1 v2 v3 v4 v5 v6 v7 v8 v9 v10 v11 v12:Option V,σ=[some (.ref a),v1,v2,v3,v4,v5,v6,v7,v8,v9,v10,v11,v12]∧Zde Pl H H2∧TabF H2 Pl "law.<locals>.<lambda>") ⟨_,_,_,_,_,_,_,_,_,_,_,_,rfl,fun _ _ _ e=>e,tl⟩ ?_ ?_
    rotate_left
    · rintro σ H2 ⟨v1,v2,v3,v4,v5,v6,v7,v8,v9,v10,v11,v12,rfl,_⟩
      exact q H2
    rintro i σ H2 _ ⟨v1,v2,v3,v4,v5,v6,v7,v8,v9,v10,v11,v12,rfl,g2,tl2⟩
    refine ⟨_,rfl,_,rfl,a,ns,i,by rw [Int.zero_add],Zrx (P1:=Pl) (P2:=Pl) hS (fun b o n _ e=>g2 b o n e) tl tl,fun l H3 nl s3 st3=>?_⟩;refine ⟨_,rfl,l,rfl,st3,fun H4 pv P' k4 st4 hP ok p4 c6 far=>?_⟩;generalize hN:(fun b=>b=l)=N;have Nl:N l:=by rw [← hN]
    have D4:Dom N H4:=fun b z=>by (rw [← hN] at z;obtain ⟨ys,e⟩:=st4.lst';exact ⟨_,by rw [show b=l from z];exact e⟩)
    refine ⟨_,rfl,l,N,rfl,st4,Nl,D4,fun H5 vo k5 st5 to=>?_⟩;obtain ⟨ys3,el3⟩:=st3.lst';obtain ⟨ys4,el4⟩:=st4.lst';have tl5:=(((tl2.same s3).keepL el3 k4).keepL el4 k5);refine ⟨_,_,rfl,?_⟩;obtain ⟨dd0,ho5,dep0,hz4⟩:=to;have hP5:=hP.tk (tkS k5 st4)
    have K25:∀ b o,b≠Pl→H b=some o→H5 b=some o:=fun b o n e=>by
     have e2:=g2 b o n e;have nb:=Zr e2 nl;exact k5 b o nb (k4 b o nb (s3 _ _ e2))
    have nlP:∀ b o,b≠Pl→H b=some o→b≠l:=fun b o n e z=>by subst z;exact absurd (g2 _ _ n e) (by rw [nl];simp)
    have D5:=Dom.keepS D4 k5 st5;clear k4 k5 hP D4 el3 el4 st4 g2 tl2;obtain ⟨pa,pc,pp,pt,ps,rfl,hpa,⟨ca,cv,rfl,hca,cal⟩,⟨qa,qv,rfl,hqa,qal⟩,⟨ta,rfl,hta⟩,⟨sa,rfl,hsa⟩⟩:=id hP5;have qlen:=qal.1;have p1:=ok.p1;have nql:qa≠l:=st5.neT hqa;refine ⟨_,rfl,pa,_,1,_,rfl,rfl,SqT.of hpa,rfl,qa,rfl,⟨_,SqT.of hqa⟩,fun D nD=>?_⟩;refine Zio (n:=qv.length) (l:=l) (fun H v (s:List Rat)=>IsQs H v s∧s.length=3∧(∀ q∈s,FM.B 60 q)) (fun H1 H2 v x t r=>⟨Zlx t r.1,r.2⟩) (by omega) (fun σ=>∃ u,σ=[u,some (.ref l)]) ⟨_,rfl⟩ nD st5 (fun i H8 k8 hi=>⟨qv,qv[i],SqT.of (k8 _ _ nql hqa),n1_ hi⟩) (fun H8 k8=>⟨qv,SqT.of (k8 _ _ nql hqa),n6_ _⟩) (fun i x σ2 H8 H9 C hi k8 l8 y o c=>?_) (fun H8 vs8 ss k8 st8 e8 hy a8=>?_)
    · obtain ⟨u,rfl⟩:=o;obtain ⟨rfl,_⟩:=y;exact ⟨_,rfl,l,3,rfl,l8,by decide,fun H10 v10 ms10 k10 l10 h10 len10 B10 d10=>c _ _ _ ms10 ⟨_,rfl⟩ k10 l10 ⟨h10,len10,B10⟩⟩
    have t8:Tk H5 H8:=tkS k8 st5;refine ⟨D,vs8,rfl,.inl ⟨SqL.of e8,fun S nS=>?_⟩⟩;generalize gG:upd H8 S (.tup vs8)=H9;obtain ⟨s9,e9⟩:=gen_upd gG nS;have k59:Keep l H5 H9:=k8.trans s9.keep;have st9:=st8.same s9;have hP9:=hP5.tk (t8.trans s9.tk);have ho9:=Dt.keepS Nl st5 ho5 k59;have hD9:=Dom.keepS D5 k59 st9;obtain ⟨ys5,el5⟩:=st5.lst';have tl9:=tl5.keepL el5 k59;have al9:Al (fun v (s:List Rat)=>IsQs H9 v s∧s.length=3∧(∀ q∈s,FM.B 60 q)) vs8 ss:=a8.imp fun v x r=>⟨Zlx s9.tk r.1,r.2⟩;have v8l:vs8.length=P'.ps.length:=by rw [al9.1,hy,qlen]
    have v4:vs8.length≤4:=by omega
    have K29:∀ b o,b≠Pl→H b=some o→H9 b=some o:=fun b o n e=>k59 b o (nlP b o n e) (K25 b o n e);have dS:Dts N H9 100 vs8 (ss.map dQs):=Zkb al9 fun v x _ r=>(dtQs r.1 r.2.2).up (by decide);have dep:PyData.depthAll (ss.map dQs)≤2:=Zcb fun x _=>Zqu x
    have nzs:Z0 (ss.map dQs)≤80:=by
     have h1:=Zjz (f:=dQs) (c:=19) (xs:=ss) fun x hx=>by
      obtain ⟨i,hi,e⟩:=n40_ hx;obtain ⟨v,_,r⟩:=al9.got (show ss[i]? = some x by rw [n1_ hi,e])
      have:=nzQs x
      rw [r.2.1] at this;exact this
     have h2:=al9.1
     have:=n53_ (show ss.length≤4 by omega) (n6_ 20)
     omega
    obtain ⟨p0,us0,ds0,hv0,hp0,d0,dz0,zz0⟩:∃ p0 us0 ds0,vs8[0]? = some (.ref p0)∧H9 p0=some (.tup us0)∧Dts N H9 100 us0 ds0∧PyData.depthAll ds0≤1∧Z0 ds0≤18:=by
     obtain ⟨s0,es0,r0⟩:=al9.get (n1_ (show 0<vs8.length by omega));obtain ⟨⟨p0,us0,ep,hp,al⟩,l3,B0⟩:=r0;refine ⟨p0,us0,s0.map dQ,by rw [n1_ (show 0<vs8.length by omega),ep],hp,Zkb al fun v x hx r=>(dtQ r (B0 x hx)).up (by decide),Zcb fun x _=>n6_ _,?_⟩
     have:=Zjz (f:=dQ) (c:=5) (xs:=s0) fun x _=>n6_ _
     rw [l3] at this;exact this
    clear k8 k59 K25 hP5 ho5 D5 st8 e8 a8 t8 s9 tl5 el5 al9 hy nql hqa hpa hca hta hsa cal qal;generalize ss.map dQs=ds at dS dep nzs;clear ss;refine ⟨_,rfl,_,rfl,S,vs8,rfl,.inr (SqT.of e9),?_⟩;intro px1 nx1 mx1;generalize hHx1:upd H9 px1 _=Hx1;have Sx1:Same H9 Hx1:=by (rw [← hHx1];exact Same.new nx1)
    have Ax1:=(congrFun hHx1 px1).symm;rw [Zc] at Ax1;clear hHx1;have stx1:=(st9).same Sx1;refine ⟨_,rfl,_,rfl,S,vs8,rfl,(Sx1 _ _ e9),fun px2 Hx2 Sx2 Ax2=>?_⟩;have stx2:=(stx1).same Sx2;refine ⟨_,rfl,_,rfl,_,rfl,S,vs8,rfl,(Sx2 _ _ (Sx1 _ _ e9)),fun px3 Hx3 Sx3 Ax3=>?_⟩;have stx3:=(stx2).same Sx3;refine ⟨S,px3,_,_,rfl,rfl,(Sx3 _ _ (Sx2 _ _ (Sx1 _ _ e9))),Ax3,by have:=sizeLine_eq;have:=Xr vs8 none (some 1);omega,fun px4 Hx4 Sx4 Ax4=>?_⟩;have stx4:=(stx3).same Sx4;refine ⟨z0_,?_⟩;intro px5 nx5;generalize hHx5:upd Hx4 px5 _=Hx5;have Sx5:Same Hx4 Hx5:=by (rw [← hHx5];exact Same.new nx5)
    have Ax5:=(congrFun hHx5 px5).symm;rw [Zc] at Ax5;clear hHx5;have stx5:=(stx4).same Sx5;refine ⟨_,rfl,_,rfl,z1_,?_⟩;intro px6 nx6;generalize hHx6:upd Hx5 px6 _=Hx6;have Sx6:Same Hx5 Hx6:=by (rw [← hHx6];exact Same.new nx6)
    have Ax6:=(congrFun hHx6 px6).symm;rw [Zc] at Ax6;clear hHx6;have stx6:=(stx5).same Sx6;refine ⟨_,rfl,S,vs8,rfl,.inr (SqT.of (Sx6 _ _ (Sx5 _ _ (Sx4 _ _ (Sx3 _ _ (Sx2 _ _ (Sx1 _ _ e9))))))),px6,_,_,rfl,rfl,Ax6,by omega,by omega,by simp,by simp,fun px7 Hx7 Sx7 Ax7=>?_⟩;have stx7:=(stx6).same Sx7;refine ⟨_,rfl,_,rfl,_,rfl,S,vs8,rfl,(Sx7 _ _ (Sx6 _ _ (Sx5 _ _ (Sx4 _ _ (Sx3 _ _ (Sx2 _ _ (Sx1 _ _ e9))))))),fun px8 Hx8 Sx8 Ax8=>?_⟩;have stx8:=(stx7).same Sx8;refine ⟨_,rfl,S,vs8,0,_,rfl,rfl,SqT.of (Sx8 _ _ (Sx7 _ _ (Sx6 _ _ (Sx5 _ _ (Sx4 _ _ (Sx3 _ _ (Sx2 _ _ (Sx1 _ _ e9)))))))),Zay hv0,_,rfl,p0,us0,rfl,(Sx8 _ _ (Sx7 _ _ (Sx6 _ _ (Sx5 _ _ (Sx4 _ _ (Sx3 _ _ (Sx2 _ _ (Sx1 _ _ hp0)))))))),fun px9 Hx9 Sx9 Ax9=>?_⟩;have stx9:=(stx8).same Sx9;refine ⟨z1_,?_⟩;intro px10 nx10;generalize hHx10:upd Hx9 px10 _=Hx10;have Sx10:Same Hx9 Hx10:=by (rw [← hHx10];exact Same.new nx10)
    have Ax10:=(congrFun hHx10 px10).symm;rw [Zc] at Ax10;clear hHx10;have stx10:=(stx9).same Sx10;refine ⟨px8,px10,_,_,rfl,rfl,(Sx10 _ _ (Sx9 _ _ Ax8)),Ax10,by have:=sizeLine_eq;have:=Xr vs8 none (some (-1));simp only [n16_,n59_];omega,fun px11 Hx11 Sx11 Ax11=>?_⟩;have stx11:=(stx10).same Sx11;refine ⟨by show 8≤sizeLine;decide,?_⟩;intro px12 nx12;generalize hHx12:upd Hx11 px12 _=Hx12;have Sx12:Same Hx11 Hx12:=by (rw [← hHx12];exact Same.new nx12)
    have Ax12:=(congrFun hHx12 px12).symm;rw [Zc] at Ax12;clear hHx12;have stx12:=(stx11).same Sx12;have SF:Same H9 Hx12:=(Sx1.trans (Sx2.trans (Sx3.trans (Sx4.trans (Sx5.trans (Sx6.trans (Sx7.trans (Sx8.trans (Sx9.trans (Sx10.trans (Sx11.trans Sx12)))))))))));have dF:=dS.same SF;have oF:=ho9.same SF;obtain ⟨es1,f1,g1,h1⟩:=dF.cut (some 1) none;obtain ⟨es2,f2,g2,h2⟩:=dF.cut none (some 1);obtain ⟨es3,f3,g3,h3⟩:=dF.cut none (some (-1));obtain ⟨es4,f4,g4,h4⟩:=(d0.same SF).cut none (some 2);have A6:=(Sx12 _ _ (Sx11 _ _ (Sx10 _ _ (Sx9 _ _ (Sx8 _ _ Ax7)))));rw [Zdh,n62_] at A6;have A5:=(Sx12 _ _ (Sx11 _ _ (Sx10 _ _ Ax9)));have TT:Tgs N Hx12 100 6 444 [.ref S,.ref px1,.ref px2,.ref px4,.ref px5,vo,.ref px7,.ref px11]:=(Tgs.cons (Zd2 (Sx12 _ _ (Sx11 _ _ (Sx10 _ _ (Sx9 _ _ (Sx8 _ _ (Sx7 _ _ (Sx6 _ _ (Sx5 _ _ (Sx4 _ _ (Sx3 _ _ (Sx2 _ _ (Sx1 _ _ e9)))))))))))) dF (by omega) (by omega)) (Tgs.cons ⟨.list ds,.lst (Sx12 _ _ (Sx11 _ _ (Sx10 _ _ (Sx9 _ _ (Sx8 _ _ (Sx7 _ _ (Sx6 _ _ (Sx5 _ _ (Sx4 _ _ (Sx3 _ _ (Sx2 _ _ Ax1))))))))))) (Dom.new (Dom.same hD9 (Same.refl H9)) nx1) mx1 dF,by show PyData.depthAll ds+1≤_;omega,by show 1+Z0 ds≤_;omega⟩ (Tgs.cons (Zd2 (Sx12 _ _ (Sx11 _ _ (Sx10 _ _ (Sx9 _ _ (Sx8 _ _ (Sx7 _ _ (Sx6 _ _ (Sx5 _ _ (Sx4 _ _ (Sx3 _ _ Ax2)))))))))) f1 (by omega) (by omega)) (Tgs.cons (Zd2 (Sx12 _ _ (Sx11 _ _ (Sx10 _ _ (Sx9 _ _ (Sx8 _ _ (Sx7 _ _ (Sx6 _ _ (Sx5 _ _ Ax4)))))))) (dF.app f2) (by rw [Yt];omega) (by rw [Xj];omega)) (Tgs.cons (Zd2 (Sx12 _ _ (Sx11 _ _ (Sx10 _ _ (Sx9 _ _ (Sx8 _ _ (Sx7 _ _ (Sx6 _ _ Ax5))))))) .nil (by decide) (by decide)) (Tgs.cons ⟨dd0,oF,by omega,by omega⟩ (Tgs.cons (Zd2 A6 (Znv oF _) (by have:=Zhj dd0 vs8.length;omega) (by rw [Zpd];have:=n53_ v4 (show nz dd0+1≤9 by omega);omega)) (Tgs.cons (Zd2 (Sx12 _ _ Ax11) (f3.app (.cons (.tup A5 f4) .nil)) (by rw [Yt];simp only [PyData.depthAll,PyData.depth];omega) (by rw [Xj];simp only [Z0,nz];omega)) Tgs.nil))))))));have QL:Hx12 px12=some (.lst [.ref S,.ref px1,.ref px2,.ref px4,.ref px5,vo,.ref px7,.ref px11]):=Ax12;have stF:=stx12;have tll:([.ref S,.ref px1,.ref px2,.ref px4,.ref px5,vo,.ref px7,.ref px11]:List V).length=8:=rfl;generalize ([.ref S,.ref px1,.ref px2,.ref px4,.ref px5,vo,.ref px7,.ref px11]:List V)=XS at TT QL tll ⊢;have nLl:px12≠l:=fun z=>stx11.ne nx12 z.symm;generalize Hx12=HF at SF dF oF TT QL stF ⊢;generalize px12=LL at QL nLl ⊢;have tlF:=tl9.same SF;have hPF:=hP9.tk SF.tk;have KHF:Zde Pl H HF:=fun b o n e=>SF _ _ (K29 b o n e);have eSF:=SF _ _ e9;have DF:=Dom.same hD9 SF;clear SF tl9 hP9 K29 e9 hD9 ho9 dS st9;refine ⟨_,rfl,by decide,by decide,?_⟩;refine Zg7 (fun n σ H10=>∃ (w7 w8:Option V) (LL:Addr) (XS:List V),σ=[some (.ref a),some (.int (0+i)),some (.ref l),some (.ref pa),some vo,some (.ref S),some (.ref LL),w7,w8,v9,v10,v11,v12]∧Keep l HF H10∧StAt H10 l∧LL≠l∧H10 LL=some (.lst XS)∧XS.length≤8+3*n∧Tgs N H10 102 6 444 XS) ⟨_,_,LL,XS,rfl,Keep.refl _ _,stF,nLl,QL,by omega,TT.up (by decide) (by decide) (by decide)⟩ ?_ ?_
    · clear LL XS QL TT tll nLl;rintro n σ H10 hn ⟨w7,w8,LL,XS,rfl,k10,st10,nLl,eL,hX,TX⟩
      have hn':n<8:=hn;have e10:=k10 _ _ (stF.neT eSF) eSF;have d10:=Dts.keepS Nl stF dF k10;have D10:=Dom.keepS DF k10 st10;have zT:nz (.tuple ds)≤81:=by show 1+Z0 ds≤81;omega
      refine ⟨_,rfl,_,rfl,l,N,100,.ref S,.tuple ds,6,rfl,st10,Nl,D10,.tup e10 d10,by decide,by show PyData.depthAll ds+1≤6;omega,by decide,by omega,fun H11 v11 k11 st11 t11=>?_⟩;obtain ⟨d11,b11,c11,z11⟩:=t11;have D11:=Dom.keepS D10 k11 st11;refine ⟨_,rfl,_,rfl,_,rfl,_,rfl,l,N,101,v11,d11,6,rfl,st11,Nl,D11,b11,by decide,c11,by decide,by omega,fun H13 v13 k12 st13 t13=>?_⟩;have k23:=k11.trans k12;have k13:=k10.trans k23;have e13:=k13 _ _ (stF.neT eSF) eSF;have d13:=Dts.keepS Nl st10 d10 k23;have T13:=Tgs.keepS Nl st10 TX k23;have o13:=Tg.keepS Nl st11 (⟨d11,b11,c11,z11⟩:Tg N H11 101 6 _ v11) k12;have w13:=t13;have q13:=k23 _ _ nLl eL;refine ⟨_,rfl,_,rfl,_,rfl,S,vs8,rfl,e13,fun py1 Hy1 Sy1 Ay1=>?_⟩;have sty1:=(st13).same Sy1;refine ⟨z2_,?_⟩;intro py2 ny2;generalize hHy2:upd Hy1 py2 _=Hy2;have Sy2:Same Hy1 Hy2:=by (rw [← hHy2];exact Same.new ny2)
      have Ay2:=(congrFun hHy2 py2).symm;rw [Zc] at Ay2;clear hHy2;have sty2:=(sty1).same Sy2;refine ⟨z2_,?_⟩;intro py3 ny3;generalize hHy3:upd Hy2 py3 _=Hy3;have Sy3:Same Hy2 Hy3:=by (rw [← hHy3];exact Same.new ny3)
      have Ay3:=(congrFun hHy3 py3).symm;rw [Zc] at Ay3;clear hHy3;have sty3:=(sty2).same Sy3;refine ⟨z2_,?_⟩;intro py4 ny4;generalize hHy4:upd Hy3 py4 _=Hy4;have Sy4:Same Hy3 Hy4:=by (rw [← hHy4];exact Same.new ny4)
      have Ay4:=(congrFun hHy4 py4).symm;rw [Zc] at Ay4;clear hHy4;have sty4:=(sty3).same Sy4;refine ⟨z3_,?_⟩;intro py5 ny5;generalize hHy5:upd Hy4 py5 _=Hy5;have Sy5:Same Hy4 Hy5:=by (rw [← hHy5];exact Same.new ny5)
      have Ay5:=(congrFun hHy5 py5).symm;rw [Zc] at Ay5;clear hHy5;have sty5:=(sty4).same Sy5;refine ⟨z1_,?_⟩;intro py6 ny6;generalize hHy6:upd Hy5 py6 _=Hy6;have Sy6:Same Hy5 Hy6:=by (rw [← hHy6];exact Same.new ny6)
      have Ay6:=(congrFun hHy6 py6).symm;rw [Zc] at Ay6;clear hHy6;have sty6:=(sty5).same Sy6;refine ⟨py1,py6,_,_,rfl,rfl,(Sy6 _ _ (Sy5 _ _ (Sy4 _ _ (Sy3 _ _ (Sy2 _ _ Ay1))))),Ay6,by have:=sizeLine_eq;have:=Xr vs8 none (some (-1));simp only [n16_,n59_];omega,fun py7 Hy7 Sy7 Ay7=>?_⟩;have sty7:=(sty6).same Sy7;refine ⟨z3_,?_⟩;intro py8 ny8;generalize hHy8:upd Hy7 py8 _=Hy8;have Sy8:Same Hy7 Hy8:=by (rw [← hHy8];exact Same.new ny8)
      have Ay8:=(congrFun hHy8 py8).symm;rw [Zc] at Ay8;clear hHy8;have sty8:=(sty7).same Sy8;refine ⟨LL,py8,_,_,rfl,rfl,(Sy8 _ _ (Sy7 _ _ (Sy6 _ _ (Sy5 _ _ (Sy4 _ _ (Sy3 _ _ (Sy2 _ _ (Sy1 _ _ q13)))))))),Ay8,by have:=sizeLine_eq;simp only [n16_,n59_];omega,?_⟩;intro py9 ny9;generalize hHy9:upd Hy8 py9 _=Hy9;have Sy9:Same Hy8 Hy9:=by (rw [← hHy9];exact Same.new ny9)
      have Ay9:=(congrFun hHy9 py9).symm;rw [Zc] at Ay9;clear hHy9;have sty9:=(sty8).same Sy9;have SG:Same H13 Hy9:=(Sy1.trans (Sy2.trans (Sy3.trans (Sy4.trans (Sy5.trans (Sy6.trans (Sy7.trans (Sy8.trans Sy9))))))));obtain ⟨es3,f3,g3,h3⟩:=(d13.same SG).cut none (some (-1));have U3:Tg N Hy9 102 6 444 (.ref py7):=Tg.up (Zd2 (n:=6) (m:=444) (Sy9 _ _ (Sy8 _ _ Ay7)) (f3.app (.cons (.tup (Sy9 _ _ (Sy8 _ _ (Sy7 _ _ (Sy6 _ _ Ay5)))) (.cons (.tup (Sy9 _ _ (Sy8 _ _ (Sy7 _ _ (Sy6 _ _ (Sy5 _ _ (Sy4 _ _ (Sy3 _ _ Ay2))))))) (.cons (dint 2 (by decide) (by decide)) (.cons (dint 4 (by decide) (by decide)) .nil))) (.cons (.tup (Sy9 _ _ (Sy8 _ _ (Sy7 _ _ (Sy6 _ _ (Sy5 _ _ (Sy4 _ _ Ay3)))))) (.cons (dint 0 (by decide) (by decide)) (.cons (dint 1 (by decide) (by decide)) .nil))) (.cons (.tup (Sy9 _ _ (Sy8 _ _ (Sy7 _ _ (Sy6 _ _ (Sy5 _ _ Ay4))))) (.cons (dint 0 (by decide) (by decide)) (.cons (dint 1 (by decide) (by decide)) .nil))) .nil)))) .nil)) (by rw [Yt];simp only [PyData.depthAll,PyData.depth];omega) (by rw [Xj];simp only [Z0,nz];omega)) (by decide) (by decide) (by decide);have TG:=(T13.same SG).app (Tgs.cons ((o13.same SG).up (by decide) (by decide) (by omega)) (Tgs.cons ((w13.same SG).up (by decide) (by decide) (by omega)) (Tgs.cons U3 Tgs.nil)));exact ⟨_,_,py9,_,rfl,k13.trans SG.keep,sty9,(fun z=>sty8.ne ny9 z.symm),Ay9,by simp only [n25_,n16_,n59_];omega,TG⟩
    clear LL XS QL TT tll nLl;rintro σ H10 ⟨w7,w8,LL,XS,rfl,k10,st10,nLl,eL,hX,TX⟩
    obtain ⟨ysF,elF⟩:=stF.lst';have tl10:=tlF.keepL elF k10;have hP10:=hPF.tk (tkS k10 stF);have ho10:=Dt.keepS Nl stF oF k10;have KH10:Zde Pl H H10:=fun b o n e=>k10 _ _ (nlP b o n e) (KHF b o n e);clear k10 tlF hPF KHF oF dF eSF DF elF stF st10;refine ⟨_,rfl,LL,rfl,⟨_,SqL.of eL⟩,?_⟩;refine Zjy (xs:=XS) (fun m σ H11=>∃ w9 w10 w11:Option V,σ=[some (.ref a),some (.int (0+i)),some (.ref l),some (.ref pa),some vo,some (.ref S),some (.ref LL),w7,w8,w9,w10,w11,v12]∧Same H10 H11) ⟨_,_,_,rfl,Same.refl _⟩ ?_ ?_ ?_
    · rintro m σ H11 _ ⟨w9,w10,w11,rfl,s11⟩
      exact SqL.of (s11 _ _ eL)
    · rintro m z σ H11 hz ⟨w9,w10,w11,rfl,s11⟩
      obtain ⟨d,hd0,dpz,nzz⟩:=TX z (n12_ hz);have hd:=hd0.same s11;refine ⟨_,rfl,N,102,z,d,rfl,hd,by decide,by omega,by omega,?_⟩;refine ⟨_,rfl,_,rfl,N,102,.ref pa,z,d,P',rfl,hP10.tk s11.tk,ok,hd,by decide,by omega,fun H12 s12=>?_⟩;have s1012:=s11.trans s12;refine ⟨_,rfl,_,rfl,N,102,.ref pa,z,d,P',rfl,hP10.tk s1012.tk,ok,hd.same s12,by decide,by omega,fun H13 s13=>?_⟩;refine ⟨_,rfl,N,102,_,_,.bool (Zm1 P'.ps.length d),rfl,.bl _,.bl _,by decide,n43_ _,by show 1≤8000;decide,true,rfl,iteF ?_⟩;refine ⟨_,rfl,N,102,z,d,rfl,hd.same (s12.trans s13),by decide,by omega,by omega,_,rfl,rfl,_,rfl,?_⟩;rw [n19_ rfl];refine iteF ?_;exact ⟨_,_,_,rfl,s1012.trans s13⟩
    rintro σ H11 ⟨w9,w10,w11,rfl,s11⟩
    refine ⟨_,rfl,_,rfl,.ref pa,vo,P',N,100,dd0,rfl,hP10.tk s11.tk,ok,far,p4,c6,ho10.same s11,hz4,fun L3 XC HB s3' eB nL3 bds hl3=>?_⟩;have tlB:=(tl10.same s11).same s3';have KHB:Zde Pl H HB:=fun b o n e=>s3' _ _ (s11 _ _ (KH10 b o n e));clear tl10 KH10 hP10 ho10 TX eL;refine ⟨L3,rfl,⟨_,SqL.of eB⟩,?_⟩;refine Zjy (xs:=XC) (fun m σ H10=>∃ w12:Option V,σ=[some (.ref a),some (.int (0+i)),some (.ref l),some (.ref pa),some vo,some (.ref S),some (.ref LL),w7,w8,w9,w10,w11,w12]∧Zde Pl HB H10∧TabF H10 Pl "law.<locals>.<lambda>") ⟨_,rfl,fun _ _ _ e=>e,tlB⟩ ?_ ?_ ?_
    · rintro m σ H10 _ ⟨w12,rfl,k10,tl10⟩
      obtain ⟨ps0,ep0,_⟩:=id tlB;exact SqL.of (k10 _ _ (Zdd eB ep0 (by intro z;cases z)) eB)
    · rintro m z σ H10 hz ⟨w12,rfl,k10,tl10⟩
      obtain ⟨nb,hb0⟩:=bds z (n12_ hz);have hb10:=Zia tlB k10 hb0;obtain ⟨ps0,ep0,_⟩:=id tl10;have cne:(s.z+2:Nat)≠s.z+3:=by omega
      refine ⟨_,rfl,fun o1 u1 hd1 r1 nc1=>⟨_,rfl,fun o2 u2 hd2 r2 nc2=>⟨(tl10.same (Same.new nc1)).same (Same.new nc2),fun aL F kp tf na nP lf=>?_⟩⟩⟩;have S2:=Same.new (o:=fzO o2) nc2;have S1:=Same.new (o:=fzO o1) nc1;have tHH:=tl10.same (S1.trans S2);obtain ⟨ddL,ctL,hA,cfL⟩:=id lf;have cP1:(s.z+2)≠Pl:=Ne.symm (Zr ep0 nc1);have cP2:(s.z+3)≠Pl:=Ne.symm (Zr (S1 _ _ ep0) nc2);have ec1:=kp _ _ cP1 (S2 _ _ Zc);have ec2:=kp _ _ cP2 Zc;have bF:=Zia tHH kp (Zo9 (S1.trans S2) hb10);refine ⟨aL,_,_,_,rfl,hA,rfl,lamS X_are_stressesX cne,Zly (fun _ _=>Ziy),lf,z,.ref S,⟨o1,u1,ec1,hd1,r1⟩,⟨o2,u2,ec2,hd2,r2⟩,z,.ref S,nb,rfl,bF,fun E1 se1=>⟨_,3,rfl,Z.k_NoPlate,rfl,fun TT E se2 hT=>?_⟩⟩;have se:=se1.trans se2;have y1:=se _ _ ec1;have y2:=se _ _ ec2;have y1':del E (s.z+3) (s.z+2)=some (fzO o1):=by (rw [Xm cne];exact y1)
      have kd:Zde Pl H10 (del (del E (s.z+3)) (s.z+2)):=fun b o n e=>by (rw [Xm (Zr e nc1),Xm (Zr (S1 _ _ e) nc2)];exact se _ _ (kp _ _ n ((S1.trans S2) _ _ e)))
      have td:=((tf.same se).del y2 hd2).del y1' hd1;have hTd:(del (del E (s.z+3)) (s.z+2)) TT=some (.tup [.str (WRD.getD 3 "")]):=by (rw [Xm (Zdd hT y1 (by intro z;cases z)),Xm (Zdd hT y2 (by intro z;cases z))];exact hT)
      refine ⟨z1_,fun M nM=>⟨[WRD.getD 3 ""],["plate"],⟨TT,_,rfl,(Same.new nM) _ _ hTd,al1s _⟩,⟨M,_,rfl,Zc,al1s _⟩,_,rfl,?_⟩⟩;rw [if_pos rfl,n19_ (show [WRD.getD 3 ""]=[("plate" : Str)] from rfl)];refine iteF ?_;exact ⟨_,rfl,fun b o n e=>(Same.new nM) _ _ (kd b o n (k10 b o n e)),td.same (Same.new (o:=.tup [.str "plate"]) nM)⟩
    rintro σ HG ⟨w12,rfl,kG,tlG⟩
    exact ⟨_,_,_,_,_,_,_,_,_,_,_,_,rfl,fun b o n e=>kG b o n (KHB b o n e),tlG⟩
end
structure EkK (K:PySem.W.Frag) (cl:Str→Addr):Prop where
 nm:∀ x,x∈CLS→PySem.W.nsIn K mainGlobals x=some (some (.ref (cl x)))
 vb:PySem.W.nsIn K mainGlobals "ValueError" = some none
 mpe:PySem.W.nsIn K mainGlobals "PlateError" = some (some (.ref (cl "PlateError")))
 e_NoPlate:ExcK K (cl "NoPlate")
 k_NoPlate:Kind K cl (cl "NoPlate") 3
theorem EkK.ek {K:PySem.W.Frag} {cl:Str→Addr} {h:Heap} {mg:Str→Option Value} (z:EkK K cl) (X:K.In h) (G:h.Ns mainGlobals mg):Ek K mg cl:=⟨fun x hx=>n51_ X G (z.nm x hx),n30_ X G z.vb,n51_ X G z.mpe,z.e_NoPlate,z.k_NoPlate⟩
def BkK (K:PySem.W.Frag):Prop:=∃ (bm:Addr) (o:Obj),PySem.W.nsIn K mainGlobals "__builtins__" = some (some (.ref bm))∧bm≠builtinsNs∧bm≠mainGlobals∧K.lookup bm=some o∧o.cls=.type "module" ∧ o.dict=some builtinsNs∧o.data=.plain
theorem BkK.blt {K:PySem.W.Frag} {h:Heap} {mg:Str→Option Value} (z:BkK K) (X:K.In h) (G:h.Ns mainGlobals mg):BltK K mg:=let ⟨bm,o,e,r⟩:=z;⟨bm,o,n51_ X G e,r⟩
structure Lk (K:PySem.W.Frag) (b:Str) (st:Stmt) (f:Addr):Prop where
 fn:∃ fd,Fun K b b st f fd
 a:PySem.W.nsIn K mainGlobals b=some (some (.ref f))
 k:PySem.W.keepIn K (.ref f)=true
theorem Zty {K:PySem.W.Frag} {b:Str} {st:Stmt} {f:Addr} {od an:Option Addr} {sl:Array (Option Value)} {oc kV dc pm cd ct:Value} (a:PySem.W.nsIn K mainGlobals b=some (some (.ref f))) (l:K.lookup f=some ⟨oc,od,.func (PySem.W.fnOf b b (Xo st) (Y0 st) (Zg st) .none kV dc pm an cd ct),sl⟩) (c:PySem.W.codeIn K cd b=true) (k:PySem.W.keepIn K (.ref f)=true):Lk K b st f:=⟨⟨_,Zpf (st:=st) l c k⟩,a,k⟩
theorem Lk.cal {P:Program} {w:World} {K:PySem.W.Frag} {h:Heap} {mg:Str→Option Value} {base:Heap} {b:Str} {st:Stmt} {f:Addr} {k:Nat} {ps:List Str} {sp:Sp} (L:Lk K b st f) (X:K.In h) (G:h.Ns mainGlobals mg) (ok:∀ {fd},Fun K b b st f fd→FnOk P w K mg base CX0 k f fd ps sp) (hb:∀ (kV doc pm:Value) (an:Option Addr) (cdv ct:Value) (us:List Value),us.length=ps.length→bindArgs (PySem.W.fnOf b b (Xo st) (Y0 st) (Zg st) .none kV doc pm an cdv ct) ⟨us,[]⟩=pure (ps.zip us)):Cal P w K mg base b k ps sp :=
 let ⟨_,F⟩:=L.fn
 ⟨f,_,ok F,n51_ X G L.a,L.k,F.binds (ps:=ps) hb⟩
theorem Lk.calX {P:Program} {w:World} {K:PySem.W.Frag} {h:Heap} {mg:Str→Option Value} {base:Heap} {b:Str} {st:Stmt} {f:Addr} {k:Nat} {ps:List Str} {sp:Sp} (L:Lk K b st f) (X:K.In h) (G:h.Ns mainGlobals mg) (ok:∀ {fd},Fun K b b st f fd→FnOk P w K mg base (CX1 P w) k f fd ps sp) (hb:∀ (kV doc pm:Value) (an:Option Addr) (cdv ct:Value) (us:List Value),us.length=ps.length→bindArgs (PySem.W.fnOf b b (Xo st) (Y0 st) (Zg st) .none kV doc pm an cdv ct) ⟨us,[]⟩=pure (ps.zip us)):CalX P w K mg base b k ps sp :=
 let ⟨_,F⟩:=L.fn
 ⟨f,_,ok F,n51_ X G L.a,L.k,F.binds (ps:=ps) hb⟩
theorem Lk.calH {P:Program} {w:World} {K:PySem.W.Frag} {h:Heap} {mg:Str→Option Value} {base:Heap} {b:Str} {st:Stmt} {f:Addr} {k:Nat} {ps:List Str} {sp:Sp} (L:Lk K b st f) (X:K.In h) (G:h.Ns mainGlobals mg) (ok:∀ {fd},Fun K b b st f fd→FnOkH P w K mg base k f fd ps sp) (hb:∀ (kV doc pm:Value) (an:Option Addr) (cdv ct:Value) (us:List Value),us.length=ps.length→bindArgs (PySem.W.fnOf b b (Xo st) (Y0 st) (Zg st) .none kV doc pm an cdv ct) ⟨us,[]⟩=pure (ps.zip us)):CalH P w K mg base b k ps sp :=
 let ⟨_,F⟩:=L.fn
 ⟨f,_,ok F,n51_ X G L.a,L.k,F.binds (ps:=ps) hb⟩
theorem ln1 {P:List Value→Prop} (h:∀ x0,P [x0]):∀ us:List Value,us.length=1→P us:=fun us e=>match us,e with|[x0],_=>h x0
theorem ln2 {P:List Value→Prop} (h:∀ x0 x1,P [x0,x1]):∀ us:List Value,us.length=2→P us:=fun us e=>match us,e with|[x0,x1],_=>h x0 x1
theorem ln3 {P:List Value→Prop} (h:∀ x0 x1 x2,P [x0,x1,x2]):∀ us:List Value,us.length=3→P us:=fun us e=>match us,e with|[x0,x1,x2],_=>h x0 x1 x2
theorem Zs6 {l:PySem.W.OpenLaw} {w:World} {K:PySem.W.Frag} {h:Heap} {mg:Str→Option Value} {fa:Addr} (X:K.In h) (G:h.Ns mainGlobals mg) (hfa:mg "law" = some (.ref fa))
 {f_0:Addr} (h_0:Lk K "plain_divisor" Xx f_0)
 {f_1:Addr} (h_1:Lk K "divisor" Zd6 f_1)
 {f_2:Addr} (h_2:Lk K "is_whole" Zck f_2)
 {f_3:Addr} (h_3:Lk K "is_fraction" Zaq f_3)
 {f_4:Addr} (h_4:Lk K "is_between" Za3 f_4)
 {f_5:Addr} (h_5:Lk K "is_row" Zf3 f_5)
 {f_6:Addr} (h_6:Lk K "are_rising" Zai f_6)
 {f_7:Addr} (h_7:Lk K "is_corner" Zbt f_7)
 {f_8:Addr} (h_8:Lk K "are_corners" Zan f_8)
 {f_9:Addr} (h_9:Lk K "turn" Zn2 f_9)
 {f_10:Addr} (h_10:Lk K "turn_of" Zdt f_10)
 {f_11:Addr} (h_11:Lk K "is_piece" Zbb f_11)
 {f_12:Addr} (h_12:Lk K "are_pieces" Zaa f_12)
 {f_13:Addr} (h_13:Lk K "are_thicks" Za1 f_13)
 {f_14:Addr} (h_14:Lk K "is_stuff" Zcm f_14)
 {f_15:Addr} (h_15:Lk K "triangle" Zba f_15)
 {f_16:Addr} (h_16:Lk K "edges" Zit f_16)
 {f_17:Addr} (h_17:Lk K "lies_in" Zcd f_17)
 {f_18:Addr} (h_18:Lk K "parts_from" X8 f_18)
 {f_19:Addr} (h_19:Lk K "are_apart" Zbu f_19)
 {f_20:Addr} (h_20:Lk K "every_corner_is_used" Yr f_20)
 {f_21:Addr} (h_21:Lk K "no_strange_corner" Yd f_21)
 {f_22:Addr} (h_22:Lk K "fit_together" Y2 f_22)
 {f_23:Addr} (h_23:Lk K "is_plate" Zch f_23)
 {f_24:Addr} (h_24:Lk K "look_at_plate" Xy f_24)
 {f_25:Addr} (h_25:Lk K "are_fractions" Xp f_25)
 {f_26:Addr} (h_26:Lk K "are_stresses_of" Xb f_26)
 {f_27:Addr} (h_27:Lk K "are_stresses" Zac f_27)
 {f_28:Addr} (h_28:Lk K "_law_kind" Zbm f_28)
 {f_29:Addr} (h_29:Lk K "_law_said" Zbk f_29)
 {f_30:Addr} (h_30:Lk K "_law_bad_plates" Xh f_30)
 {f_31:Addr} (h_31:Lk K "_law_cell_at" Zad f_31)
 {f_32:Addr} (h_32:Lk K "_law_state" Za7 f_32)
 {f_33:Addr} (h_33:Lk K "_law_choice" Zao f_33)
 {f_34:Addr} (h_34:Lk K "_law_order" Zaz f_34)
 {f_35:Addr} (h_35:Lk K "_law_low" Zcj f_35)
 {f_36:Addr} (h_36:Lk K "_law_fraction" X0 f_36)
 {f_37:Addr} (h_37:Lk K "_law_shapes" Zaj f_37)
 {f_38:Addr} (h_38:Lk K "_law_plate" Y6 f_38)
 {f_39:Addr} (h_39:Lk K "_law_row" Za8 f_39)
 {f_40:Addr} (h_40:Lk K "_law_same" Zbo f_40)
 {f_41:Addr} (h_41:Lk K "_law_odd" Zcq f_41)
 {f_42:Addr} (h_42:Lk K "_law_whole" Za4 f_42)
 {f_43:Addr} (h_43:Lk K "_law_is_fraction" Xe f_43)
 {f_44:Addr} (h_44:Lk K "_law_is_row" Zal f_44)
 {f_45:Addr} (h_45:Lk K "_law_are_stresses" Y5 f_45)
 {f_46:Addr} (h_46:Lk K "_law_bent" Xu f_46)
 {f_law cc_law P_law:Addr} {od_law an_law:Option Addr} {sl_law:Array (Option Value)} {oc_law kV_law dc_law pm_law ct_law:Value} (hd_law:PySem.W.codeHdIn K cc_law P_law=true)
 (a_law:PySem.W.nsIn K mainGlobals "law" = some (some (.ref f_law)))
 (l_law:K.lookup f_law=some ⟨oc_law,od_law,.func (PySem.W.fnOf "law" "law" (Xo Zep) (Y0 Zep) (Zg Zep) .none kV_law dc_law pm_law an_law (.ref cc_law) ct_law),sl_law⟩)
 (c_law:PySem.W.codeIn K (.ref cc_law) "law" = true) (k_law:PySem.W.keepIn K (.ref f_law)=true)
 (z_abs:PySem.W.nsIn K mainGlobals "abs" = some none)
 (z_all:PySem.W.nsIn K mainGlobals "all" = some none)
 (z_any:PySem.W.nsIn K mainGlobals "any" = some none)
 (z_bool:PySem.W.nsIn K mainGlobals "bool" = some none)
 (z_enumerate:PySem.W.nsIn K mainGlobals "enumerate" = some none)
 (z_int:PySem.W.nsIn K mainGlobals "int" = some none)
 (z_isinstance:PySem.W.nsIn K mainGlobals "isinstance" = some none)
 (z_len:PySem.W.nsIn K mainGlobals "len" = some none)
 (z_list:PySem.W.nsIn K mainGlobals "list" = some none)
 (z_max:PySem.W.nsIn K mainGlobals "max" = some none)
 (z_min:PySem.W.nsIn K mainGlobals "min" = some none)
 (z_range:PySem.W.nsIn K mainGlobals "range" = some none)
 (z_repr:PySem.W.nsIn K mainGlobals "repr" = some none)
 (z_set:PySem.W.nsIn K mainGlobals "set" = some none)
 (z_sorted:PySem.W.nsIn K mainGlobals "sorted" = some none)
 (z_tuple:PySem.W.nsIn K mainGlobals "tuple" = some none)
 (z_zip:PySem.W.nsIn K mainGlobals "zip" = some none)
 {tn_FARTHEST:Tok} (n_FARTHEST:PySem.W.nsIn K mainGlobals "FARTHEST" = some (some (.int 100 tn_FARTHEST)))
 {tn_FEWEST_CORNERS:Tok} (n_FEWEST_CORNERS:PySem.W.nsIn K mainGlobals "FEWEST_CORNERS" = some (some (.int 3 tn_FEWEST_CORNERS)))
 {tn_GREAT_BITS:Tok} (n_GREAT_BITS:PySem.W.nsIn K mainGlobals "GREAT_BITS" = some (some (.int 4000 tn_GREAT_BITS)))
 {tn_MOST_CORNERS:Tok} (n_MOST_CORNERS:PySem.W.nsIn K mainGlobals "MOST_CORNERS" = some (some (.int 30 tn_MOST_CORNERS)))
 {tn_MOST_PIECES:Tok} (n_MOST_PIECES:PySem.W.nsIn K mainGlobals "MOST_PIECES" = some (some (.int 40 tn_MOST_PIECES)))
 {tn_MOST_STUFF:Tok} (n_MOST_STUFF:PySem.W.nsIn K mainGlobals "MOST_STUFF" = some (some (.int 9 tn_MOST_STUFF)))
 {tn_THICKEST:Tok} (n_THICKEST:PySem.W.nsIn K mainGlobals "THICKEST" = some (some (.int 9 tn_THICKEST)))
 {cl:Str→Addr} (zk:EkK K cl) (bk:BkK K)
 : ∃ fd:FuncData,(∀ (s:Shared) (v:Value),BindsTo s fd ⟨[v],[]⟩ [("_law_script",v)])∧∀ base:Heap,K.In base→base.Ns mainGlobals mg→FnOk l.prog w K mg base CX0 11 fa fd ["_law_script"] (Zju K P_law P_law):=by
 have e:=hfa.symm.trans (n51_ X G a_law);cases e
 have T:Bt mg:=⟨n30_ X G z_abs,n30_ X G z_all,n30_ X G z_any,n30_ X G z_bool,n30_ X G z_enumerate,n30_ X G z_int,n30_ X G z_isinstance,n30_ X G z_len,n30_ X G z_list,n30_ X G z_max,n30_ X G z_min,n30_ X G z_range,n30_ X G z_repr,n30_ X G z_set,n30_ X G z_sorted,n30_ X G z_tuple,n30_ X G z_zip,⟨_,n51_ X G n_FARTHEST⟩,⟨_,n51_ X G n_FEWEST_CORNERS⟩,⟨_,n51_ X G n_GREAT_BITS⟩,⟨_,n51_ X G n_MOST_CORNERS⟩,⟨_,n51_ X G n_MOST_PIECES⟩,⟨_,n51_ X G n_MOST_STUFF⟩,⟨_,n51_ X G n_THICKEST⟩⟩;have Z:Ek K mg cl:=zk.ek X G;have BK:BltK K mg:=bk.blt X G;have F_law:=Zpf (st:=Zep) l_law c_law k_law;refine ⟨PySem.W.fnOf "law" "law" (Xo Zep) (Y0 Zep) (Zg Zep) .none kV_law dc_law pm_law an_law (.ref cc_law) ct_law,fun s v=>.of_eq rfl,fun base _ _=>?_⟩;have C_0:a0_ l.prog w K mg base:=h_0.cal X G (fun F=>Zc8 T F) fun _ _ _ _ _ _=>ln2 fun _ _=>rfl;have C_1:a1_ l.prog w K mg base:=h_1.cal X G (fun F=>Zlb T F C_0) fun _ _ _ _ _ _=>ln2 fun _ _=>rfl;have C_2:a3_ l.prog w K mg base:=h_2.cal X G (fun F=>Zi5 T F) fun _ _ _ _ _ _=>ln1 fun _=>rfl;have C_x3:a2_ l.prog w K mg base:=h_2.cal X G (fun F=>Zib T F) fun _ _ _ _ _ _=>ln1 fun _=>rfl;have C_3:a36_ l.prog w K mg base:=h_3.cal X G (fun F=>Zeo T F C_1 C_x3) fun _ _ _ _ _ _=>ln1 fun _=>rfl;have C_4:a4_ l.prog w K mg base:=h_4.cal X G (fun F=>Zgp T F C_2) fun _ _ _ _ _ _=>ln3 fun _ _ _=>rfl;have C_5:a5_ l.prog w K mg base:=h_5.cal X G (fun F=>Znh T F) fun _ _ _ _ _ _=>ln3 fun _ _ _=>rfl;have C_x7:a8_ l.prog w K mg base:=h_6.cal X G (fun F=>Zej T F) fun _ _ _ _ _ _=>ln1 fun _=>rfl;have C_x8:a10_ l.prog w K mg base:=h_6.cal X G (fun F=>Zev T F) fun _ _ _ _ _ _=>ln1 fun _=>rfl;have C_7:a6_ l.prog w K mg base:=h_7.cal X G (fun F=>Zht T F C_4 C_5) fun _ _ _ _ _ _=>ln1 fun _=>rfl;have C_8:a18_ l.prog w K mg base:=h_8.cal X G (fun F=>Zen T F C_7 C_5) fun _ _ _ _ _ _=>ln1 fun _=>rfl;have C_9:a7_ l.prog w K mg base:=h_9.cal X G (fun F=>Zqz T F) fun _ _ _ _ _ _=>ln3 fun _ _ _=>rfl;have C_10:a9_ l.prog w K mg base:=h_10.cal X G (fun F=>Zlg T F C_9) fun _ _ _ _ _ _=>ln2 fun _ _=>rfl;have C_11:a11_ l.prog w K mg base:=h_11.cal X G (fun F=>Ziz T F C_x7 C_4 C_5 C_10) fun _ _ _ _ _ _=>ln2 fun _ _=>rfl
 have C_12:a19_ l.prog w K mg base:=h_12.cal X G (fun F=>Zf1 T F C_x8 C_11 C_5) fun _ _ _ _ _ _=>ln2 fun _ _=>rfl;have C_13:a20_ l.prog w K mg base:=h_13.cal X G (fun F=>Zf9 T F C_4 C_5) fun _ _ _ _ _ _=>ln2 fun _ _=>rfl;have C_14:a23_ l.prog w K mg base:=h_14.cal X G (fun F=>Zin T F C_4 C_5) fun _ _ _ _ _ _=>ln1 fun _=>rfl;have C_15:a17_ l.prog w K mg base:=h_15.cal X G (fun F=>Zjh T F C_9) fun _ _ _ _ _ _=>ln2 fun _ _=>rfl;have C_16:a12_ l.prog w K mg base:=h_16.cal X G (fun F=>Zor T F) fun _ _ _ _ _ _=>ln1 fun _=>rfl;have C_17:a14_ l.prog w K mg base:=h_17.cal X G (fun F=>Zlm T F C_16 C_9) fun _ _ _ _ _ _=>ln2 fun _ _=>rfl;have C_18:a13_ l.prog w K mg base:=h_18.cal X G (fun F=>Zfu T F C_16 C_9) fun _ _ _ _ _ _=>ln2 fun _ _=>rfl;have C_19:a15_ l.prog w K mg base:=h_19.cal X G (fun F=>Zif T F C_18) fun _ _ _ _ _ _=>ln2 fun _ _=>rfl;have C_20:a21_ l.prog w K mg base:=h_20.cal X G (fun F=>Zap T F) fun _ _ _ _ _ _=>ln2 fun _ _=>rfl;have C_21:a16_ l.prog w K mg base:=h_21.cal X G (fun F=>Zbe T F C_17) fun _ _ _ _ _ _=>ln3 fun _ _ _=>rfl;have C_22:a22_ l.prog w K mg base:=h_22.cal X G (fun F=>Zed T F C_19 C_21 C_15) fun _ _ _ _ _ _=>ln2 fun _ _=>rfl;have C_23:a34_ l.prog w K mg base:=h_23.cal X G (fun F=>Zd4 T F C_8 C_12 C_13 C_20 C_22 C_5 C_14) fun _ _ _ _ _ _=>ln1 fun _=>rfl;have C_x26:a26_ l.prog w K mg base:=h_4.cal X G (fun F=>Zer T F C_x3) fun _ _ _ _ _ _=>ln3 fun _ _ _=>rfl;have C_x27:a24_ l.prog w K mg base:=h_5.cal X G (fun F=>Zlp T F) fun _ _ _ _ _ _=>ln3 fun _ _ _=>rfl;have C_x28:a27_ l.prog w K mg base:=h_8.cal X G (fun F=>Zdx T F C_7 C_x27) fun _ _ _ _ _ _=>ln1 fun _=>rfl;have C_x29:a28_ l.prog w K mg base:=h_12.cal X G (fun F=>Zei T F C_x8 C_11 C_x27) fun _ _ _ _ _ _=>ln2 fun _ _=>rfl;have C_x30:a25_ l.prog w K mg base:=h_6.cal X G (fun F=>Zet T F) fun _ _ _ _ _ _=>ln1 fun _=>rfl;have C_x31:a29_ l.prog w K mg base:=h_12.cal X G (fun F=>Zeg T F C_x30 C_11 C_5) fun _ _ _ _ _ _=>ln2 fun _ _=>rfl;have C_x32:a30_ l.prog w K mg base:=h_13.cal X G (fun F=>Zef T F C_4 C_x27) fun _ _ _ _ _ _=>ln2 fun _ _=>rfl
 have C_x33:a31_ l.prog w K mg base:=h_13.cal X G (fun F=>Zeh T F C_x26 C_5) fun _ _ _ _ _ _=>ln2 fun _ _=>rfl;have C_x34:a32_ l.prog w K mg base:=h_14.cal X G (fun F=>Zh6 T F C_x26 C_5) fun _ _ _ _ _ _=>ln1 fun _=>rfl;have C_x35:a33_ l.prog w K mg base:=h_20.cal X G (fun F=>Zae T F) fun _ _ _ _ _ _=>ln2 fun _ _=>rfl;have C_x44:a35_ l.prog w K mg base:=h_23.cal X G (fun F=>Zid T F C_8 C_x28 C_12 C_x29 C_x31 C_13 C_x32 C_x33 C_20 C_x35 C_22 C_5 C_x27 C_14 C_x34) fun _ _ _ _ _ _=>ln1 fun _=>rfl;have C_24:a39_ l.prog w K mg base:=h_24.cal X G (fun F=>Zdb T F C_23) fun _ _ _ _ _ _=>ln1 fun _=>rfl;have X_x46:CalX l.prog w K mg base "look_at_plate" 6 ["plate"] (Zcr K (cl "NoPlate")):=h_24.calX X G (fun F=>Zcn T F Z C_x44) fun _ _ _ _ _ _=>ln1 fun _=>rfl;have C_x47:a37_ l.prog w K mg base:=h_25.cal X G (fun F=>Zci T F C_3) fun _ _ _ _ _ _=>ln2 fun _ _=>rfl;have C_x48:a38_ l.prog w K mg base:=h_26.cal X G (fun F=>Zbs T F C_x47) fun _ _ _ _ _ _=>ln2 fun _ _=>rfl;have C_27:a57_ l.prog w K mg base:=h_27.cal X G (fun F=>Zdo T F C_x48 C_24) fun _ _ _ _ _ _=>ln2 fun _ _=>rfl;have X_x50:CalX l.prog w K mg base "are_stresses" 7 ["plate","thing"] (Zaf K cl):=h_27.calX X G (fun F=>Zda T F Z X_x46) fun _ _ _ _ _ _=>ln2 fun _ _=>rfl;have H_28:CalH l.prog w K mg base "_law_kind" 2 ["_law_e"] (Zji K cl):=h_28.calH X G (fun F=>Zh0 T F Z) fun _ _ _ _ _ _=>ln1 fun _=>rfl;have C_29:Cal l.prog w K mg base "_law_said" 9 ["_law_call"] (Zi4 l.prog w K mg base cl):=h_29.cal X G (fun F=>Zgx T F Z H_28) fun _ _ _ _ _ _=>ln1 fun _=>rfl;have C_30:a51_ l.prog w K mg base:=h_30.cal X G (fun F=>Zb2 T F) fun _ _ _ _ _ _=>ln2 fun _ _=>rfl;have C_31:a40_ l.prog w K mg base:=h_31.cal X G (fun F=>Zec T F) fun _ _ _ _ _ _=>ln2 fun _ _=>rfl;have C_32:a56_ l.prog w K mg base:=h_32.cal X G (fun F=>Zfv T F C_31) fun _ _ _ _ _ _=>ln2 fun _ _=>rfl;have C_33:a41_ l.prog w K mg base:=h_33.cal X G (fun F=>Zem T F) fun _ _ _ _ _ _=>ln2 fun _ _=>rfl;have C_34:a43_ l.prog w K mg base:=h_34.cal X G (fun F=>Zfp T F C_33) fun _ _ _ _ _ _=>ln2 fun _ _=>rfl;have C_35:a42_ l.prog w K mg base:=h_35.cal X G (fun F=>Zi7 T F) fun _ _ _ _ _ _=>ln2 fun _ _=>rfl
 have C_36:a45_ l.prog w K mg base:=h_36.cal X G (fun F=>Zdc T F C_33 C_35) fun _ _ _ _ _ _=>ln1 fun _=>rfl;have C_37:a44_ l.prog w K mg base:=h_37.cal X G (fun F=>Zel T F) fun _ _ _ _ _ _=>fun us hl=>match us,hl with|[],_=>rfl
 have C_38:a53_ l.prog w K mg base:=h_38.cal X G (fun F=>Zfr T F C_33 C_34 C_37) fun _ _ _ _ _ _=>ln2 fun _ _=>rfl;have C_39:a54_ l.prog w K mg base:=h_39.cal X G (fun F=>Zjc T F C_36) fun _ _ _ _ _ _=>ln2 fun _ _=>rfl;have C_40:a55_ l.prog w K mg base:=h_40.cal X G (fun F=>Zic T F) fun _ _ _ _ _ _=>ln2 fun _ _=>rfl;have C_41:a49_ l.prog w K mg base:=h_41.cal X G (fun F=>Zjf T F C_33) fun _ _ _ _ _ _=>ln1 fun _=>rfl;have C_42:a46_ l.prog w K mg base:=h_42.cal X G (fun F=>Zf2 T F) fun _ _ _ _ _ _=>ln1 fun _=>rfl;have C_43:a47_ l.prog w K mg base:=h_43.cal X G (fun F=>Zbq T F C_35 C_42) fun _ _ _ _ _ _=>ln1 fun _=>rfl;have C_44:a48_ l.prog w K mg base:=h_44.cal X G (fun F=>Zeu T F C_43) fun _ _ _ _ _ _=>ln2 fun _ _=>rfl;have C_45:a50_ l.prog w K mg base:=h_45.cal X G (fun F=>Zbg T F C_44) fun _ _ _ _ _ _=>ln2 fun _ _=>rfl;have C_xI:Cal l.prog w K mg base "_law_bent" 2 ["_law_state_here","_law_thing","_law_deep"] (Zje 0):=h_46.cal X G (fun F=>Zhr T F) fun _ _ _ _ _ _=>ln3 fun _ _ _=>rfl;have C_x69:Cal l.prog w K mg base "_law_bent" 3 ["_law_state_here","_law_thing","_law_deep"] (Zfh 0):=h_46.cal X G (fun F=>X7 (n:=0) T F C_xI C_33 C_41 C_42) fun _ _ _ _ _ _=>ln3 fun _ _ _=>rfl;have C_x70:Cal l.prog w K mg base "_law_bent" 4 ["_law_state_here","_law_thing","_law_deep"] (Zfh 1):=h_46.cal X G (fun F=>X7 (n:=1) T F C_x69 C_33 C_41 C_42) fun _ _ _ _ _ _=>ln3 fun _ _ _=>rfl;have C_x71:Cal l.prog w K mg base "_law_bent" 5 ["_law_state_here","_law_thing","_law_deep"] (Zfh 2):=h_46.cal X G (fun F=>X7 (n:=2) T F C_x70 C_33 C_41 C_42) fun _ _ _ _ _ _=>ln3 fun _ _ _=>rfl;have C_x72:a52_ l.prog w K mg base:=h_46.cal X G (fun F=>X7 (n:=3) T F C_x71 C_33 C_41 C_42) fun _ _ _ _ _ _=>ln3 fun _ _ _=>rfl;exact Zsf T F_law Z rfl (fun _ Y=>PySem.W.codeHd_of_K Y hd_law) BK X_x50 C_45 C_30 C_x72 C_41 C_38 C_39 C_29 C_40 C_32 C_27
theorem walk {l:PySem.W.OpenLaw} {q:Program} {loose:List Str} {XP:(Str→Option Value)→Heap→Prop} {YP:World→Heap→Prop} {d:DefRec} {K:Params→PySem.W.Frag} {c1 c2 P1 P2:Addr} (hn:l.most=some 63) (hdf:d.params.defaults=[])
 (hY:∀ (w:World) (h:Heap),YP w h→(K w.params).In h∧h.get? P1=some (PySem.W.tabObj #[])∧h.get? P2=some (PySem.W.tabObj #[]))
 (hc:∀ P,PySem.W.codeHdIn (K P) c1 P1=true∧PySem.W.codeHdIn (K P) c2 P2=true∧(K P).lookup P1=none∧(K P).lookup P2=none)
 (F:∀ (w:World) (mg:Str→Option Value) (fa:Addr) (h:Heap),(K w.params).In h→h.Ns mainGlobals mg→mg d.name=some (.ref fa) →
   ∃ fd:FuncData,(∀ (s:Shared) (u:Value),BindsTo s fd ⟨[u],[]⟩ [("_law_script",u)])∧∀ base:Heap,(K w.params).In base→base.Ns mainGlobals mg→FnOk l.prog w (K w.params) mg base CX0 11 fa fd ["_law_script"] (Zju (K w.params) P1 P2)) :
 PySem.W.WalkO q loose XP YP l.row.toRowW d [] (fun f vs=>PySem.call f vs) :=
 L2.Zo1 (n:=63) (k:=11) (x := "_law_script") (sp:=fun w=>Zju (K w.params) P1 P2) hn (by decide) hdf ⟨rfl,by decide,by decide,rfl⟩ hY hc F fun _ _ a ns hl hS e1 e2=>⟨a,ns,rfl,hS,hl,Zo6 e2,fun _=>rfl⟩
end My

namespace My
open PySem PySem.W PyProof.Rows L2
set_option maxRecDepth 1000000
set_option maxHeartbeats 0
def gE (P:Params) (n:Str) (t:Tok) (v:Value):DictEntry:=⟨PySem.PyData.keyHash P n,.str n t,v⟩
def gR (P:Params) (n:Str) (t:Tok) (a:Addr):DictEntry:=gE P n t (.ref a)
def fO (n:Str) (i:Nat) (m:Str) (mt:Tok) (c:Addr) (dv:Value):Obj:={ cls:=.type "function",data:=.func (PySem.W.fnOf n n (Xo (top i)) (Y0 (top i)) (Zg (top i)) dv .none .none (.str m mt) none (.ref c) .none) }
def cO (n:Str) (a:Tok) (l k:Int) (r s:Addr) (u v:Value) (t:Nat):Obj:={ cls:=.type "code",data:=.fields (Array.mk [.str n a,.str n (a+1),.str "/claim/cut.py" (a+2),.int l 0,.int k 0,.int 0 0,.int 0 0,.int 3 0,.ref r,.bool true,.int 181 0,.ref (r+1),.none,u,v,.ref s,.int t 0,.int l 0,.str "/claim/cut.py" (t+1)]) }
def dR (n:Str) (i:Nat) (m:Str) (mt a:Tok) (l k:Int) (r:Addr) (t:Nat):Frag:=[(r+6,fO n i m mt (r+5) .none),(r+5,cO n a l k r (r+4) (.ref (r+2)) (.ref (r+3)) t)]
def dN (n:Str) (i:Nat) (m:Str) (mt a:Tok) (l k:Int) (r:Addr) (t:Nat):Frag:=[(r+4,fO n i m mt (r+3) .none),(r+3,cO n a l k r (r+2) .none .none t)]
def Zs2 (s:Stmt):Pos:=match s with|.FunctionDef _ _ _ _ _ _ _ _ _ p=>p|_=>⟨0,0,0,0⟩
def vE:List Value:=[.type "ValueError",.type "Exception",.type "BaseException",.type "object"]
def clO (n:Str) (a d:Addr) (t:Tok) (bs mr su:List Value):Addr × Obj:=(a,{ cls:=.type "type",data:=.cls { name:=n,bases:=bs,mro:=.ref a :: mr,ns:=a-1,qualname:=n,subclasses:=su },slots:=#[some (.ref d),none,some (.str n t),some (.str n (t+8)),some (.builtin "ValueError.__new__"),some (.bool true)] })
def clS (n:Str) (a d:Addr) (t:Tok):Addr × Obj:=clO n a d t [.ref 24] (.ref 24 :: vE) []
def m0:Str := "platerest.divisors"
def m1:Str := "platerest.quotients"
def m2:Str := "platerest.plates"
def m3:Str := "platerest.strains"
def m4:Str := "law_platerest_k23_stresses_judged"
noncomputable def kK (P:Params):Frag:=(3,{ cls:=.type "dict",data:=(.dict #[gE P "__name__" 165 (.str "law_platerest_k23_stresses_judged" 918),
gE P "__doc__" 166 (.none),
gE P "__package__" 167 (.none),
gE P "__loader__" 168 (.builtin "__main__.__loader__#opaque"),
gE P "__spec__" 169 (.none),
gR P "__annotations__" 170 6,
gR P "__builtins__" 171 4,
gE P "__file__" 173 (.str "/claim/cut.py" 172),
gE P "__cached__" 174 (.none),
gR P "PlateError" 206 24,
gR P "NoWhole" 222 37,
gR P "NoFraction" 238 49,
gR P "NoRows" 254 61,
gR P "NoPlate" 270 73,
gR P "NoMotions" 286 85,
gR P "NoLoads" 302 97,
gR P "NoHolding" 318 109,
gR P "NoWays" 334 121,
gR P "NoWay" 350 133,
gR P "NoPiece" 366 145,
gR P "NoStresses" 382 157,
gR P "NoBalance" 398 169,
gR P "NoRest" 414 181,
gR P "NoRounds" 430 193,
gR P "NoFrame" 446 205,
gR P "NoLot" 462 217,
gR P "NoInner" 478 229,
gR P "NoTurning" 494 241,
gR P "NoFirm" 510 253,
gR P "NoThick" 526 265,
gR P "NoDeed" 542 277,
gR P "NoDeeds" 558 289,
gR P "NotHeld" 574 301,
gR P "NoLine" 590 313,
gR P "TooMany" 617 332,
gR P "NoText" 642 351,
gE P "GREAT_BITS" 646 (.int 4000 645),
gE P "FEW_BITS" 648 (.int 200 647),
gR P "plain_divisor" 656 360,
gR P "few_steps" 671 367,
gR P "mixed_by" 686 374,
gR P "shrinking" 706 381,
gR P "divisor" 715 388,
gR P "is_whole" 724 395,
gR P "is_fraction" 733 402,
gR P "are_fractions" 739 407,
gE P "FEWEST_CORNERS" 743 (.int 3 742),
gE P "MOST_CORNERS" 745 (.int 30 744),
gE P "FARTHEST" 747 (.int 100 746),
gE P "MOST_PIECES" 749 (.int 40 748),
gE P "THICKEST" 751 (.int 9 750),
gE P "MOST_STUFF" 753 (.int 9 752),
gR P "is_between" 762 414,
gR P "is_row" 771 421,
gR P "are_rising" 777 426,
gR P "is_corner" 783 431,
gR P "are_corners" 789 436,
gR P "turn" 799 443,
gR P "turn_of" 807 450,
gR P "is_piece" 813 455,
gR P "are_pieces" 819 460,
gR P "are_thicks" 825 465,
gR P "is_stuff" 832 472,
gR P "triangle" 838 477,
gR P "edges" 845 484,
gR P "lies_in" 851 489,
gR P "parts_from" 857 494,
gR P "are_apart" 865 501,
gR P "every_corner_is_used" 871 506,
gR P "no_strange_corner" 877 511,
gR P "fit_together" 883 516,
gR P "is_plate" 894 523,
gR P "look_at_plate" 901 530,
gR P "are_stresses_of" 909 535,
gR P "are_stresses" 917 542,
gR P "_law_cell_at" 927 549,
gR P "_law_state" 936 556,
gR P "_law_choice" 946 563,
gR P "_law_order" 956 570,
gR P "_law_low" 966 577,
gR P "_law_fraction" 975 584,
gR P "_law_shapes" 989 591,
gR P "_law_plate" 995 596,
gR P "_law_row" 1001 601,
gR P "_law_same" 1009 608,
gR P "_law_odd" 1017 615,
gR P "_law_kind" 1026 622,
gR P "_law_said" 1035 629,
gR P "_law_is_fraction" 1041 634,
gR P "_law_whole" 1048 641,
gR P "_law_is_row" 1054 646,
gR P "_law_are_stresses" 1060 651,
gR P "_law_bent" 1072 658,
gR P "_law_bad_plates" 1085 665,
gR P "law" 1091 670] 95) }) :: (dR "plain_divisor" 31 m0 643 649 66 2 354 654 ++
dR "divisor" 35 m0 643 707 97 2 382 713 ++
dR "is_whole" 37 m1 716 718 104 1 389 722 ++
dR "is_fraction" 38 m1 716 725 106 1 396 731 ++
dR "is_between" 47 m2 740 754 124 3 408 760 ++
dR "is_row" 48 m2 740 763 126 3 415 769 ++
dN "are_rising" 49 m2 740 772 128 1 422 775 ++
dN "is_corner" 50 m2 740 778 130 1 427 781 ++
dN "are_corners" 51 m2 740 784 132 1 432 787 ++
dR "turn" 52 m2 740 790 136 3 437 797 ++
dR "turn_of" 53 m2 740 800 139 2 444 805 ++
dN "is_piece" 54 m2 740 808 141 2 451 811 ++
dN "are_pieces" 55 m2 740 814 145 2 456 817 ++
dN "are_thicks" 56 m2 740 820 149 2 461 823 ++
dR "is_stuff" 57 m2 740 826 153 1 466 830 ++
dN "triangle" 58 m2 740 833 157 2 473 836 ++
dR "edges" 59 m2 740 839 162 1 478 843 ++
dN "lies_in" 60 m2 740 846 164 2 485 849 ++
dN "parts_from" 61 m2 740 852 166 2 490 855 ++
dR "are_apart" 62 m2 740 858 171 2 495 863 ++
dN "every_corner_is_used" 63 m2 740 866 173 2 502 869 ++
dN "no_strange_corner" 64 m2 740 872 175 3 507 875 ++
dN "fit_together" 65 m2 740 878 178 2 512 881 ++
dR "is_plate" 66 m2 740 884 186 1 517 892 ++
dR "look_at_plate" 67 m2 740 895 195 1 524 899 ++
dN "are_fractions" 39 m1 716 734 113 2 403 737 ++
dN "are_stresses_of" 69 m3 902 904 199 2 531 907 ++
dR "are_stresses" 70 m3 902 910 203 2 536 915 ++
dR "_law_kind" 83 m4 918 1018 270 1 616 1024 ++
dR "_law_said" 84 m4 918 1027 285 1 623 1033 ++
dR "_law_bad_plates" 90 m4 918 1073 322 2 659 1083 ++
dR "_law_cell_at" 72 m4 918 920 207 2 543 925 ++
dR "_law_state" 73 m4 918 928 211 2 550 934 ++
dR "_law_choice" 74 m4 918 937 214 2 557 944 ++
dR "_law_order" 75 m4 918 947 224 2 564 954 ++
dR "_law_low" 76 m4 918 957 229 2 571 964 ++
dR "_law_fraction" 77 m4 918 967 234 1 578 973 ++
dR "_law_shapes" 78 m4 918 976 240 0 585 987 ++
dN "_law_plate" 79 m4 918 990 250 2 592 993 ++
dN "_law_row" 80 m4 918 996 263 2 597 999 ++
dR "_law_same" 81 m4 918 1002 265 2 602 1007 ++
dR "_law_odd" 82 m4 918 1010 267 1 609 1015 ++
dR "_law_whole" 86 m4 918 1042 295 1 635 1046 ++
dN "_law_is_fraction" 85 m4 918 1036 291 1 630 1039 ++
dN "_law_is_row" 87 m4 918 1049 297 2 642 1052 ++
dN "_law_are_stresses" 88 m4 918 1055 301 2 647 1058 ++
dR "_law_bent" 89 m4 918 1061 305 3 652 1070 ++
dN "law" 91 m4 918 1086 329 1 666 1089 ++
[clO "PlateError" 24 15 189 [.type "ValueError"] vE [.ref 37,.ref 49,.ref 61,.ref 73,.ref 85,.ref 97,.ref 109,.ref 121,.ref 133,.ref 145,.ref 157,.ref 169,.ref 181,.ref 193,.ref 205,.ref 217,.ref 229,.ref 241,.ref 253,.ref 265,.ref 277,.ref 289,.ref 301,.ref 313,.ref 332,.ref 351],
clS "NoWhole" 37 28 207,
clS "NoFraction" 49 40 223,
clS "NoRows" 61 52 239,
clS "NoPlate" 73 64 255,
clS "NoMotions" 85 76 271,
clS "NoLoads" 97 88 287,
clS "NoHolding" 109 100 303,
clS "NoWays" 121 112 319,
clS "NoWay" 133 124 335,
clS "NoPiece" 145 136 351,
clS "NoStresses" 157 148 367,
clS "NoBalance" 169 160 383,
clS "NoRest" 181 172 399,
clS "NoRounds" 193 184 415,
clS "NoFrame" 205 196 431,
clS "NoLot" 217 208 447,
clS "NoInner" 229 220 463,
clS "NoTurning" 241 232 479,
clS "NoFirm" 253 244 495,
clS "NoThick" 265 256 511,
clS "NoDeed" 277 268 527,
clS "NoDeeds" 289 280 543,
clS "NotHeld" 301 292 559,
clS "NoLine" 313 304 575,
clS "TooMany" 332 316 591,
clS "NoText" 351 335 618,
(23,{ cls:=.type "dict",data:=(.dict #[gE P "__module__" 196 (.str "platerest.errors" 187),gE P "__firstlineno__" 200 (.int 2 199),gR P "__static_attributes__" 201 22,gR P "__weakref__" 203 25,gE P "__doc__" 204 (.none)] 3) }),
(72,{ cls:=.type "dict",data:=(.dict #[gE P "__module__" 262 (.str "platerest.errors" 187),gE P "__firstlineno__" 266 (.int 10 265),gR P "__static_attributes__" 267 71,gE P "__doc__" 268 (.none)] 2) }),
(4,{ cls:=.type "module",dict:=some builtinsNs })])
def kA:List Addr:=[3,360,359,388,387,395,394,402,401,414,413,421,420,426,425,431,430,436,435,443,442,450,449,455,454,460,459,465,464,472,471,477,476,484,483,489,488,494,493,501,500,506,505,511,510,516,515,523,522,530,529,407,406,535,534,542,541,622,621,629,628,665,664,549,548,556,555,563,562,570,569,577,576,584,583,591,590,596,595,601,600,608,607,615,614,641,640,634,633,646,645,651,650,658,657,670,669,24,37,49,61,73,85,97,109,121,133,145,157,169,181,193,205,217,229,241,253,265,277,289,301,313,332,351,23,72,4]
theorem kAs:∀ P,kA=(kK P).map (·.1):=fun _=>by kernel_rfl
def kT:List Addr:=[667]
def clA (x:Str):Addr:=(List.lookup x [("PlateError",24),("NoWhole",37),("NoFraction",49),("NoRows",61),("NoPlate",73),("NoMotions",85),("NoLoads",97),("NoHolding",109),("NoWays",121),("NoWay",133),("NoPiece",145),("NoStresses",157),("NoBalance",169),("NoRest",181),("NoRounds",193),("NoFrame",205),("NoLot",217),("NoInner",229),("NoTurning",241),("NoFirm",253),("NoThick",265),("NoDeed",277),("NoDeeds",289),("NotHeld",301),("NoLine",313),("TooMany",332),("NoText",351)]).getD 0
theorem Zrb {K:PySem.W.Frag} {cl:Str→Addr} {C:Addr} {ix:Nat} (h:(CLS.map fun x=>PySem.W.kitOne K (.ref C) (.ref (cl x)))=(List.range 26).map fun i=>some (decide (i=ix))):∀ (i:Nat) x,CLS[i]? = some x→PySem.W.kitOne K (.ref C) (.ref (cl x))=some (decide (i=ix)):=by
  intro i x e;have q:=congrArg (fun l=>l[i]?) h;simp only [n11_,e,Option.map_some] at q;have hi:i<26:=(n21_.mp e).1;rw [List.getElem?_range hi] at q;exact Option.some.inj q
theorem Ztz (P:Params):(CLS.map fun x=>PySem.W.nsIn (kK P) mainGlobals x)=CLS.map fun x=>some (some (.ref (clA x))):=by kernel_rfl
theorem Zk6 (P:Params):ExcK (kK P) (clA "NoPlate"):=⟨_,_,_,PySem.F.excBase_ValueError,by kernel_rfl⟩
theorem Zkx (P:Params):Kind (kK P) clA (clA "NoPlate") 3:=⟨Zrb (by kernel_rfl),by kernel_rfl,by kernel_rfl,by kernel_rfl,by kernel_rfl,by kernel_rfl,by kernel_rfl,by kernel_rfl,by kernel_rfl⟩
theorem kz (P:Params):EkK (kK P) clA:=⟨List.map_inj_left.mp (Ztz P),by kernel_rfl,by kernel_rfl,Zk6 P,Zkx P⟩
theorem kb (P:Params):BkK (kK P):=⟨4,{ cls:=.type "module",dict:=some builtinsNs },by kernel_rfl,by decide,by decide,by kernel_rfl,rfl,rfl,rfl⟩
theorem h3:∀ w os,(topK pw 14968 w os).map (fun s=>(kA.map s.abs.heap.get?,kT.map s.abs.heap.get?))=some (((kK w.params).map fun p=>some p.2,kT.map fun _=>some (tabObj #[]))):=fun w os=>by
  unfold topK topStub;rw [PySem.W.Fast.te4652649595001227023,PySem.W.Fast.te14364793385576792824,PySem.W.Fast.te17154629097778926822,PySem.W.Fast.te12822647523644345616]
  kernel_rfl
theorem left:LeftO pw qq ll (fun s=>xlAt qq [] s&&recOk (RowW.records (OpenRow.toRowW rr)) s) (Hook.obs (kmHook kK kA kAs kT)) (Hook.val (kmHook kK kA kAs kT)) 14968 :=
  Zis (T0:=bootT) (life:={}) (by kernel_rfl) (by kernel_rfl) (fun s=>by kernel_rfl) Zos Zmf (Zhz (R:=topK pw 14968) h1 h2 h3)
theorem lk4 {P:Params} {b:Str} {i:Nat} {f:Addr} (c:Addr) (m:Str) (mt:Tok) (h:((kK P).lookup f,PySem.W.nsIn (kK P) mainGlobals b,PySem.W.codeIn (kK P) (.ref c) b,PySem.W.keepIn (kK P) (.ref f))=(some (fO b i m mt c .none),some (some (.ref f)),true,true)):Lk (kK P) b (top i) f:=Zty (Prod.mk.inj (Prod.mk.inj h).2).1 (Prod.mk.inj h).1 (Prod.mk.inj (Prod.mk.inj (Prod.mk.inj h).2).2).1 (Prod.mk.inj (Prod.mk.inj (Prod.mk.inj h).2).2).2
theorem Zn1 (P:Params):PySem.W.codeHdIn (kK P) 669 667=true:=by kernel_rfl
theorem Zte (P:Params):(kK P).lookup 670=some (fO "law" 91 m4 918 669 .none):=by kernel_rfl
theorem Zsu (P:Params):PySem.W.nsIn (kK P) mainGlobals "law" = some (some (.ref 670)):=by kernel_rfl
theorem Zth (P:Params):PySem.W.codeIn (kK P) (.ref 669) "law" = true:=by kernel_rfl
theorem Zsh (P:Params):PySem.W.keepIn (kK P) (.ref 670)=true:=by kernel_rfl
theorem hcL:∀ P,PySem.W.codeHdIn (kK P) 669 667=true∧PySem.W.codeHdIn (kK P) 669 667=true∧(kK P).lookup 667=none∧(kK P).lookup 667=none:=fun P=>⟨Zn1 P,Zn1 P,by kernel_rfl,by kernel_rfl⟩
def dL:DefRec:=⟨"law",Xo (top 91),Y0 (top 91),Zg (top 91),Zs2 (top 91)⟩
theorem hdL:defOf qq (OpenRow.toRowW rr).name=some (dL,[]):=by kernel_rfl
theorem hpL:(OpenRow.toRowW rr).prog.theDef (OpenRow.toRowW rr).name=some (dL.params,dL.body,dL.scope):=by kernel_rfl
theorem hkL:kwWritten? dL.params.kwonlyargs dL.params.kw_defaults=some []:=by kernel_rfl
theorem okL:(chainsOk qq&&opensWell (OpenRow.toRowW rr).prog&&(frees (OpenRow.toRowW rr)&&(OpenRow.toRowW rr).within.isEmpty))=true:=by kernel_rfl
theorem dfL:dL.params.defaults=[]:=by kernel_rfl
theorem wkL:WalkO qq ll (XL qq []) (Hook.says (kmHook kK kA kAs kT)) (OpenRow.toRowW rr) dL [] (fun f vs=>PySem.call f vs):=by
  refine My.walk (l:=PySem.Challenge.rw_platerest_k23_stresses_judged) rfl dfL (fun w h Y=>⟨PySem.W.km_in_of Y,PySem.W.km_tabs_of Y _ (by decide),PySem.W.km_tabs_of Y _ (by decide)⟩) hcL ?F;intro w mg fa h KX G hmg;exact Zs6 KX G hmg (lk4 (f:=360) 359 m0 643 (by kernel_rfl)) (lk4 (f:=388) 387 m0 643 (by kernel_rfl)) (lk4 (f:=395) 394 m1 716 (by kernel_rfl)) (lk4 (f:=402) 401 m1 716 (by kernel_rfl)) (lk4 (f:=414) 413 m2 740 (by kernel_rfl)) (lk4 (f:=421) 420 m2 740 (by kernel_rfl)) (lk4 (f:=426) 425 m2 740 (by kernel_rfl)) (lk4 (f:=431) 430 m2 740 (by kernel_rfl)) (lk4 (f:=436) 435 m2 740 (by kernel_rfl)) (lk4 (f:=443) 442 m2 740 (by kernel_rfl)) (lk4 (f:=450) 449 m2 740 (by kernel_rfl)) (lk4 (f:=455) 454 m2 740 (by kernel_rfl)) (lk4 (f:=460) 459 m2 740 (by kernel_rfl)) (lk4 (f:=465) 464 m2 740 (by kernel_rfl)) (lk4 (f:=472) 471 m2 740 (by kernel_rfl)) (lk4 (f:=477) 476 m2 740 (by kernel_rfl)) (lk4 (f:=484) 483 m2 740 (by kernel_rfl)) (lk4 (f:=489) 488 m2 740 (by kernel_rfl)) (lk4 (f:=494) 493 m2 740 (by kernel_rfl)) (lk4 (f:=501) 500 m2 740 (by kernel_rfl)) (lk4 (f:=506) 505 m2 740 (by kernel_rfl)) (lk4 (f:=511) 510 m2 740 (by kernel_rfl)) (lk4 (f:=516) 515 m2 740 (by kernel_rfl)) (lk4 (f:=523) 522 m2 740 (by kernel_rfl)) (lk4 (f:=530) 529 m2 740 (by kernel_rfl)) (lk4 (f:=407) 406 m1 716 (by kernel_rfl)) (lk4 (f:=535) 534 m3 902 (by kernel_rfl)) (lk4 (f:=542) 541 m3 902 (by kernel_rfl)) (lk4 (f:=622) 621 m4 918 (by kernel_rfl)) (lk4 (f:=629) 628 m4 918 (by kernel_rfl)) (lk4 (f:=665) 664 m4 918 (by kernel_rfl)) (lk4 (f:=549) 548 m4 918 (by kernel_rfl)) (lk4 (f:=556) 555 m4 918 (by kernel_rfl)) (lk4 (f:=563) 562 m4 918 (by kernel_rfl)) (lk4 (f:=570) 569 m4 918 (by kernel_rfl)) (lk4 (f:=577) 576 m4 918 (by kernel_rfl)) (lk4 (f:=584) 583 m4 918 (by kernel_rfl)) (lk4 (f:=591) 590 m4 918 (by kernel_rfl)) (lk4 (f:=596) 595 m4 918 (by kernel_rfl)) (lk4 (f:=601) 600 m4 918 (by kernel_rfl)) (lk4 (f:=608) 607 m4 918 (by kernel_rfl)) (lk4 (f:=615) 614 m4 918 (by kernel_rfl)) (lk4 (f:=641) 640 m4 918 (by kernel_rfl)) (lk4 (f:=634) 633 m4 918 (by kernel_rfl)) (lk4 (f:=646) 645 m4 918 (by kernel_rfl)) (lk4 (f:=651) 650 m4 918 (by kernel_rfl)) (lk4 (f:=658) 657 m4 918 (by kernel_rfl)) (Zn1 _) (Zsu _) (Zte _) (Zth _) (Zsh _) (by kernel_rfl) (by kernel_rfl) (by kernel_rfl) (by kernel_rfl) (by kernel_rfl) (by kernel_rfl) (by kernel_rfl) (by kernel_rfl) (by kernel_rfl) (by kernel_rfl) (by kernel_rfl) (by kernel_rfl) (by kernel_rfl) (by kernel_rfl) (by kernel_rfl) (by kernel_rfl) (by kernel_rfl) (tn_FARTHEST:=746) (by kernel_rfl) (tn_FEWEST_CORNERS:=742) (by kernel_rfl) (tn_GREAT_BITS:=645) (by kernel_rfl) (tn_MOST_CORNERS:=744) (by kernel_rfl) (tn_MOST_PIECES:=748) (by kernel_rfl) (tn_MOST_STUFF:=752) (by kernel_rfl) (tn_THICKEST:=750) (by kernel_rfl) (kz _) (kb _)
end My
open PySem PySem.W PyProof.Rows
set_option maxRecDepth 1000000 in
set_option maxHeartbeats 0 in
theorem PySem.Challenge.cw_platerest_k23_stresses_judged_holds : PySem.Challenge.rw_platerest_k23_stresses_judged.Holds := by
  refine holds_law My.ws fun said=>?_;refine holds_open (q:=My.qq) (loose:=My.ll) (Xt:=fun s=>xlAt My.qq [] s&&recOk (RowW.records (OpenRow.toRowW My.rr)) s) (XP:=XL My.qq []) (Yf:=Hook.obs (kmHook My.kK My.kA My.kAs My.kT)) (Ya:=Hook.val (kmHook My.kK My.kA My.kAs My.kT)) (YP:=Hook.says (kmHook My.kK My.kA My.kAs My.kT)) My.left (Hook.of (kmHook My.kK My.kA My.kAs My.kT)) (Hook.keeps (kmHook My.kK My.kA My.kAs My.kT)) (fun s e=>xl_of s (n47_.mp e).1) XL.keeps My.hdL My.hpL My.hkL (fun s e=>recFacts_of (n47_.mp e).2) rfl said My.okL ⟨rfl,rfl,rfl,rfl,rfl,by decide +kernel⟩ ?hw My.wkL
  case hw=>w_witness2
