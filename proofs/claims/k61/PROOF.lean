import PyProof.Rows.All
import Wide.All
import OpenK.AllK
import Wide.FinOn
import Lean
import PyProof.EqAt
import PyProof.EqKinds
import PyProof.TupleCall
import PyProof.NeKinds
import PyProof.ConsumeWalk
import PyProof.ReprRoads
import PyProof.ReprLen
import PyProof.ZipIter
import PyProof.Draws
import PyProof.EnumMake
import PySem.SetTable
import PyProof.TupleKey
import PyProof.Rows.SetFrom
import PyProof.InstEq
import PyProof.WalksMore
import PyProof.SumWalkG
import PyProof.Rows.SortWalk
import PyProof.ListRange
import KE.KSortTup
import PyProof.ListMulRoad
import PyProof.FactsAll.tuple_2
import KE.KDictLaws
import PyProof.DictItems
import KE.KPairComp
import PyProof.DictCompW
import PyProof.AttrMissHeap
import PyProof.FactsAll.zip
import KE.KDictOf
import PyProof.CollectWalk
import PyProof.ListNew
import PyProof.DictWalks
import PyProof.Rows.DictUnroll
import PyProof.Rows.ReprOcc
import PySem.Challenge.RW_platerest_k61_turnings_judged
set_option Elab.async false
set_option linter.all false
set_option maxRecDepth 100000
abbrev PySem.Shared.z (s:PySem.Shared):Nat:=s.heap.objs.size
abbrev n0_:=@PySem.wpAny_bind
abbrev n1_:=@List.getElem?_eq_getElem
abbrev n2_:=@PySem.Heap.get?_push_of_some
abbrev n3_:=@PySem.wpAny_pure
abbrev n4_:=@List.getD_eq_getElem?_getD
abbrev n5_:=@List.length_map
abbrev n6_:=@List.getElem?_map
abbrev n7_:=@Nat.le_refl
abbrev n8_:=@PySem.Heap.get?_push_size
abbrev n9_:=@List.size_toArray
abbrev n10_:=@List.mem_of_getElem?
abbrev n11_:=@PySem.Heap.lt_size
abbrev n12_:=@List.mem_cons
abbrev n13_:=@List.not_mem_nil
abbrev n14_:=@Nat.lt_of_lt_of_le
abbrev n15_:=@List.length_cons
abbrev n16_:=@Option.map_eq_some_iff
abbrev n17_:=@List.mem_cons_of_mem
abbrev n18_:=@Nat.le_of_ble_eq_true
abbrev n19_:=@List.getElem?_eq_some_iff
abbrev n20_:=@PySem.Builtin.SmallTypes.nextOf
abbrev n21_:=@Bool.false_eq_true
abbrev n22_:=@Nat.ne_of_lt
abbrev n23_:=@Bool.false_ne_true
abbrev n24_:=@decide_eq_true
abbrev n25_:=@decide_eq_false
abbrev n26_:=@List.length_append
abbrev n27_:=@List.mem_append_right
abbrev n28_:=@List.append_assoc
abbrev n29_:=@PySem.Builtin.SmallTypes.ownedTupleIsFree
abbrev n30_:=@Bool.and_eq_true
abbrev n31_:=@PySem.wpAny_holding
abbrev n32_:=@List.all_eq_true
abbrev n33_:=@Nat.le_trans
abbrev n34_:=@List.mem_range
abbrev n35_:=@of_decide_eq_true
abbrev n36_:=@PySem.mem_of_lookup
abbrev n37_:=@List.getElem_of_mem
abbrev n38_:=@PySem.W.mg_none_of
abbrev n39_:=@List.mem_singleton
abbrev n40_:=@List.mem_map
abbrev n41_:=@PySem.Heap.get?_update_other
abbrev n42_:=@Nat.zero_le
abbrev n43_:=@PyProof.Rows.callWith_type1
abbrev n44_:=@List.getElem_mem
abbrev n45_:=@PySem.wpAny_mono
abbrev n46_:=@List.map_cons
abbrev n47_:=@List.length_take
abbrev n48_:=@List.nodup_iff_pairwise_ne
abbrev n49_:=@List.mem_cons_self
abbrev n50_:=@PySem.Heap.get?_update_self
abbrev n51_:=@List.getElem?_zip_eq_some
abbrev n52_:=@List.take_of_length_le
abbrev n53_:=@List.length_nil
abbrev n54_:=@PySem.Heap.size_push
abbrev n55_:=@List.getElem?_append_right
abbrev n56_:=@Bool.eq_iff_iff
abbrev n57_:=@Int.toNat_natCast
abbrev n58_:=@List.getElem?_append_left
abbrev n59_:=@Nat.ne_of_gt
abbrev n60_:=@List.all_cons
abbrev n61_:=@Nat.pow_le_pow_right
abbrev n62_:=@List.mem_filterMap
abbrev n63_:=@PySem.W.kia_one
abbrev n64_:=@List.nodup_cons
abbrev n65_:=@List.nil_append
abbrev n66_:=@List.getElem_inj
abbrev n67_:=@List.replicate_succ
abbrev n68_:=@Nat.lt_succ_of_lt
abbrev n69_:=@Bool.eq_false_iff
abbrev n70_:=@List.length_filterMap_le
abbrev n71_:=@List.append_nil
abbrev n72_:=@List.cons_append
abbrev n73_:=@List.length_range
abbrev n74_:=@List.map_map
abbrev n75_:=@Option.toList_some
abbrev n76_:=@Nat.lt_of_le_of_lt
abbrev n77_:=@List.pairwise_iff_getElem
abbrev n78_:=@Nat.lt_irrefl
namespace L2
open PySem PySem.W PyProof.Rows
def topRunT (tb:String→Option Builtin) (p:Program) (w:World) (n0:Nat) (ann:Option Value):Nat→SharedT→Thread→Option SharedT
  | 0,_,_=>none
  | n+1,s,t=>match through t with
    | true=>some s
    | false=>match stepOk n0 ann t with
      | false=>none
      | true=>match stepT (denote tb) p w s t with
        | some (s',t')=>topRunT tb p w n0 ann n s' t'
        | none=>none
variable {α:Type} {w:World}
theorem Zg9 {tb:String→Option Builtin} {p:Program} {n0:Nat} {ann:Option Value}:∀ {n:Nat} {s s':SharedT} {t:Thread},topRunT tb p w n0 ann n s t=some s'→topRun tb p w n0 ann n s.abs t=some s'.abs
  | 0,_,_,_,h=>by cases h
  | n+1,s,s',t,h=>by
    unfold topRunT at h;unfold topRun;cases he:through t with
    | true=>rw [he] at h;cases h;rfl
    | false =>
      rw [he] at h;cases hk:stepOk n0 ann t with
      | false=>rw [hk] at h;cases h
      | true =>
        rw [hk] at h;cases hs:stepT (denote tb) p w s t with
        | none=>rw [hs] at h;cases h
        | some r=>obtain ⟨s2,t2⟩:=r;rw [hs] at h;rw [stepT_spec hs];exact Zg9 h
def btOf:List Obj→Nat→BT→BT
  | [],_,t=>t
  | o :: os,n,t=>btOf os (n+1) (t.ins n o)
theorem Zhz {p q:Program} {loose:List Str} {Xt:Shared→Bool} {Yf:Shared→α} {Ya:World→α} {N:Nat} {g0:Bool} {T0:Params→BT} {n0:Nat} {life:Life} {ann:Option Value}
    (e:opening p=plainProg p.main.scope.names) (hN:Nat.ble 600 N=true) (f:∀ s,fenceModules? p s=some s)
    (h0:∀ P,absHeap (T0 P) n0 life=boot_heap P)
    (size:∀ P,((boot_heap P).isNs mainGlobals,(boot_heap P).objs.size,(boot_heap P).nsMap mainGlobals "__annotations__")=(true,n0,ann))
    (run:∀ (w:World) (os:OsState),(topRunT treeTable p w n0 ann N ⟨T0 w.params,n0,life,Array.mk [],boot_drawn,boot_toks,os⟩ (topStub p)).map (fun s=>((staticsOk (importedModules p.main.body) (boot_heap w.params) s.abs.heap&&namesBound p s.abs.heap&&gensDone s.abs&&laidKept (boot_heap w.params) s.abs.heap),openSeen q loose (importedModules p.main.body) Xt g0 s.abs,Yf s.abs))=some (true,openGood q loose,Ya w)):LeftO p q loose Xt Yf Ya N g0:=fun w=>by
  obtain ⟨⟨h,gs,d,k,os⟩,e1,e2⟩:=n16_.mp (boot_open e hN f w);obtain ⟨rfl,rfl,rfl,rfl⟩:h=boot_heap w.params∧gs=Array.mk []∧d=boot_drawn∧k=boot_toks:=by simpa using e2
  obtain ⟨z1,z2,z3⟩:_∧_∧_:=by simpa only [Prod.mk.injEq] using size w.params
  obtain ⟨s,r1,r2⟩:=n16_.mp (run w os);obtain ⟨l1,l2,l3⟩:_∧_∧_:=by simpa only [Prod.mk.injEq] using r2
  have r:=Zg9 r1
  have ha:SharedT.abs ⟨T0 w.params,n0,life,Array.mk [],boot_drawn,boot_toks,os⟩=⟨boot_heap w.params,Array.mk [],boot_drawn,boot_toks,os⟩:=by
    unfold SharedT.abs;rw [h0]
  rw [ha] at r
  have t:topFrom treeTable p w N ⟨boot_heap w.params,Array.mk [],boot_drawn,boot_toks,os⟩=some s.abs:=by
    unfold topFrom;dsimp only;rw [z1,z2,z3,r];show (match staticsOk (importedModules p.main.body) (boot_heap w.params) s.abs.heap&&namesBound p s.abs.heap&&gensDone s.abs&&laidKept (boot_heap w.params) s.abs.heap with|true=>_|false=>_)=_
    rw [l1]
  unfold openEnds;rw [e1];show (topFrom treeTable p w N _).map _=_
  rw [t];exact congrArg some (Prod.ext l2 l3)
lay_quick L2.topRunT
end L2
namespace L2
open PySem PySem.W PyProof.Rows
variable {α:Type}
theorem Zgi {p q:Program} {loose:List Str} {Xt:Shared→Bool} {Yf:Shared→α} {Ya:World→α} {g0:Bool} {R:World→OsState→Option SharedT}
    (h1:∀ w os,(R w os).map (fun s=>(staticsOk (importedModules p.main.body) (boot_heap w.params) s.abs.heap&&namesBound p s.abs.heap&&gensDone s.abs&&laidKept (boot_heap w.params) s.abs.heap))=some true)
    (h2:∀ w os,(R w os).map (fun s=>openSeen q loose (importedModules p.main.body) Xt g0 s.abs)=some (openGood q loose))
    (h3:∀ w os,(R w os).map (fun s=>Yf s.abs)=some (Ya w)) (w:World) (os:OsState) :
    (R w os).map (fun s=>((staticsOk (importedModules p.main.body) (boot_heap w.params) s.abs.heap&&namesBound p s.abs.heap&&gensDone s.abs&&laidKept (boot_heap w.params) s.abs.heap),openSeen q loose (importedModules p.main.body) Xt g0 s.abs,Yf s.abs))=some (true,openGood q loose,Ya w):=by
  have a:=h1 w os;have b:=h2 w os;have c:=h3 w os;cases e:R w os with
  | none=>rw [e] at a;cases a
  | some s =>
    rw [e] at a b c;exact congrArg some (Prod.ext (Option.some.inj a) (Prod.ext (Option.some.inj b) (Option.some.inj c)))
noncomputable abbrev bootT (P:Params):BT:=btOf (boot_heap P).objs.toList 0 .nil
noncomputable def topK (p:Program) (N:Nat) (w:World) (os:OsState):Option SharedT:=topRunT treeTable p w 11 (some (.ref 6)) N ⟨bootT w.params,11,{},Array.mk [],boot_drawn,boot_toks,os⟩ (topStub p)
theorem Zo1:∀ P,absHeap (bootT P) 11 {}=boot_heap P:=fun P=>by kernel_rfl
theorem Zml:∀ P,((boot_heap P).isNs mainGlobals,(boot_heap P).objs.size,(boot_heap P).nsMap mainGlobals "__annotations__")=(true,11,some (.ref 6)):=fun P=>by kernel_rfl
noncomputable def Zrx (p:Program) (names:List Str):List Str:=((p.main.body.flatMap bindsAtTop).filter fun x=>!startupNames.contains x&&!names.contains x).eraseDups
end L2

namespace My
open PySem PySem.W PyProof.Rows L2
noncomputable abbrev pw:Program:=PySem.Challenge.pw_platerest_k61_turnings_judged
noncomputable abbrev rr:OpenRow:=OpenLaw.row PySem.Challenge.rw_platerest_k61_turnings_judged
noncomputable abbrev qq:Program:=view pw [55]
noncomputable abbrev ll:List Str:=Zrx pw ["law"]
set_option maxRecDepth 1000000
set_option maxHeartbeats 0
theorem ws:OpenLaw.wellSaid PySem.Challenge.rw_platerest_k61_turnings_judged=true:=by kernel_rfl
theorem h1:∀ w os,(topK pw 3706 w os).map (fun s=>(staticsOk (importedModules pw.main.body) (boot_heap w.params) s.abs.heap&&namesBound pw s.abs.heap&&gensDone s.abs&&laidKept (boot_heap w.params) s.abs.heap))=some true:=fun w os=>by
  unfold topK topStub;rw [PySem.W.Fast.te4652649595001227023,PySem.W.Fast.te14364793385576792824,PySem.W.Fast.te17154629097778926822,PySem.W.Fast.te12822647523644345616]
  kernel_rfl
theorem h2:∀ w os,(topK pw 3706 w os).map (fun s=>openSeen qq ll (importedModules pw.main.body) (fun s=>xlAt qq [] s&&recOk (RowW.records (OpenRow.toRowW rr)) s) true s.abs)=some (openGood qq ll):=fun w os=>by
  unfold topK topStub;rw [PySem.W.Fast.te4652649595001227023,PySem.W.Fast.te14364793385576792824,PySem.W.Fast.te17154629097778926822,PySem.W.Fast.te12822647523644345616,PySem.W.Fast.te4187177175401517315]
  kernel_rfl
end My
noncomputable section
set_option Elab.async false
set_option linter.all false
set_option maxRecDepth 100000
namespace L2
open PySem PySem.Spec PyProof.Rows
theorem z0_:0≤sizeLine:=by decide
theorem z1_:1≤sizeLine:=by decide
theorem z2_:2≤sizeLine:=by decide
theorem z3_:3≤sizeLine:=by decide
theorem z4_:4≤sizeLine:=by decide
theorem z5_:5≤sizeLine:=by decide
abbrev Key:=Sum Int Str
noncomputable def Zkn:Key→Value→Bool
 | .inl k,v=>Value.isInt k v
 | .inr x,v=>Value.isStrOf x v
def keyH (w:World):Key→Int
 | .inl k=>hashInt k
 | .inr x=>hashStr w x
theorem Yk:∀ {k:Key} {v:Value},Zkn k v=true→(∃ i t,k=Sum.inl i∧v=Value.int i t)∨(∃ x t,k=Sum.inr x∧v=Value.str x t)
 | .inl i,v,h=>by
   obtain ⟨t,e⟩:=Value.isInt_shape (k:=i) (v:=v) h;exact .inl ⟨i,t,rfl,e⟩
 | .inr x,v,h=>by
   obtain ⟨t,e⟩:=Value.isStrOf_shape (x:=x) (v:=v) h;exact .inr ⟨x,t,rfl,e⟩
theorem Zm6 (i:Int) (t:Tok):Zkn (.inl i) (.int i t)=true:=by simp [Zkn,Value.isInt]
theorem Zlp (x:Str) (t:Tok):Zkn (.inr x) (.str x t)=true:=by simp [Zkn,Value.isStrOf]
theorem Ztu (a b:Int):decide ((Sum.inl a:Key)=Sum.inl b)=(a == b):=by
 by_cases e:a=b
 · subst e;simp
 · have h:¬ (Sum.inl a:Key)=Sum.inl b:=fun q=>e (Sum.inl.inj q);rw [n25_ h];exact (beq_eq_false_iff_ne.mpr e).symm
theorem Zuk (a b:Str):decide ((Sum.inr a:Key)=Sum.inr b)=decide (a=b):=by
 by_cases e:a=b
 · subst e;simp
 · have h:¬ (Sum.inr a:Key)=Sum.inr b:=fun q=>e (Sum.inr.inj q);rw [n25_ h,n25_ e]
theorem Zuf (a:Int) (b:Str):decide ((Sum.inl a:Key)=Sum.inr b)=false:=n25_ (fun q=>nomatch q)
theorem Zt1 (a:Str) (b:Int):decide ((Sum.inr a:Key)=Sum.inl b)=false:=n25_ (fun q=>nomatch q)
def Yq (prog:Program) (w:World):PySem.KeyKind prog w Key where
 is:=Zkn
 hash:=keyH w
 inj:=fun v a b ha hb=>by
  rcases Yk ha with ⟨i,t,rfl,rfl⟩|⟨x,t,rfl,rfl⟩
  · rcases Yk hb with ⟨j,u,rfl,e⟩|⟨y,u,rfl,e⟩
    · injection e with e1 _;rw [e1]
    · exact nomatch e
  · rcases Yk hb with ⟨j,u,rfl,e⟩|⟨y,u,rfl,e⟩
    · exact nomatch e
    · injection e with e1 _;rw [e1]
 byValue:=fun k v h=>by
  rcases Yk h with ⟨i,t,rfl,rfl⟩|⟨x,t,rfl,rfl⟩<;>rfl
 pyHash:=fun hv h=>by
  rcases Yk hv with ⟨i,t,rfl,rfl⟩|⟨x,t,rfl,rfl⟩
  · exact wpAny_pyHash_int h
  · exact wpAny_pyHash_str h
 eqBool:=fun hu hv h=>by
  rcases Yk hu with ⟨i,t,rfl,rfl⟩|⟨x,t,rfl,rfl⟩
  · rcases Yk hv with ⟨j,u,rfl,rfl⟩|⟨y,u,rfl,rfl⟩
    · rw [Ztu] at h;exact wpAny_eqBool_int h
    · rw [Zuf] at h;exact SeqAt.EqAt.int_str i t y u _ _ _ _ h
  · rcases Yk hv with ⟨j,u,rfl,rfl⟩|⟨y,u,rfl,rfl⟩
    · rw [Zt1] at h;exact SeqAt.EqAt.str_int x t j u _ _ _ _ h
    · rw [Zuk] at h;exact wpAny_eqBool_str h
 «strs»:=fun k x t v h=>by
  rcases Yk h with ⟨i,u,rfl,e⟩|⟨y,u,rfl,e⟩
  · exact nomatch e
  · injection e with e1 _
    subst e1;cases v<;>rfl
theorem Zit (prog:Program) (w:World) (i:Int) (t:Tok):(Yq prog w).is (.inl i) (.int i t)=true:=Zm6 i t
theorem Zix (prog:Program) (w:World) (x:Str) (t:Tok):(Yq prog w).is (.inr x) (.str x t)=true:=Zlp x t
inductive V where
 | non|bl (b:Bool)|int (i:Int)|str (x:Str)|byt (b:Array UInt8)|flt (b:UInt64)|ref (a:Addr)|ty (n:String)
 deriving DecidableEq
def RelV:V→Value→Prop
 | .non,u=>u=Value.none
 | .bl b,u=>u=Value.bool b
 | .int i,u=>∃ t,u=Value.int i t
 | .str x,u=>∃ t,u=Value.str x t
 | .byt b,u=>∃ t,u=Value.bytes b t
 | .flt b,u=>∃ t,u=Value.float b t
 | .ref a,u=>u=Value.ref a
 | .ty n,u=>u=Value.type n
abbrev Vals:List V→List Value→Prop:=Paired RelV
variable {α:Type} {C a b e f it:Addr} {A:Around} {X:Cx} {tg:Expr} {fd:FuncData} {h:Heap} {H H':Hp} {pins:List (Addr×Obj)} {ch fp:List Addr} {N ps:List Str} {vs xs:List V} {its us:List Value} {i k n t':Nat} {o:Obj} {pos:Pos} {P:Program} {scope:Scope} {s:Shared} {σ:St} {qual x:Str} {ta:TA} {g:TG} {v y:V} {u:Value} {E Q:Value→Shared→Prop} {w:World}
theorem Vals.length (r:Vals xs us):xs.length=us.length:=Paired.length r
theorem Vals.get:∀ {xs:List V} {us:List Value} {i:Nat} {x:V},Vals xs us→xs[i]? = some x→∃ u,us[i]? = some u∧RelV x u
 | _,_,_,_,.nil,e=>by simp at e
 | _,_,0,_,.cons r _,e=>by simp at e;subst e;exact ⟨_,rfl,r⟩
 | _,_,i+1,x,.cons _ t,e=>by
   obtain ⟨u,h1,h2⟩:=Vals.get (i:=i) (x:=x) t (by simpa using e);exact ⟨u,by simpa using h1,h2⟩
theorem Vals.set {x:V} (r:RelV x u):∀ {xs:List V} {us:List Value} (i:Nat),Vals xs us→Vals (xs.set i x) (us.set i u)
 | _,_,_,.nil=>.nil
 | _,_,0,.cons _ t=>.cons r t
 | _,_,i+1,.cons q t=>.cons q (Vals.set r i t)
theorem Vals.append:∀ {xs ys:List V} {us ws:List Value},Vals xs us→Vals ys ws→Vals (xs++ys) (us++ws)
 | _,_,_,_,.nil,s=>s
 | _,_,_,_,.cons r t,s=>.cons r (Vals.append t s)
theorem Vals.take:∀ {xs:List V} {us:List Value} (n:Nat),Vals xs us→Vals (xs.take n) (us.take n)
 | _,_,0,_=>.nil
 | _,_,_+1,.nil=>.nil
 | _,_,n+1,.cons r t=>.cons r (Vals.take n t)
theorem Vals.drop:∀ {xs:List V} {us:List Value} (n:Nat),Vals xs us→Vals (xs.drop n) (us.drop n)
 | _,_,0,r=>r
 | _,_,_+1,.nil=>.nil
 | _,_,n+1,.cons _ t=>Vals.drop n t
def RelO:Option V→Option Value→Prop
 | some v,some u=>RelV v u
 | none,none=>True
 | _,_=>False
def KV {κ:Type}:List (κ×V)→List (κ×Value)→Prop:=Paired fun (p:κ×V) (q:κ×Value)=>p.1=q.1∧RelV p.2 q.2
noncomputable def kV:Key→V
 | .inl i=>.int i
 | .inr x=>.str x
inductive HO where
 | lst (xs:List V)
 | tup (xs:List V)
 | dK (kvs:List (Key×V))|dT (kvs:List (List Key×V))
 | set (S:Int→Bool) (n:Nat)
 | ins (C dx:Addr) (fs:List (Str×V))
 | own (x:Addr)
 | xd (fs:List (Str×V))
 | met (f x:Addr)
 | rng (lo hi:Int)
 | frz (o:Obj) (u:HO)
 | tbl (ps:Array Value)
 | ext (φ:Heap→Prop)
abbrev Hp:=Addr→Option HO
noncomputable def upd (H:Hp) (a:Addr) (o:HO):Hp:=fun b=>if b=a then some o else H b
theorem Zc {o:HO}:upd H a o a=some o:=by unfold upd;rw [if_pos rfl]
theorem Zj {o:HO} (h:b≠a):upd H a o b=H b:=by unfold upd;rw [if_neg h]
theorem Zsa {o u:HO}:upd (upd H a o) a u=upd H a u:=by
 funext b;unfold upd;split<;>rfl
theorem Zfk {o u:HO} (h:H a=some o) (h':H b=some u) (d:o≠u):a≠b:=by
 intro e;subst e;rw [h] at h';exact d (Option.some.inj h')
theorem Zm {o:HO} (h:H a=some o) (h':H b=none):a≠b:=by
 intro e;subst e;rw [h] at h';cases h'
section
variable (P:Program) (w:World)
def ObjOk (H:Hp) (h:Heap) (a:Addr):HO→Prop
 | .lst xs=>xs.length≤sizeLine∧∃ (its:List Value) (n:Nat),Vals xs its∧h.get? a=some { cls:=.type "list",data:=.seq its.toArray n }
 | .tup xs=>xs.length≤sizeLine∧∃ its:List Value,Vals xs its∧IsTup h a its.toArray
 | .dK kvs=>kvs.length≤sizeLine∧(a == sysModules)=false∧∃ vs,KV kvs vs∧h.DictOf (Yq P w) a vs
 | .dT kvs=>kvs.length≤sizeLine∧(a == sysModules)=false∧∃ xs:List (List Key×Addr×Value),
    Paired (fun (p:List Key×V) (q:List Key×Addr×Value)=>p.1=q.1∧H q.2.1=some (.tup (p.1.map kV))∧RelV p.2 q.2.2) kvs xs ∧
    ∃ o es ep,h.get? a=some o∧o.ExactDict∧o.data=.dict es ep∧es.toList=xs.map (entryOfKey (tupleKind (Yq P w)))∧(xs.map (·.1)).Nodup
 | .set S n=>h.SetOf (intKind P w) a S n
 | .ins C dx fs=>H dx=some (.own a)∧fs.length≤1000∧dx≠a∧h.get? a=some (PySem.W.instObj C dx) ∧
    ∃ mA,h.Ns1 dx mA∧(∀ f,RelO (fs.lookup f) (mA f))∧PySem.Within mA (fs.map (·.1))
 | .own _=>∃ o,h.get? a=some o
 | .xd fs=>∃ mA,h.Ns1 a mA∧∀ f,RelO (fs.lookup f) (mA f)
 | .rng lo hi=>∃ t u v,h.get? a=some { cls:=.type "range",data:=.fields #[.int lo t,.int hi u,.int 1 v] }
 | .frz o u=>h.get? a=some o∧ObjOk H h a u
 | .tbl ps=>h.get? a=some { cls:=.none,data:=.fields ps }
 | .met f x=>h.get? a=some (PySem.W.methodObj (.ref f) (.ref x))
 | .ext φ=>φ h∧(∃ o,h.get? a=some o)∧∀ h1 h2:Heap,φ h1→(∀ o,h1.get? a=some o→h2.get? a=some o)→φ h2
def HOk (H:Hp) (h:Heap):Prop:=∀ a o,H a=some o→ObjOk P w H h a o
end
section
variable {P:Program} {w:World} {H H':Hp} {h h':Heap} {a:Addr} {o:HO}
theorem ObjOk.lt (x:ObjOk P w H h a o):a<h.objs.size:=by
 cases o with
 | lst xs=>obtain ⟨_,_,_,_,e⟩:=x;exact n11_ e
 | tup xs=>obtain ⟨_,_,_,p⟩:=x;exact p.lt
 | dK kvs=>obtain ⟨_,_,_,_,o,_,_,e,_⟩:=x;exact n11_ e
 | dT kvs=>obtain ⟨_,_,_,_,o,_,_,e,_⟩:=x;exact n11_ e
 | set S n=>obtain ⟨o,_,_,_,e,_⟩:=x;exact n11_ e
 | ins C dx fs=>obtain ⟨_,_,_,e,_⟩:=x;exact n11_ e
 | own y=>obtain ⟨_,e⟩:=x;exact n11_ e
 | xd fs=>obtain ⟨_,⟨_,_,_,e,_⟩,_⟩:=x;exact n11_ e
 | rng lo hi=>obtain ⟨_,_,_,e⟩:=x;exact n11_ e
 | frz ob u=>obtain ⟨e,_⟩:=x;exact n11_ e
 | tbl ps=>exact n11_ (show h.get? a=some _ from x)
 | met f y=>exact n11_ (show h.get? a=some _ from x)
 | ext φ=>obtain ⟨_,⟨_,e⟩,_⟩:=x;exact n11_ e
theorem Paired.mapP {β:Type} {F G:α→β→Prop}:∀ {l₁:List α} {l₂:List β},Paired F l₁ l₂→(∀ a b,F a b→G a b)→Paired G l₁ l₂
 | _,_,.nil,_=>.nil
 | _,_,.cons r t,f=>.cons (f _ _ r) (Paired.mapP t f)
theorem ObjOk.stay (x:ObjOk P w H h a o) (k:∀ b u,(b=a∨H b=some (.own a))→h.get? b=some u→h'.get? b=some u)
 (ho:∀ b,H b=some (.own a)→H' b=some (.own a)) (ht:∀ b xs,H b=some (.tup xs)→H' b=some (.tup xs)):ObjOk P w H' h' a o:=by
 induction o with
 | lst xs=>obtain ⟨z,its,n,r,e⟩:=x;exact ⟨z,its,n,r,k _ _ (.inl rfl) e⟩
 | tup xs=>obtain ⟨z,its,r,ob,e,c⟩:=x;exact ⟨z,its,r,ob,k _ _ (.inl rfl) e,c⟩
 | dK kvs=>obtain ⟨z,y,vs,r,ob,es,ep,e,c⟩:=x;exact ⟨z,y,vs,r,ob,es,ep,k _ _ (.inl rfl) e,c⟩
 | dT kvs =>
   obtain ⟨z,y,xs,r,ob,es,ep,e,c⟩:=x;exact ⟨z,y,xs,Paired.mapP r fun p q z=>⟨z.1,ht _ _ z.2.1,z.2.2⟩,ob,es,ep,k _ _ (.inl rfl) e,c⟩
 | set S n=>obtain ⟨ob,es,ep,t,e,c⟩:=x;exact ⟨ob,es,ep,t,k _ _ (.inl rfl) e,c⟩
 | ins C dx fs =>
   obtain ⟨d,z,ne,e,mA,⟨od,es,ep,e2,c⟩,r⟩:=x;exact ⟨ho _ d,z,ne,k _ _ (.inl rfl) e,mA,⟨od,es,ep,k _ _ (.inr d) e2,c⟩,r⟩
 | own y=>obtain ⟨ob,e⟩:=x;exact ⟨ob,k _ _ (.inl rfl) e⟩
 | xd fs=>obtain ⟨mA,⟨od,es,ep,e,c⟩,r⟩:=x;exact ⟨mA,⟨od,es,ep,k _ _ (.inl rfl) e,c⟩,r⟩
 | rng lo hi=>obtain ⟨t,u,v,e⟩:=x;exact ⟨t,u,v,k _ _ (.inl rfl) e⟩
 | frz ob u ih=>obtain ⟨e,q⟩:=x;exact ⟨k _ _ (.inl rfl) e,ih q⟩
 | tbl ps =>
   have e:h.get? a=some { cls:=.none,data:=.fields ps }:=x;show h'.get? a=some { cls:=.none,data:=.fields ps }
   exact k a _ (.inl rfl) e
 | met f y =>
   have e:h.get? a=some (PySem.W.methodObj (.ref f) (.ref y)):=x;show h'.get? a=some (PySem.W.methodObj (.ref f) (.ref y))
   exact k a _ (.inl rfl) e
 | ext φ=>obtain ⟨p,⟨o,e⟩,st⟩:=x;exact ⟨st _ _ p fun o q=>k _ _ (.inl rfl) q,⟨o,k _ _ (.inl rfl) e⟩,st⟩
theorem HOk.lt (x:HOk P w H h) (e:H a=some o):a<h.objs.size:=(x a o e).lt
theorem HOk.fresh (x:HOk P w H h) (e:h.objs.size≤a):H a=none:=by
 cases q:H a with
 | none=>rfl
 | some u=>exact absurd (n14_ (x.lt q) e) (n78_ _)
theorem HOk.kept (x:HOk P w H h) (k:∀ b u,h.get? b=some u→h'.get? b=some u):HOk P w H h':=fun a o e =>
 (x a o e).stay (fun b u _ q=>k b u q) (fun _ q=>q) fun _ _ q=>q
theorem HOk.laid (x:HOk P w H h) (k:∀ b u,h.get? b=some u→h'.get? b=some u) (hp:h.objs.size≤a) (new:ObjOk P w (upd H a o) h' a o):HOk P w (upd H a o) h':=fun b u e=>by
 have hn:=x.fresh hp
 by_cases hb:b=a
 · subst hb;rw [Zc] at e;cases e;exact new
 · rw [Zj hb] at e;exact (x b u e).stay (fun c v _ q=>k c v q) (fun c q=>by rw [Zj (Zm q hn)];exact q) fun c xs q=>by rw [Zj (Zm q hn)];exact q
end
def Rd (H:Hp) (a:Addr) (u:HO):Prop:=H a=some u∨∃ o,H a=some (.frz o u)
theorem Rd.ok {u:HO} (r:Rd H a u) (x:HOk P w H h):ObjOk P w H h a u:=by
 rcases r with r|⟨o,r⟩
 · exact x a u r
 · obtain ⟨_,q⟩:=x a _ r;exact q
def Mut:Option HO→Prop
 | some (.lst _)=>True
 | some (.dK _)=>True
 | some (.dT _)=>True
 | some (.set _ _)=>True
 | some (.ins _ _ _)=>True
 | some (.ext _)=>True
 | _=>False
section
variable {P:Program} {w:World} {H:Hp} {h h':Heap} {x e:Addr} {o':HO}
theorem HOk.write (ok:HOk P w H h) (mu:Mut (H x)) (he:e=x∨H e=some (.own x)) (k:∀ b u,b≠e→h.get? b=some u→h'.get? b=some u) (heo:∃ u,h'.get? e=some u)
 (new:ObjOk P w (upd H x o') h' x o'):HOk P w (upd H x o') h':=fun b u q=>by
 have nown:∀ c y,H c=some (.own y)→c≠x:=fun c y r z=>by subst z;rw [r] at mu;exact mu
 have ntup:∀ c xs,H c=some (.tup xs)→c≠x:=fun c xs r z=>by subst z;rw [r] at mu;exact mu
 by_cases hb:b=x
 · subst hb;rw [Zc] at q;cases q;exact new
 · rw [Zj hb] at q
   by_cases hbe:b=e
   · have q':H b=some (.own x):=by
      rcases he with z|z
      · exact absurd (hbe.trans z) hb
      · rw [hbe];exact z
     rw [q] at q';cases q';obtain ⟨v,hv⟩:=heo;exact ⟨v,by rw [hbe];exact hv⟩
   · refine (ok b u q).stay (fun c v hc r=>k c v ?_ r) (fun c r=>by rw [Zj (nown c b r)];exact r) fun c xs r=>by rw [Zj (ntup c xs r)];exact r
     rcases hc with rfl|hc
     · exact hbe
     · rintro rfl
       rcases he with z|z
       · exact nown c b hc z
       · rw [hc] at z;cases z;exact hb rfl
end
structure Un (fs ex:List Addr) (H H':Hp) (h h':Heap):Prop where
 keep:∀ b o,h.get? b=some o→H b=none→b∉fs→b∉ex→h'.get? b=some o
 slot:∀ b o,h.get? b=some o→H b=none→b∈fs→b∉ex→∃ sl,h'.get? b=some { o with slots:=sl }
 free:∀ b o,h.get? b=some o→H b=none→b∉ex→H' b=none
 there:∀ b o,h.get? b=some o→b∉ex→∃ o',h'.get? b=some o'
 tups:∀ b xs,H b=some (.tup xs)→H' b=some (.tup xs)
 frzs:∀ b o u,H b=some (.frz o u)→H' b=some (.frz o u)
 tbls:∀ b ps,H b=some (.tbl ps)→∃ more,H' b=some (.tbl (ps++more))
section
variable {fs fs' ex ex':List Addr} {H H1 H2:Hp} {h h1 h2 h':Heap} {a x e:Addr} {o:HO}
theorem Un.any (u:Un fs ex H H1 h h1) {ob:Obj} (q:h.get? b=some ob) (n:H b=none) (hx:b∉ex):∃ sl,h1.get? b=some { ob with slots:=sl }:=by
 by_cases hb:b∈fs
 · exact u.slot b ob q n hb hx
 · exact ⟨ob.slots,u.keep b ob q n hb hx⟩
theorem Un.kept (k:∀ b u,h.get? b=some u→h'.get? b=some u):Un fs ex H H h h' :=
 ⟨fun b ob q _ _ _=>k b ob q,fun b ob q _ _ _=>⟨ob.slots,k b ob q⟩,fun _ _ _ n _=>n,fun b ob q _=>⟨ob,k b ob q⟩,fun _ _ q=>q,fun _ _ _ q=>q,fun _ ps q=>⟨#[],by rw [q];simp⟩⟩
theorem Un.refl:Un fs ex H H h h:=Un.kept fun _ _ q=>q
theorem Un.laid (k:∀ b u,h.get? b=some u→h'.get? b=some u) (hp:h.objs.size≤a) (hn:H a=none):Un fs ex H (upd H a o) h h' where
 keep:=fun b u q _ _ _=>k b u q
 slot:=fun b u q _ _ _=>⟨u.slots,k b u q⟩
 free:=fun b u q n _=>by rw [Zj (n22_ (n14_ (n11_ q) hp))];exact n
 there:=fun b u q _=>⟨u,k b u q⟩
 tups:=fun b xs q=>by rw [Zj (Zm q hn)];exact q
 frzs:=fun b u xs q=>by rw [Zj (Zm q hn)];exact q
 tbls:=fun b ps q=>⟨#[],by rw [Zj (Zm q hn),q];simp⟩
theorem Un.write (mu:Mut (H x)) (he:e=x∨H e=some (.own x)) (k:∀ b u,b≠e→h.get? b=some u→h'.get? b=some u) (heo:∃ u,h'.get? e=some u):Un fs ex H (upd H x o) h h':=by
 have hx:∀ b,H b=none→b≠x:=fun b n z=>by subst z;rw [n] at mu;exact mu
 have hb:∀ b,H b=none→b≠e:=fun b n z=>by
  subst z
  rcases he with r|r
  · exact hx b n r
  · rw [n] at r;cases r
 have hm:∀ b u,H b=some u→¬ Mut (some u)→b≠x:=fun b u q nm z=>by subst z;rw [q] at mu;exact nm mu
 refine ⟨fun b u q n _ _=>k b u (hb b n) q,fun b u q n _ _=>⟨u.slots,k b u (hb b n) q⟩,fun b u q n _=>by rw [Zj (hx b n)];exact n,fun b u q _=>?_,
  fun b xs q=>by rw [Zj (hm b _ q fun z=>z)];exact q,fun b u xs q=>by rw [Zj (hm b _ q fun z=>z)];exact q,fun b ps q=>⟨#[],by rw [Zj (hm b _ q fun z=>z),q];simp⟩⟩
 by_cases hbe:b=e
 · subst hbe;exact heo
 · exact ⟨u,k b u hbe q⟩
end
noncomputable def trk (h:Heap) (H:Hp):List Addr:=(List.range h.objs.size).filter fun a=>(H a).isSome
def hidT (h:Heap) (H:Hp):Heap:=PySem.W.hideAll h (trk h H)
theorem Zn5 (h:Heap) (H:Hp):(hidT h H).objs.size=h.objs.size:=PySem.W.hideAll_size _ _
theorem Zoh (e:h.get? b=some o) (n:H b=none):(hidT h H).get? b=some o :=
 PySem.W.hideAll_get _ e fun hm=>by
  have q:(H b).isSome=true:=(List.mem_filter.mp hm).2;rw [n] at q;simp at q
theorem Zra (e:(hidT h H).get? b=some o):h.get? b=some o∧H b=none:=by
 have e':h.get? b=some o:=PySem.W.of_hideAll (trk h H) e;refine ⟨e',?_⟩;cases q:H b with
 | none=>rfl
 | some x =>
   have hm:b∈trk h H:=List.mem_filter.mpr ⟨n34_.mpr (n11_ e'),by simp [q]⟩;have z:(hidT h H).get? b=none:=PySem.W.hideAll_none (trk h H) hm;rw [z] at e;cases e
structure Mod (K:PySem.W.Frag) (mg:Str→Option Value) (base:Heap):Prop where
 kin:K.In base
 glob:base.Ns mainGlobals mg
 blt:∃ mb,base.Ns builtinsNs mb∧∀ x:Str,x ≠ "__name__" → mb x=bootBuiltins x
 nolimit:base.NoLimit
structure Cx where
 prog:Program
 w:World
 K:PySem.W.Frag
 mg:Str→Option Value
 base:Heap
 A:Around
 N:List Str
 s₀:Shared
 H₀:Hp
 env:Env
 outer:List Env
 stack:List Env
 ex:List Addr
 fn:Str→Bool
 calm:Bool
 pn:List (Addr×Obj)
 xe:Value→Shared→Prop
noncomputable def frs (l:List Env):List Addr:=l.filterMap (·.frame)
abbrev Cx.fs (X:Cx):List Addr:=frs X.outer
def Vis (sc:Scope) (x:Str):Prop:=sc.names.lookup x=some .local∨sc.names.lookup x=some .cell∨sc.names.lookup x=some .free
def Loc (sc:Scope) (x:Str):Prop:=sc.names.lookup x=some .local∨sc.names.lookup x=some .cell
def Look (env:Env) (h:Heap) (m:Str→Option Value) (x:Str) (u:Value):Prop :=
 (env.kindOf x=some .local∧m x=some u)∨((env.kindOf x=some .cell∨env.kindOf x=some .free)∧∃ c,env.cells.lookup x=some c∧h.IsCell c (some u))
structure Cx.Ok (X:Cx):Prop where
 mod:Mod X.K X.mg X.base
 kind:X.env.scope.kind=.function
 glob:X.env.globals=mainGlobals
 blt:X.env.builtins=builtinsNs
 above:X.s₀.z≤X.env.locals
 inj:∀ x y c,X.env.cells.lookup x=some c→X.env.cells.lookup y=some c→x=y
 has:∀ x,(X.env.kindOf x=some .cell∨X.env.kindOf x=some .free)→∃ c,X.env.cells.lookup x=some c
 cab:∀ x c,X.fn x=true→X.env.cells.lookup x=some c→X.s₀.z≤c
 hd:X.calm=true→X.A.handled=none
 frames:X.A.frames=some X.stack
 stk:X.stack=X.outer∨(X.stack=X.env :: X.outer∧X.env.frame=some X.env.locals)
 exf:∀ b∈X.ex,b≠X.env.locals∧∀ x c,X.env.cells.lookup x=some c→c≠b
 bs:∀ b o,X.base.get? b=some o→X.s₀.heap.get? b=some o∧X.H₀ b=none
 bsz:X.base.objs.size≤X.s₀.z
 noex:∀ b o,X.base.get? b=some o→b∉X.ex
 exfs:∀ b∈X.ex,b∉X.fs
 funs:X.s₀.heap.FunFrames X.base X.outer
 frf:∀ b∈X.fs,X.H₀ b=none
structure Inv (X:Cx) (pins:List (Addr×Obj)) (σ:List (Option V)) (H:Hp) (s:Shared):Prop where
 ok:X.Ok
 os:s.os=X.s₀.os
 bare:AllBare s.gens
 base:Un X.fs X.ex X.H₀ H X.s₀.heap s.heap
 loc:∃ m,s.heap.Ns X.env.locals m∧∀ (i:Nat) (x:Str) (v:V),X.N[i]? = some x→σ[i]? = some (some v)→Vis X.env.scope x→∃ u,RelV v u∧Look X.env s.heap m x u
 cell:∀ x c,X.env.cells.lookup x=some c→∃ v,s.heap.IsCell c v
 free:H X.env.locals=none
 freeC:∀ x c,X.env.cells.lookup x=some c→H c=none
 pin:∀ p∈X.pn++pins,s.heap.get? p.1=some p.2∧H p.1=none∧p.1≠X.env.locals∧p.1∉X.fs∧∀ v,p.2.data≠.cell v
 hok:HOk X.prog X.w H s.heap
 len:σ.length=X.N.length
section
variable {X:Cx} {pins:List (Addr×Obj)} {σ:List (Option V)} {H H':Hp} {s:Shared} {h':Heap}
theorem Cx.Ok.nofr (ok:X.Ok) (e:X.base.get? b=some o):b∉X.fs:=fun hb=>by
 have:=(ok.funs.mem hb).1
 rw [e] at this;cases this
theorem Inv.bs (I:Inv X pins σ H s):∀ b o,X.base.get? b=some o→s.heap.get? b=some o∧H b=none:=fun b o e =>
 ⟨I.base.keep b o (I.ok.bs b o e).1 (I.ok.bs b o e).2 (I.ok.nofr e) (I.ok.noex b o e),I.base.free b o (I.ok.bs b o e).1 (I.ok.bs b o e).2 (I.ok.noex b o e)⟩
theorem Inv.bk (I:Inv X pins σ H s):∀ b o,X.base.get? b=some o→s.heap.get? b=some o:=fun b o e=>(I.bs b o e).1
theorem Inv.mod (I:Inv X pins σ H s):Mod X.K X.mg X.base:=I.ok.mod
theorem Inv.kIn (I:Inv X pins σ H s):X.K.In s.heap:=I.ok.mod.kin.keeps I.bk
theorem Inv.lt (I:Inv X pins σ H s):X.env.locals<s.z:=let ⟨_,hn,_⟩:=I.loc;hn.lt
theorem Inv.sz (I:Inv X pins σ H s):X.s₀.z≤s.z:=n33_ I.ok.above (Nat.le_of_lt I.lt)
theorem Inv.nofs (I:Inv X pins σ H s) (h:s.z≤a):a∉X.fs:=fun hb=>by
 obtain ⟨_,o,ho,_⟩:=I.ok.funs.mem hb;exact absurd (n14_ (n11_ ho) (n33_ I.sz h)) (n78_ _)
theorem Inv.cne (I:Inv X pins σ H s):∀ x c,X.env.cells.lookup x=some c→c≠X.env.locals:=fun x c e z=>by
 obtain ⟨v,o,ho,hd⟩:=I.cell x c e;obtain ⟨m,⟨o',es,ep,ho',hd',_⟩,_⟩:=I.loc;rw [z,ho'] at ho;cases ho;rw [hd'] at hd;cases hd
theorem Inv.funs (I:Inv X pins σ H s):s.heap.FunFrames X.base X.outer:=by
 have all:∀ (l:List Env),(∀ b∈frs l,b∈X.fs)→X.s₀.heap.FunFrames X.base l→s.heap.FunFrames X.base l:=by
  intro l
  induction l with
  | nil=>intro _ _;trivial
  | cons env r ih =>
    intro hs hl;obtain ⟨hk,⟨L,o,hf,hn,ho,hd⟩,hr⟩:=hl;have hL:L∈X.fs:=hs L (by unfold frs;rw [List.filterMap_cons,hf];exact n49_);obtain ⟨sl,e⟩:=I.base.slot L o ho (I.ok.frf L hL) hL fun z=>I.ok.exfs L z hL;exact ⟨hk,⟨L,_,hf,hn,e,hd⟩,ih (fun b hb=>hs b (by unfold frs;rw [List.filterMap_cons,hf];exact n17_ _ hb)) hr⟩
 exact all X.outer (fun _ hb=>hb) I.ok.funs
theorem Inv.stack (I:Inv X pins σ H s):s.heap.FunFrames X.base X.stack:=by
 rcases I.ok.stk with e|⟨e,hf⟩
 · rw [e];exact I.funs
 · rw [e];obtain ⟨m,hn,_⟩:=I.loc;refine .cons (by rw [I.ok.kind];decide) hf hn ?_ I.funs;exact Heap.get?_none_of_le (n33_ I.ok.bsz I.ok.above)
theorem Inv.stkSub (I:Inv X pins σ H s):∀ b∈frs X.stack,b∈X.env.locals :: X.fs:=fun b hb=>by
 rcases I.ok.stk with e|⟨e,hf⟩
 · rw [e] at hb;exact n17_ _ hb
 · rw [e] at hb;unfold frs at hb;rw [List.filterMap_cons,hf] at hb;exact hb
theorem Inv.stkFree (I:Inv X pins σ H s):∀ b∈frs X.stack,H b=none:=fun b hb=>by
 rcases n12_.mp (I.stkSub b hb) with e|hb
 · rw [e];exact I.free
 · obtain ⟨_,o,ho,_⟩:=I.ok.funs.mem hb;exact I.base.free b o ho (I.ok.frf b hb) fun z=>I.ok.exfs b z hb
theorem Inv.step {g':Array GenState} {d':Drawn} (I:Inv X pins σ H s)
 (hch:∀ b∈ch,(b∈X.ex∨X.s₀.z≤b)∧b≠X.env.locals∧(∀ x c,X.env.cells.lookup x=some c→c≠b)∧∀ p∈X.pn++pins,p.1≠b)
 (keep:∀ b o,b≠X.env.locals→b∉X.fs→b∉ch→s.heap.get? b=some o→H b=none→h'.get? b=some o)
 (slot:∀ b o,b≠X.env.locals→b∈X.fs→b∉ch→s.heap.get? b=some o→H b=none→∃ sl,h'.get? b=some { o with slots:=sl }) (free:∀ b o,b∉ch→s.heap.get? b=some o→H b=none→H' b=none)
 (there:∀ b o,b∉ch→s.heap.get? b=some o→∃ o',h'.get? b=some o')
 (tups:∀ b xs,H b=some (.tup xs)→H' b=some (.tup xs)) (frzs:∀ b o u,H b=some (.frz o u)→H' b=some (.frz o u)) (tbls:∀ b ps,H b=some (.tbl ps)→∃ more,H' b=some (.tbl (ps++more)))
 (ns:∀ m,s.heap.Ns X.env.locals m→h'.Ns X.env.locals m) (hok:HOk X.prog X.w H' h') (hg:AllBare g') :
 Inv X pins σ H' { s with heap:=h',gens:=g',drawn:=d',toks:=t' }:=by
 have neL:∀ b o,X.s₀.heap.get? b=some o→b≠X.env.locals:=fun b o e=>n22_ (n14_ (n11_ e) I.ok.above)
 have neC:∀ b o,X.s₀.heap.get? b=some o→b∉X.ex→b∉ch:=fun b o e hx hb=>by
  rcases (hch b hb).1 with z|z
  · exact hx z
  · exact absurd (n14_ (n11_ e) z) (n78_ _)
 have cellK:∀ x c,X.env.cells.lookup x=some c→∀ v,s.heap.IsCell c v→h'.IsCell c v:=fun x c e v ⟨o,ho,hd⟩=>by
  have nch:c∉ch:=fun z=>(hch c z).2.2.1 x c e rfl
  by_cases hc:c∈X.fs
  · obtain ⟨sl,q⟩:=slot c o (I.cne x c e) hc nch ho (I.freeC x c e);exact ⟨_,q,hd⟩
  · exact ⟨o,keep c o (I.cne x c e) hc nch ho (I.freeC x c e),hd⟩
 refine ⟨I.ok,I.os,hg,⟨fun b o e n hb hx=>?_,fun b o e n hb hx=>?_,fun b o e n hx=>?_,fun b o e hx=>?_,fun b xs e=>tups b xs (I.base.tups b xs e),fun b o xs e=>frzs b o xs (I.base.frzs b o xs e),fun b ps e=>?_⟩,?_,fun x c e=>?_,?_,fun x c e=>?_,fun p hp=>?_,hok,I.len⟩
 · exact keep b o (neL b o e) hb (neC b o e hx) (I.base.keep b o e n hb hx) (I.base.free b o e n hx)
 · obtain ⟨sl,e1⟩:=I.base.slot b o e n hb hx;obtain ⟨sl',e2⟩:=slot b _ (neL b o e) hb (neC b o e hx) e1 (I.base.free b o e n hx);exact ⟨sl',e2⟩
 · obtain ⟨o',e1⟩:=I.base.there b o e hx;exact free b o' (neC b o e hx) e1 (I.base.free b o e n hx)
 · obtain ⟨o',e1⟩:=I.base.there b o e hx;exact there b o' (neC b o e hx) e1
 · obtain ⟨m1,e1⟩:=I.base.tbls b ps e;obtain ⟨m2,e2⟩:=tbls b _ e1;exact ⟨m1++m2,by rw [e2,Array.append_assoc]⟩
 · obtain ⟨m,hn,hl⟩:=I.loc;refine ⟨m,ns m hn,fun i x v e1 e2 e3=>?_⟩;obtain ⟨u,r,l⟩:=hl i x v e1 e2 e3;refine ⟨u,r,?_⟩
   rcases l with l|⟨k,c,e,z⟩
   · exact .inl l
   · exact .inr ⟨k,c,e,cellK x c e _ z⟩
 · obtain ⟨v,z⟩:=I.cell x c e;exact ⟨v,cellK x c e v z⟩
 · obtain ⟨m,⟨o,_,_,ho,_⟩,_⟩:=I.loc;exact free _ o (fun z=>(hch _ z).2.1 rfl) ho I.free
 · obtain ⟨v,o,ho,hd⟩:=I.cell x c e;exact free c o (fun z=>(hch c z).2.2.1 x c e rfl) ho (I.freeC x c e)
 · obtain ⟨e,n,ne,nf,d⟩:=I.pin p hp;have nch:p.1∉ch:=fun z=>(hch p.1 z).2.2.2 p hp rfl;exact ⟨keep p.1 p.2 ne nf nch e n,free p.1 p.2 nch e n,ne,nf,d⟩
theorem Inv.un (I:Inv X pins σ H s) (u:Un X.fs [] H H' s.heap h') (hok:HOk X.prog X.w H' h'):Inv X pins σ H' { s with heap:=h',toks:=t' }:=by
 obtain ⟨m,⟨o,es,ep,ho,r⟩,_⟩:=id I.loc;obtain ⟨sl,hL⟩:=u.any ho I.free (by simp)
 exact I.step (g':=s.gens) (d':=s.drawn) (ch:=[]) (fun _ z=>nomatch z) (fun b o _ hb _ e n=>u.keep b o e n hb (by simp)) (fun b o _ hb _ e n=>u.slot b o e n hb (by simp)) (fun b o _ e n=>u.free b o e n (by simp)) (fun b o _ e=>u.there b o e (by simp)) u.tups u.frzs u.tbls (fun m' hm=>by
  obtain ⟨o',es',ep',ho',r'⟩:=hm;rw [ho] at ho';cases ho';exact ⟨_,es',ep',hL,r'⟩) hok I.bare
theorem Inv.call {g':Array GenState} {d':Drawn} (I:Inv X pins σ H s) (u:Un (frs X.stack) ch H H' s.heap h') (hok:HOk X.prog X.w H' h') (hg:AllBare g')
 (hch:∀ b∈ch,(b∈X.ex∨X.s₀.z≤b)∧b≠X.env.locals∧(∀ x c,X.env.cells.lookup x=some c→c≠b)∧∀ p∈X.pn++pins,p.1≠b) :
 Inv X pins σ H' { s with heap:=h',gens:=g',drawn:=d',toks:=t' }:=by
 obtain ⟨m,⟨o,es,ep,ho,r⟩,_⟩:=id I.loc;obtain ⟨sl,hL⟩:=u.any ho I.free fun z=>(hch _ z).2.1 rfl
 exact I.step (ch:=ch) hch (fun b o hL hb hc e n=>u.keep b o e n (fun z=>(n12_.mp (I.stkSub b z)).elim hL hb) hc) (fun b o _ _ hc e n=>u.any e n hc) (fun b o hc e n=>u.free b o e n hc) (fun b o hc e=>u.there b o e hc) u.tups u.frzs u.tbls (fun m' hm=>by
  obtain ⟨o',es',ep',ho',r'⟩:=hm;rw [ho] at ho';cases ho';exact ⟨_,es',ep',hL,r'⟩) hok hg
theorem Inv.turned (I:Inv X pins σ H s) (k:∀ b o,b≠it→s.heap.get? b=some o→h'.get? b=some o) (hn:H it=none) (hL:it≠X.env.locals)
 (h1:it∈X.ex∨X.s₀.z≤it) (h2:∀ x c,X.env.cells.lookup x=some c→c≠it) (h3:∀ p∈X.pn++pins,p.1≠it):Inv X pins σ H { s with heap:=h',toks:=t' }:=by
 have nit:∀ b u,H b=some u→b≠it:=fun b u e z=>by rw [z,hn] at e;cases e
 refine I.step (g':=s.gens) (d':=s.drawn) (ch:=[it]) (fun b hb=>?_) (fun b o _ _ hc e _=>k b o (fun z=>hc (by simp [z])) e) (fun b o _ _ hc e _=>⟨o.slots,k b o (fun z=>hc (by simp [z])) e⟩) (fun _ _ _ _ n=>n)
  (fun b o hc e=>⟨o,k b o (fun z=>hc (by simp [z])) e⟩) (fun _ _ e=>e) (fun _ _ _ e=>e) (fun b ps e=>⟨#[],by rw [e];simp⟩) (fun m hm=>?_) (fun b u e=>?_) I.bare
 · have e:b=it:=by simpa using hb
   subst e;exact ⟨h1,hL,h2,h3⟩
 · obtain ⟨o,es,ep,ho,r⟩:=hm;exact ⟨o,es,ep,k _ o (Ne.symm hL) ho,r⟩
 · refine (I.hok b u e).stay (fun c v hc q=>k c v ?_ q) (fun _ q=>q) fun _ _ q=>q
   rcases hc with z|z
   · rw [z];exact nit b u e
   · exact nit c _ z
theorem Inv.tok (I:Inv X pins σ H s) (t:Nat):Inv X pins σ H { s with toks:=t }:=I.un (h':=s.heap) (t':=t) Un.refl I.hok
theorem Inv.kept (I:Inv X pins σ H s) (k:∀ b u,s.heap.get? b=some u→h'.get? b=some u):Inv X pins σ H { s with heap:=h',toks:=t' }:=I.un (Un.kept k) (I.hok.kept k)
theorem Inv.laid {o:HO} (I:Inv X pins σ H s) (k:∀ b u,s.heap.get? b=some u→h'.get? b=some u) (hp:s.z≤a) (new:ObjOk X.prog X.w (upd H a o) h' a o) :
 Inv X pins σ (upd H a o) { s with heap:=h',toks:=t' }:=I.un (Un.laid k hp (I.hok.fresh hp)) (I.hok.laid k hp new)
theorem Inv.write {x:Addr} {o:HO} (I:Inv X pins σ H s) (mu:Mut (H x)) (he:e=x∨H e=some (.own x)) (k:∀ b u,b≠e→s.heap.get? b=some u→h'.get? b=some u) (heo:∃ u,h'.get? e=some u)
 (new:ObjOk X.prog X.w (upd H x o) h' x o):Inv X pins σ (upd H x o) { s with heap:=h',toks:=t' }:=I.un (Un.write mu he k heo) (I.hok.write mu he k heo new)
theorem Inv.pins_of {pins':List (Addr×Obj)} (I:Inv X pins σ H s) (h:∀ p∈pins',s.heap.get? p.1=some p.2∧H p.1=none∧p.1≠X.env.locals∧p.1∉X.fs∧∀ v,p.2.data≠.cell v):Inv X pins' σ H s :=
 ⟨I.ok,I.os,I.bare,I.base,I.loc,I.cell,I.free,I.freeC,fun p hp=>(List.mem_append.mp hp).elim (fun z=>I.pin p (List.mem_append_left _ z)) (h p),I.hok,I.len⟩
theorem Zi4 (hN:N.Nodup) {j:Nat} (a:N[i]? = some x) (b:N[j]? = some x):i=j:=by
 obtain ⟨h1,e1⟩:=n19_.mp a;obtain ⟨h2,e2⟩:=n19_.mp b;exact (n66_ hN).mp (e1.trans e2.symm)
theorem Zm7 {M:Model} {Q:Unit→Shared→Prop} (I:Inv X pins σ H s) (hN:X.N.Nodup) (hi:X.N[i]? = some x) (hx:Loc X.env.scope x) (r:RelV v u)
 (h:∀ s',Inv X pins (σ.set i (some v)) H s'→(∃ a,Heap.SameBut a s.heap s'.heap∧(a=X.env.locals∨X.env.cells.lookup x=some a))→Q () s') (hf:X.fn x=true∨X.env.scope.names.lookup x=some .local:=by first|exact .inl rfl|exact .inr rfl|assumption):wpAny M A (storeName X.env x u) Q E s:=by
 obtain ⟨m,hn,hl⟩:=id I.loc;have hcls:(X.env.scope.kind == .class||(X.env.scope.kind == .module&&X.env.locals != X.env.globals))=false:=by rw [I.ok.kind];rfl
 have hiσ:i<σ.length:=by rw [I.len];exact (n19_.mp hi).1
 have cne:=I.cne
 have tracked:∀ {a:Addr} {h':Heap},(∃ o,s.heap.get? a=some o∧H a=none)→Heap.SameBut a s.heap h'→HOk X.prog X.w H h':=fun {a h'} ha hs b ob e=>by
  obtain ⟨_,_,hfree⟩:=ha;refine (I.hok b ob e).stay (fun c w' hc q=>(hs.2 c ?_).trans q) (fun _ q=>q) fun _ _ q=>q;rintro rfl
  rcases hc with rfl|hc
  · rw [hfree] at e;cases e
  · rw [hfree] at hc;cases hc
 rcases hx with hk|hk
 · refine wpAny_storeName_local hk hn (fun h' hn' hs=>?_) hcls;obtain ⟨oL,_,_,hoL,_⟩:=id hn;refine h _ ⟨I.ok,I.os,I.bare,⟨fun b o e n hb hx=>?_,fun b o e n hb hx=>?_,I.base.free,fun b o e hx=>?_,I.base.tups,I.base.frzs,I.base.tbls⟩,⟨_,hn',fun j y v' e1 e2 e3=>?_⟩,fun y c e=>?_,I.free,I.freeC,fun p hp=>?_,tracked ⟨oL,hoL,I.free⟩ hs,by simpa using I.len⟩ ⟨_,hs,.inl rfl⟩
   · exact (hs.2 b (n22_ (n14_ (n11_ e) I.ok.above))).trans (I.base.keep b o e n hb hx)
   · obtain ⟨sl,e1⟩:=I.base.slot b o e n hb hx;exact ⟨sl,(hs.2 b (n22_ (n14_ (n11_ e) I.ok.above))).trans e1⟩
   · obtain ⟨o',e1⟩:=I.base.there b o e hx;exact ⟨o',(hs.2 b (n22_ (n14_ (n11_ e) I.ok.above))).trans e1⟩
   · by_cases hj:j=i
     · subst hj;rw [hi] at e1;cases e1;rw [List.getElem?_set_self hiσ] at e2;cases e2
       exact ⟨u,r,.inl ⟨hk,by simp⟩⟩
     · rw [List.getElem?_set_ne (Ne.symm hj)] at e2;obtain ⟨u',r',q⟩:=hl j y v' e1 e2 e3;refine ⟨u',r',?_⟩
       rcases q with ⟨k,e⟩|⟨k,c,e,z⟩
       · refine .inl ⟨k,?_⟩
         have:y≠x:=fun e=>hj (Zi4 hN e1 (e ▸ hi))
         simp [this,e]
       · exact .inr ⟨k,c,e,z.sameBut hs (cne y c e)⟩
   · obtain ⟨w',z⟩:=I.cell y c e;exact ⟨w',z.sameBut hs (cne y c e)⟩
   · obtain ⟨e,n,ne,nf,d⟩:=I.pin p hp;exact ⟨(hs.2 p.1 ne).trans e,n,ne,nf,d⟩
 · have hfn:X.fn x=true:=by
    rcases hf with z|z
    · exact z
    · rw [z] at hk;cases hk
   obtain ⟨c,hc⟩:=I.ok.has x (.inl hk);obtain ⟨w',z⟩:=I.cell x c hc;refine wpAny_storeName_cell I.ok.kind hk hc z (fun h' hc' hs=>?_);obtain ⟨oc,hoc,hocd⟩:=id z;refine h { s with heap:=h' } ⟨I.ok,I.os,I.bare,⟨fun b o e n hb hx=>?_,fun b o e n hb hx=>?_,I.base.free,fun b o e hx=>?_,I.base.tups,I.base.frzs,I.base.tbls⟩,⟨m,hn.sameBut hs (Ne.symm (cne x c hc)),fun j y v' e1 e2 e3=>?_⟩,fun y c' e=>?_,I.free,I.freeC,fun p hp=>?_,tracked ⟨oc,hoc,I.freeC x c hc⟩ hs,by simpa using I.len⟩ ⟨c,hs,.inr hc⟩
   · exact (hs.2 b (n22_ (n14_ (n11_ e) (I.ok.cab x c hfn hc)))).trans (I.base.keep b o e n hb hx)
   · obtain ⟨sl,e1⟩:=I.base.slot b o e n hb hx;exact ⟨sl,(hs.2 b (n22_ (n14_ (n11_ e) (I.ok.cab x c hfn hc)))).trans e1⟩
   · obtain ⟨o',e1⟩:=I.base.there b o e hx;exact ⟨o',(hs.2 b (n22_ (n14_ (n11_ e) (I.ok.cab x c hfn hc)))).trans e1⟩
   · by_cases hj:j=i
     · subst hj;rw [hi] at e1;cases e1;rw [List.getElem?_set_self hiσ] at e2;cases e2
       exact ⟨u,r,.inr ⟨.inl hk,c,hc,hc'⟩⟩
     · rw [List.getElem?_set_ne (Ne.symm hj)] at e2;obtain ⟨u',r',q⟩:=hl j y v' e1 e2 e3;refine ⟨u',r',?_⟩
       rcases q with q|⟨k,c',e,z'⟩
       · exact .inl q
       · refine .inr ⟨k,c',e,z'.sameBut hs ?_⟩;rintro rfl
         exact hj (Zi4 hN e1 (I.ok.inj _ _ _ e hc ▸ hi))
   · by_cases hcc:c'=c
     · subst hcc;exact ⟨_,hc'⟩
     · obtain ⟨w2,z2⟩:=I.cell y c' e;exact ⟨w2,z2.sameBut hs hcc⟩
   · obtain ⟨e,n,ne,nf,d⟩:=I.pin p hp;refine ⟨(hs.2 p.1 ?_).trans e,n,ne,nf,d⟩;intro q;rw [q,hoc] at e;have q':oc=p.2:=Option.some.inj e;exact d w' (by rw [← q'];exact hocd)
theorem Zae {M:Model} {Q:Unit→Shared→Prop} (I:Inv X pins σ H s) (hN:X.N.Nodup) (hi:X.N[i]? = some x) (hx:Loc X.env.scope x) (r:RelV v u)
 (h:∀ s',Inv X pins (σ.set i (some v)) H s'→Q () s') (hf:X.fn x=true∨X.env.scope.names.lookup x=some .local:=by first|exact .inl rfl|exact .inr rfl|assumption):wpAny M A (storeName X.env x u) Q E s :=
 Zm7 I hN hi hx r (fun s' I' _=>h s' I') hf
theorem Inv.call' {s':Shared} (I:Inv X pins σ H s) (ho:s'.os=s.os) (u:Un (frs X.stack) ch H H' s.heap s'.heap) (hok:HOk X.prog X.w H' s'.heap) (hg:AllBare s'.gens)
 (hch:∀ b∈ch,(b∈X.ex∨X.s₀.z≤b)∧b≠X.env.locals∧(∀ x c,X.env.cells.lookup x=some c→c≠b)∧∀ p∈X.pn++pins,p.1≠b):Inv X pins σ H' s':=by
 obtain ⟨h',g',d',t',o'⟩:=s';have e:o'=s.os:=ho;subst e;exact I.call (g':=g') (t':=t') (d':=d') u hok hg hch
end
abbrev XK:=Value→Option Addr→Hp→Prop
abbrev St:=List (Option V)
abbrev VK:=V→Hp→Prop
abbrev TE:=St→Hp→VK→Prop
abbrev TT:=St→Hp→(Bool→Hp→Prop)→Prop
abbrev TA:=St→Hp→(List V→Hp→Prop)→Prop
structure Ends where
 nx:St→Hp→Prop
 rt:VK
 bk:St→Hp→Prop:=fun _ _=>False
 ct:St→Hp→Prop:=fun _ _=>False
abbrev TS:=Ends→St→Hp→Prop
def EP (X:Cx) (pins:List (Addr×Obj)) (σ:St) (Q:VK) (u:Value) (s':Shared):Prop:=∃ v H',Inv X pins σ H' s'∧RelV v u∧Q v H'
def TP (X:Cx) (pins:List (Addr×Obj)) (σ:St) (Q:Bool→Hp→Prop) (b:Bool) (s':Shared):Prop:=∃ H',Inv X pins σ H' s'∧Q b H'
def AP (X:Cx) (pins:List (Addr×Obj)) (σ:St) (Q:List V→Hp→Prop) (us:List Value) (s':Shared):Prop:=∃ vs H',Inv X pins σ H' s'∧Vals vs us∧Q vs H'
def SP (X:Cx) (pins:List (Addr×Obj)) (D:Ends) (f:Flow) (s':Shared):Prop :=
 match f with
 | .next=>∃ σ' H',Inv X pins σ' H' s'∧D.nx σ' H'
 | .brk=>∃ σ' H',Inv X pins σ' H' s'∧D.bk σ' H'
 | .cont=>∃ σ' H',Inv X pins σ' H' s'∧D.ct σ' H'
 | .ret u=>∃ v σ' H',Inv X pins σ' H' s'∧RelV v u∧D.rt v H'
def PE (X:Cx) (e:Expr) (t:TE):Prop :=
 ∀ (pins:List (Addr×Obj)) (s:Shared) (σ:St) (H:Hp) (Q:VK),Inv X pins σ H s→t σ H Q→wpAny (model X.prog X.w) X.A (eval e X.env) (EP X pins σ Q) X.xe s
def PT (X:Cx) (e:Expr) (t:TT):Prop :=
 ∀ (pins:List (Addr×Obj)) (s:Shared) (σ:St) (H:Hp) (Q:Bool→Hp→Prop),Inv X pins σ H s→t σ H Q→wpAny (model X.prog X.w) X.A (isTrue e X.env (eval e X.env)) (TP X pins σ Q) X.xe s
def PW (X:Cx) (e:Expr) (t:TT):Prop :=
 ∀ (whole:Sem Value) (pins:List (Addr×Obj)) (s:Shared) (σ:St) (H:Hp) (Q:Bool→Hp→Prop),Inv X pins σ H s→t σ H Q→wpAny (model X.prog X.w) X.A (isTrue e X.env whole) (TP X pins σ Q) X.xe s
theorem PW.pt {X:Cx} {e:Expr} {t:TT} (h:PW X e t):PT X e t:=h _
def PA (X:Cx) (es:List Expr) (t:TA):Prop :=
 ∀ (pos:Pos) (pins:List (Addr×Obj)) (s:Shared) (σ:St) (H:Hp) (Q:List V→Hp→Prop),Inv X pins σ H s→t σ H Q→wpAny (model X.prog X.w) X.A (spliced (backTo pos (starEach es X.env))) (AP X pins σ Q) X.xe s
def PS (X:Cx) (st:Stmt) (t:TS):Prop :=
 ∀ (pins:List (Addr×Obj)) (s:Shared) (σ:St) (H:Hp) (D:Ends),Inv X pins σ H s→t D σ H→wpAny (model X.prog X.w) X.A (exec st X.env) (SP X pins D) X.xe s
def PSs (X:Cx) (st:List Stmt) (t:TS):Prop :=
 ∀ (pins:List (Addr×Obj)) (s:Shared) (σ:St) (H:Hp) (D:Ends),Inv X pins σ H s→t D σ H→wpAny (model X.prog X.w) X.A (execs st X.env) (SP X pins D) X.xe s
theorem thn {t:Sem α} {Q Q':α→Shared→Prop} {M:Model} (h:wpAny M A t Q E s) (hQ:∀ a s,Q a s→Q' a s):wpAny M A t Q' E s:=n45_ h hQ fun _ _ x=>x
section
variable {X:Cx}
def tVar (i:Nat):TE:=fun σ H Q=>∃ v,σ[i]? = some (some v)∧Q v H
def tC (v:V):TE:=fun _ H Q=>Q v H
theorem Zui (hN:X.N[i]? = some x) (hv:Vis X.env.scope x) (hd:(x == ("__debug__" : Str))=false:=by decide) (hcd:(x == ("__classdict__" : Str))=false:=by decide):PE X (.Name x pos) (tVar i):=by
 intro pins s σ H Q I h;obtain ⟨v,e,h⟩:=h;obtain ⟨m,hn,hl⟩:=I.loc;obtain ⟨u,r,l⟩:=hl i x v hN e hv;have fin:EP X pins σ Q u s:=⟨v,H,I,r,h⟩
 rcases l with ⟨hk,hm⟩|⟨hk,c,hc,hcell⟩
 · exact wpAny_Name (wpAny_loadName_local I.ok.kind hk hn hm fin) hd
 · rcases hk with hk|hk
   · exact wpAny_Name (wpAny_loadName_cell I.ok.kind hk hc hcell fin) hd
   · exact wpAny_Name (wpAny_loadName_free I.ok.kind hk hc hcell fin hcd) hd
theorem Zd {i j pos}:PE X (.Constant (.int i) j pos) (tC (.int i)):=fun _ _ _ H _ I h=>wpAny_Constant_int ⟨.int i,H,I.tok _,⟨_,rfl⟩,h⟩
theorem X0 {b j pos}:PE X (.Constant (.bool b) j pos) (tC (.bl b)):=fun _ _ _ H _ I h=>Constant_bool ⟨.bl b,H,I,rfl,h⟩
theorem Zjb {j pos}:PE X (.Constant .none j pos) (tC .non):=fun _ _ _ H _ I h=>Constant_none ⟨.non,H,I,rfl,h⟩
theorem Zpy {x j pos}:PE X (.Constant (.str x) j pos) (tC (.str x)):=fun _ _ _ H _ I h=>Calls.Constant_str ⟨.str x,H,I.tok _,⟨_,rfl⟩,h⟩
def Gl (X:Cx) (x:Str):Prop:=X.env.kindOf x=some .globalImplicit
theorem Zir (I:Inv X pins σ H s) (hg:Gl X x) (hm:X.mg x=some u) (h:Q u s)
 (hd:(x == ("__debug__" : Str))=false:=by decide):wpAny (model X.prog X.w) X.A (eval (.Name x pos) X.env) Q E s :=
 Calls.Name_function_global I.ok.kind hg (Calls.loadGlobal_global (by rw [I.ok.glob];exact I.mod.glob.keeps I.bk) hm h) hd
theorem Zas (I:Inv X pins σ H s) (hg:Gl X x) (hm:X.mg x=none) (hv:bootBuiltins x=some u) (h:Q u s)
 (hn:x ≠ "__name__" := by decide) (hd:(x == ("__debug__" : Str))=false:=by decide):wpAny (model X.prog X.w) X.A (eval (.Name x pos) X.env) Q E s:=by
 obtain ⟨mb,h1,h2⟩:=I.mod.blt;exact Calls.Name_function_global I.ok.kind hg (Calls.loadGlobal_builtin (by rw [I.ok.glob];exact I.mod.glob.keeps I.bk) hm (by rw [I.ok.blt];exact h1.keeps I.bk) ((h2 x hn).trans hv) h) hd
theorem Zl6 (hg:Gl X x) (hm:X.mg x=some u) (r:RelV v u) (hd:(x == ("__debug__" : Str))=false:=by decide):PE X (.Name x pos) (tC v) :=
 fun _ _ _ H _ I h=>Zir I hg hm ⟨v,H,I,r,h⟩ hd
theorem Xx (hg:Gl X x) (hm:X.mg x=none) (hv:bootBuiltins x=some u) (r:RelV v u) (hn:x ≠ "__name__" := by decide) (hd:(x == ("__debug__" : Str))=false:=by decide):PE X (.Name x pos) (tC v) :=
 fun _ _ _ H _ I h=>Zas I hg hm hv ⟨v,H,I,r,h⟩ hn hd
variable {a b:Expr} {ta tb:TE} {pos:Pos}
variable {tA tB':TT} {rest:List Expr}
def tAnd (t u:TT):TT:=fun σ H Q=>t σ H fun c H1=>if c=true then u σ H1 Q else Q false H1
def tOr (t u:TT):TT:=fun σ H Q=>t σ H fun c H1=>if c=true then Q true H1 else u σ H1 Q
def tNot (t:TT):TT:=fun σ H Q=>t σ H fun c H1=>Q (!c) H1
theorem Zf2 (ha:PT X a tA):PW X (.BoolOp .And [a] pos) tA:=by
 intro wh pins s σ H Q I h;refine isTrue_and (thn (ha pins s σ H Q I h) fun c s1 e=>?_);cases c with
 | true=>exact isTrue_and_nil e
 | false=>exact e
theorem Zdz (ha:PT X a tA):PW X (.BoolOp .Or [a] pos) tA:=by
 intro wh pins s σ H Q I h;refine isTrue_or (thn (ha pins s σ H Q I h) fun c s1 e=>?_);cases c with
 | false=>exact isTrue_or_nil e
 | true=>exact e
theorem Zgv (ha:PT X a tA) (hb:PW X (.BoolOp .And (b :: rest) pos) tB'):PW X (.BoolOp .And (a :: b :: rest) pos) (tAnd tA tB'):=by
 intro wh pins s σ H Q I h;refine isTrue_and (thn (ha pins s σ H _ I h) fun c s1 ⟨H1,I1,q1⟩=>?_);cases c with
 | true=>exact hb wh pins s1 σ H1 Q I1 q1
 | false=>exact ⟨H1,I1,q1⟩
theorem Zim (ha:PT X a tA) (hb:PW X (.BoolOp .Or (b :: rest) pos) tB'):PW X (.BoolOp .Or (a :: b :: rest) pos) (tOr tA tB'):=by
 intro wh pins s σ H Q I h;refine isTrue_or (thn (ha pins s σ H _ I h) fun c s1 ⟨H1,I1,q1⟩=>?_);cases c with
 | true=>exact ⟨H1,I1,q1⟩
 | false=>exact hb wh pins s1 σ H1 Q I1 q1
theorem Y7 (ha:PT X a tA):PT X (.UnaryOp .Not a pos) (tNot tA):=by
 intro pins s σ H Q I h;exact isTrue_not (ha pins s σ H (fun c H1=>Q (!c) H1) I h)
def Zvi (ta tb:TE):TE:=fun σ H Q=>ta σ H fun x H1=>∃ c,x=.bl c∧if c=true then tb σ H1 Q else Q (.bl false) H1
def tOrV (ta tb:TE):TE:=fun σ H Q=>ta σ H fun x H1=>∃ c,x=.bl c∧if c=true then Q (.bl true) H1 else tb σ H1 Q
def Zu7 (ta:TE):TE:=fun σ H Q=>ta σ H fun x H1=>∃ c,x=.bl c∧Q (.bl (!c)) H1
theorem Za3 {op} {t:TE} (h:PE X a t):PE X (.BoolOp op [a] pos) t:=fun pins s σ H Q I hw=>BoolOp_one (h pins s σ H Q I hw)
theorem Zbe (ha:PE X a ta) (hb:PE X (.BoolOp .And (b :: rest) pos) tb):PE X (.BoolOp .And (a :: b :: rest) pos) (Zvi ta tb):=by
 intro pins s σ H Q I h;refine BoolOp_and (thn (ha pins s σ H _ I h) fun v s1 ⟨x,H1,I1,r1,q1⟩=>?_);obtain ⟨c,rfl,q1⟩:=q1;cases r1
 refine wpAny_truthy_bool ?_;cases c with
 | true=>exact hb pins s1 σ H1 Q I1 q1
 | false=>exact ⟨.bl false,H1,I1,rfl,q1⟩
theorem Zux (ha:PE X a ta) (hb:PE X (.BoolOp .Or (b :: rest) pos) tb):PE X (.BoolOp .Or (a :: b :: rest) pos) (tOrV ta tb):=by
 intro pins s σ H Q I h;refine BoolOp_or (thn (ha pins s σ H _ I h) fun v s1 ⟨x,H1,I1,r1,q1⟩=>?_);obtain ⟨c,rfl,q1⟩:=q1;cases r1
 refine wpAny_truthy_bool ?_;cases c with
 | false=>exact hb pins s1 σ H1 Q I1 q1
 | true=>exact ⟨.bl true,H1,I1,rfl,q1⟩
theorem Zi8 (ha:PE X a ta):PE X (.UnaryOp .Not a pos) (Zu7 ta):=by
 intro pins s σ H Q I h;refine UnaryOp_ (thn (ha pins s σ H _ I h) fun v s1 ⟨x,H1,I1,r1,q1⟩=>?_);obtain ⟨c,rfl,q1⟩:=q1;cases r1
 exact not_of (wpAny_truthy_bool ⟨.bl (!c),H1,I1,rfl,q1⟩)
def tIf (t:TT) (ta tb:TE):TE:=fun σ H Q=>t σ H fun c H1=>if c=true then ta σ H1 Q else tb σ H1 Q
theorem Zo6 {c:Expr} (hc:PT X c tA) (ha:PE X a ta) (hb:PE X b tb):PE X (.IfExp c a b pos) (tIf tA ta tb):=by
 intro pins s σ H Q I h;refine wpAny_IfExp (thn (hc pins s σ H _ I h) fun d s1 ⟨H1,I1,q1⟩=>?_);cases d with
 | true=>exact ha pins s1 σ H1 Q I1 q1
 | false=>exact hb pins s1 σ H1 Q I1 q1
end
def SqL (K:PySem.W.Frag) (H:Hp) (a:Addr) (xs:List V):Prop :=
 Rd H a (.lst xs) ∨
  ∃ (o:Obj) (its:Array Value) (n:Nat),K.lookup a=some o∧o.cls=.type "list" ∧ o.dict=none∧o.data=.seq its n∧its.size≤sizeLine∧Vals xs its.toList
def SqT (K:PySem.W.Frag) (H:Hp) (a:Addr) (xs:List V):Prop :=
 Rd H a (.tup xs) ∨
  ∃ (o:Obj) (its:Array Value) (n:Nat),K.lookup a=some o∧o.cls=.type "tuple" ∧ o.data=.seq its n∧its.size≤sizeLine∧Vals xs its.toList
noncomputable def absV:Value→Option V
 | .none=>some .non
 | .bool b=>some (.bl b)
 | .int i _=>some (.int i)
 | .str x _=>some (.str x)
 | .bytes b _=>some (.byt b)
 | .float b _=>some (.flt b)
 | .ref a=>some (.ref a)
 | .type n=>some (.ty n)
 | _=>none
theorem RelV.abs {x:V} (r:RelV x u):absV u=some x:=by
 cases x with
 | non=>cases r;rfl
 | bl _=>cases r;rfl
 | int _=>obtain ⟨t,rfl⟩:=r;rfl
 | str _=>obtain ⟨t,rfl⟩:=r;rfl
 | byt _=>obtain ⟨t,rfl⟩:=r;rfl
 | flt _=>obtain ⟨t,rfl⟩:=r;rfl
 | ref _=>cases r;rfl
 | ty _=>cases r;rfl
theorem RelV.inj {x:V} (r:RelV x u) (q:RelV y u):x=y:=Option.some.inj (r.abs.symm.trans q.abs)
theorem Vals.inj:∀ {xs ys:List V} {us:List Value},Vals xs us→Vals ys us→xs=ys
 | _,_,_,.nil,.nil=>rfl
 | _,_,_,.cons r t,.cons r' t'=>by rw [r.inj r',Vals.inj t t']
section
variable {X:Cx} {pins:List (Addr×Obj)} {σ:St} {H:Hp} {s:Shared} {a:Addr} {xs ys:List V}
theorem SqL.of {K:PySem.W.Frag} (h:H a=some (.lst xs)):SqL K H a xs:=.inl (.inl h)
theorem SqT.of {K:PySem.W.Frag} (h:H a=some (.tup xs)):SqT K H a xs:=.inl (.inl h)
theorem Inv.list (I:Inv X pins σ H s) (h:SqL X.K H a xs):∃ its:List Value,Vals xs its∧PlainL s.heap a its.toArray∧xs.length≤sizeLine:=by
 rcases h with h|⟨o,its,n,hk,hc,hd,hs,hz,r⟩
 · obtain ⟨z,its,n,r,e⟩:=h.ok I.hok;exact ⟨its,r,⟨_,n,e,rfl,rfl,rfl⟩,z⟩
 · refine ⟨its.toList,r,⟨o,n,I.kIn a o hk,hc,hd,by simpa using hs⟩,?_⟩;have e:=r.length;simp only [Array.length_toList] at e;omega
theorem Inv.tuple (I:Inv X pins σ H s) (h:SqT X.K H a xs):∃ its:List Value,Vals xs its∧IsTup s.heap a its.toArray∧xs.length≤sizeLine:=by
 rcases h with h|⟨o,its,n,hk,hc,hs,hz,r⟩
 · obtain ⟨z,its,r,p⟩:=h.ok I.hok;exact ⟨its,r,p,z⟩
 · refine ⟨its.toList,r,⟨o,I.kIn a o hk,hc,n,by simpa using hs⟩,?_⟩;have e:=r.length;simp only [Array.length_toList] at e;omega
theorem Inv.list_inj (I:Inv X pins σ H s) (h:SqL X.K H a xs) (h':SqL X.K H a ys):xs=ys:=by
 obtain ⟨its,r,⟨o,n,e,_,_,d⟩,_⟩:=I.list h;obtain ⟨its',r',⟨o',n',e',_,_,d'⟩,_⟩:=I.list h';rw [e] at e';cases e';rw [d] at d';injection d' with d1 _
 have:its=its':=by simpa using congrArg Array.toList d1
 subst this;exact r.inj r'
theorem Inv.tuple_inj (I:Inv X pins σ H s) (h:SqT X.K H a xs) (h':SqT X.K H a ys):xs=ys:=by
 obtain ⟨its,r,⟨o,e,_,n,d⟩,_⟩:=I.tuple h;obtain ⟨its',r',⟨o',e',_,n',d'⟩,_⟩:=I.tuple h';rw [e] at e';cases e';rw [d] at d';injection d' with d1 _
 have:its=its':=by simpa using congrArg Array.toList d1
 subst this;exact r.inj r'
end
noncomputable abbrev Cx.wish (X:Cx) (E:Value→Shared→Prop):Cx:={ X with xe:=E }
abbrev Cx.nox (X:Cx):Cx:=X.wish fun _ _=>False
theorem Cx.Ok.wish (ok:X.Ok) (E:Value→Shared→Prop):(X.wish E).Ok :=
 ⟨ok.mod,ok.kind,ok.glob,ok.blt,ok.above,ok.inj,ok.has,ok.cab,ok.hd,ok.frames,ok.stk,ok.exf,ok.bs,ok.bsz,ok.noex,ok.exfs,ok.funs,ok.frf⟩
theorem Cx.Ok.unwish (ok:(X.wish E).Ok):X.Ok :=
 ⟨ok.mod,ok.kind,ok.glob,ok.blt,ok.above,ok.inj,ok.has,ok.cab,ok.hd,ok.frames,ok.stk,ok.exf,ok.bs,ok.bsz,ok.noex,ok.exfs,ok.funs,ok.frf⟩
section
variable {X:Cx} {pins:List (Addr×Obj)} {σ:St} {H:Hp} {s:Shared} {E:Value→Shared→Prop}
theorem Inv.wish (I:Inv X pins σ H s) (E:Value→Shared→Prop):Inv (X.wish E) pins σ H s:=⟨I.ok.wish E,I.os,I.bare,I.base,I.loc,I.cell,I.free,I.freeC,I.pin,I.hok,I.len⟩
theorem Inv.unwish (I:Inv (X.wish E) pins σ H s):Inv X pins σ H s:=⟨I.ok.unwish,I.os,I.bare,I.base,I.loc,I.cell,I.free,I.freeC,I.pin,I.hok,I.len⟩
theorem SP.unwish {D:Ends} {f:Flow} {s':Shared} (h:SP (X.wish E) pins D f s'):SP X pins D f s':=by
 cases f with
 | next=>obtain ⟨σ',H',I,q⟩:=h;exact ⟨σ',H',I.unwish,q⟩
 | brk=>obtain ⟨σ',H',I,q⟩:=h;exact ⟨σ',H',I.unwish,q⟩
 | cont=>obtain ⟨σ',H',I,q⟩:=h;exact ⟨σ',H',I.unwish,q⟩
 | ret u=>obtain ⟨v,σ',H',I,r,q⟩:=h;exact ⟨v,σ',H',I.unwish,r,q⟩
theorem PSs.nox {st:List Stmt} {t:TS} (h:PSs X.nox st t):PSs X st t:=fun pins s σ H D I hw =>
 n45_ (h pins s σ H D (I.wish _) hw) (fun _ _ q=>q.unwish) fun _ _ z=>False.elim z
end
section
variable {X:Cx} {st:Stmt} {rest:List Stmt} {t u:TS} {e:Expr} {te:TE} {pos:Pos}
def Zvu:TS:=fun D σ H=>D.nx σ H
def tSeq (t u:TS):TS:=fun D σ H=>t { D with nx:=u D } σ H
theorem Z1:PSs X [] Zvu:=fun _ _ σ H _ I h=>wpAny_execs_nil ⟨σ,H,I,h⟩
theorem Ze (h1:PS X st t) (h2:PSs X rest u):PSs X (st :: rest) (tSeq t u):=by
 intro pins s σ H D I h;refine wpAny_execs_cons (thn (h1 pins s σ H { D with nx:=u D } I h) fun f s1 q=>?_);cases f with
 | next =>
   obtain ⟨σ',H',I',q⟩:=q;exact h2 pins s1 σ' H' D I' q
 | ret v=>exact q
 | brk=>exact q
 | cont=>exact q
theorem Zh (h1:PS X st t):PSs X [st] t:=by
 intro pins s σ H D I h;refine wpAny_execs_cons (thn (h1 pins s σ H D I h) fun f s1 q=>?_);cases f with
 | next=>exact wpAny_execs_nil q
 | ret v=>exact q
 | brk=>exact q
 | cont=>exact q
theorem Inv.quiet (I:Inv X pins σ H s):interactive X.env=false:=by simp [interactive,I.ok.kind]
def Zuw (te:TE):TS:=fun D σ H=>te σ H fun _ H1=>D.nx σ H1
theorem Za1 (he:PE X e te) (hs:swapsWith e none pos.line X.env=pure false:=by rfl):PS X (.Expr e pos) (Zuw te):=by
 intro pins s σ H D I h;exact wpAny_Expr_any (thn (he pins s σ H _ I h) fun v s1 ⟨x,H1,I1,r1,q1⟩=>⟨σ,H1,I1,q1⟩) I.quiet hs
def tRet (te:TE):TS:=fun D σ H=>te σ H D.rt
theorem Zn (he:PE X e te):PS X (.Return (some e) pos) (tRet te):=by
 intro pins s σ H D I h;exact wpAny_Return_some (thn (he pins s σ H _ I h) fun v s1 ⟨x,H1,I1,r1,q1⟩=>⟨x,σ,H1,I1,r1,q1⟩)
def tIfS (c:TT) (t u:TS):TS:=fun D σ H=>c σ H fun b H1=>if b=true then t D σ H1 else u D σ H1
theorem Xg {c:Expr} {a b:List Stmt} {tc:TT} (hc:PT X c tc) (ha:PSs X a t) (hb:PSs X b u):PS X (.If c a b pos) (tIfS tc t u):=by
 intro pins s σ H D I h;refine wpAny_If (thn (hc pins s σ H _ I h) fun d s1 ⟨H1,I1,q1⟩=>?_);cases d with
 | true=>exact ha pins s1 σ H1 D I1 q1
 | false=>exact hb pins s1 σ H1 D I1 q1
def Zti:TS:=fun _ _ _=>False
theorem Zm0 {sts:List Stmt}:PSs X sts Zti:=fun _ _ _ _ _ _ h=>h.elim
end
abbrev TG:=V→St→Hp→(St→Hp→Prop)→Prop
abbrev TGs:=List V→St→Hp→(St→Hp→Prop)→Prop
def PG (X:Cx) (target:Expr) (t:TG):Prop :=
 ∀ (pins:List (Addr×Obj)) (s:Shared) (σ:St) (H:Hp) (v:V) (u:Value) (Q:St→Hp→Prop),Inv X pins σ H s→RelV v u→t v σ H Q →
   wpAny (model X.prog X.w) X.A (assign target X.env u) (fun _ s'=>∃ σ' H',Inv X pins σ' H' s'∧Q σ' H') X.xe s
def PGs (X:Cx) (ts:List Expr) (t:TGs):Prop :=
 ∀ (pins:List (Addr×Obj)) (s:Shared) (σ:St) (H:Hp) (vs:List V) (us:List Value) (Q:St→Hp→Prop),Inv X pins σ H s→Vals vs us→t vs σ H Q →
   wpAny (model X.prog X.w) X.A (assignInOrder ((assignEach ts X.env).map (·.2)) us) (fun _ s'=>∃ σ' H',Inv X pins σ' H' s'∧Q σ' H') X.xe s
abbrev TSet:=V→V→V→Hp→(Hp→Prop)→Prop
def PSet (X:Cx) (t:TSet):Prop :=
 ∀ (pins:List (Addr×Obj)) (s:Shared) (σ:St) (H:Hp) (o i v:V) (ov iv u:Value) (Q:Hp→Prop),Inv X pins σ H s→RelV o ov→RelV i iv→RelV v u→t o i v H Q →
   wpAny (model X.prog X.w) X.A (setItem ov iv u) (fun _ s'=>∃ H',Inv X pins σ H' s'∧Q H') X.xe s
section
variable {X:Cx} {pos:Pos}
def Yr (i:Nat):TG:=fun v σ H Q=>Q (σ.set i (some v)) H
theorem Zl (hN:X.N.Nodup) (hi:X.N[i]? = some x) (hx:Loc X.env.scope x) (hf:X.fn x=true∨X.env.scope.names.lookup x=some .local:=by first|exact .inl rfl|exact .inr rfl|assumption):PG X (.Name x pos) (Yr i):=by
 intro pins s σ H v u Q I r h;exact wpAny_assign_Name (Zae I hN hi hx r (fun s' I'=>⟨_,H,I',h⟩) hf)
def gNil:TGs:=fun vs σ H Q=>vs=[]∧Q σ H
def Y6 (t:TG) (u:TGs):TGs:=fun vs σ H Q=>∃ v r,vs=v :: r∧t v σ H fun σ' H'=>u r σ' H' Q
theorem Zz:PGs X [] gNil:=by
 intro pins s σ H vs us Q I r h;obtain ⟨e,h⟩:=h;subst e;cases r
 exact assignInOrder_nil ⟨σ,H,I,h⟩
theorem Zg {e:Expr} {es:List Expr} {t:TG} {u:TGs} (h1:PG X e t) (h2:PGs X es u)
 (hs:(assignEach (e :: es) X.env).map (·.2)=assign e X.env :: (assignEach es X.env).map (·.2):=by rfl):PGs X (e :: es) (Y6 t u):=by
 intro pins s σ H vs us Q I r h;obtain ⟨v,vr,e1,h⟩:=h;subst e1;cases r with
 | cons r rr =>
   rw [hs];refine assignInOrder_cons (thn (h1 pins s σ H _ _ _ I r h) fun _ s1 ⟨σ1,H1,I1,q1⟩=>?_);exact h2 pins s1 σ1 H1 _ _ Q I1 rr q1
def gTup (K:PySem.W.Frag) (n:Nat) (t:TGs):TG:=fun v σ H Q=>∃ a xs,v=.ref a∧SqT K H a xs∧xs.length=n∧t xs σ H Q
theorem Yg {es:List Expr} {k:Nat} {t:TGs} {n:Nat} (hc:X.calm=true) (h:PGs X es t)
 (hn:(assignEach es X.env).length=n:=by rfl) (hst:(assignEach es X.env).findIdx? (·.1)=none:=by rfl):PG X (.Tuple es k pos) (gTup X.K n t):=by
 intro pins s σ H v u Q I r hw;obtain ⟨a,xs,e1,hq,hl,hw⟩:=hw;subst e1;cases r
 obtain ⟨its,rv,ht,hz⟩:=I.tuple hq;refine assign_Tuple_tuple (I.ok.hd hc) ht (by simp [hn,← hl,rv.length]) hst fun h' hx=>?_;have I1:Inv X pins σ H { s with heap:=h' }:=I.kept (t':=s.toks) fun b o e=>hx b o (n22_ (n11_ e)) e;exact h pins _ σ H xs _ Q I1 (by simpa using rv) hw
def gSub (to ti:TE) (t:TSet):TG:=fun v σ H Q=>to σ H fun o H1=>ti σ H1 fun i H2=>t o i v H2 fun H3=>Q σ H3
theorem Zgy {o i:Expr} {to ti:TE} {t:TSet} (ho:PE X o to) (hi:PE X i ti) (hs:PSet X t)
 (ha:∀ v,assign (.Subscript o i pos) X.env v=(do
   let ov ← holding [v] (eval o X.env)
   let iv ← holding [v,ov] (eval i X.env)
   standAt pos
   holding [v,ov,iv] (setItem ov iv v)
   release [v,ov,iv] []):=by intro _;rfl):PG X (.Subscript o i pos) (gSub to ti t):=by
 intro pins s σ H v u Q I r h;rw [ha];refine n0_ (n31_ (thn (ho pins s σ H _ I h) fun ov s1 ⟨x,H1,I1,r1,q1⟩=>?_));refine n0_ (n31_ (thn (hi pins s1 σ H1 _ I1 q1) fun iv s2 ⟨y,H2,I2,r2,q2⟩=>?_));refine n0_ (wpAny_standAt (n0_ (n31_ (thn (hs pins s2 σ H2 x y v ov iv u _ I2 r1 r2 r q2) fun _ s3 ⟨H3,I3,q3⟩=>?_))));exact wpAny_release ⟨σ,H3,I3,q3⟩
def tAsg (te:TE) (g:TG):TS:=fun D σ H=>te σ H fun x H1=>g x σ H1 D.nx
theorem Xo {tg e:Expr} {te:TE} {g:TG} (he:PE X e te) (hg:PG X tg g) (hs:swapsWithSole [tg] e pos.line X.env=pure false:=by rfl) (hw:swappedStores [tg] e X.env=pure none:=by rfl)
 (h1:(assignEach [tg] X.env).map (·.2)=[assign tg X.env]:=by rfl):PS X (.Assign [tg] e pos) (tAsg te g):=by
 intro pins s σ H D I h;refine wpAny_Assign_stores (thn (he pins s σ H _ I h) fun v s1 ⟨x,H1,I1,r1,q1⟩=>?_) hs hw;rw [h1];exact thn (hg pins s1 σ H1 x v _ I1 r1 q1) fun _ s2 q=>q
theorem Zt {i:Nat} {x:Str} {e:Expr} {te:TE} {pos':Pos} (hN:X.N.Nodup) (hi:X.N[i]? = some x) (hx:Loc X.env.scope x) (he:PE X e te) (hs:swapsWith e (some (.Name x pos')) pos.line X.env=pure false:=by rfl) (hf:X.fn x=true∨X.env.scope.names.lookup x=some .local:=by first|exact .inl rfl|exact .inr rfl|assumption) :
 PS X (.Assign [.Name x pos'] e pos) (tAsg te (Yr i)):=by
 intro pins s σ H D I h;refine wpAny_Assign_Name (thn (he pins s σ H _ I h) fun v s1 ⟨y,H1,I1,r1,q1⟩=>?_) hs;exact Zae I1 hN hi hx r1 (fun s2 I2=>⟨_,H1,I2,q1⟩) hf
def tPar (i j:Nat) (ta:TA):TS:=fun D σ H=>ta σ H fun vs H1=>∃ v w,vs=[v,w]∧D.nx ((σ.set i (some v)).set j (some w)) H1
theorem Zi5 {i j:Nat} {x y:Str} {a b:Expr} {ta:TA} {px py pt:Pos} {kt k2 pt2} (hc:X.calm=true) (hN:X.N.Nodup) (hi:X.N[i]? = some x) (hj:X.N[j]? = some y) (hij:i≠j)
 (hx:X.env.scope.names.lookup x=some .local) (hy:X.env.scope.names.lookup y=some .local) (ha:PA X [a,b] ta)
 (hw:swappedStores [.Tuple [.Name x px,.Name y py] kt pt] (.Tuple [a,b] k2 pt2) X.env=pure (some [x,y]))
 (hs:swapsWithSole [.Tuple [.Name x px,.Name y py] kt pt] (.Tuple [a,b] k2 pt2) pos.line X.env=pure false:=by rfl) :
 PS X (.Assign [.Tuple [.Name x px,.Name y py] kt pt] (.Tuple [a,b] k2 pt2) pos) (tPar i j ta):=by
 intro pins s σ H D I h;rw [exec_Assign_arm];refine n0_ (wpAny_standAt ?_);rw [hs];refine n0_ (n3_ ?_);rw [if_neg (by decide)];refine n0_ (Tuple_ (thn (ha _ pins s σ H _ I h) fun us s1 ⟨vs,H1,I1,r1,q1⟩=>?_));obtain ⟨v,w,e1,q1⟩:=q1;subst e1
 obtain ⟨u1,u2,rfl,rv,rw'⟩:∃ u1 u2,us=[u1,u2]∧RelV v u1∧RelV w u2:=by
  cases r1 with
  | cons p q =>
    cases q with
    | cons p' q' =>
      cases q'
      exact ⟨_,_,rfl,p,p'⟩
 refine wpAny_newObj_type ?_ (z2_);have I2:Inv X pins σ H1 { s1 with heap:=s1.heap.push { cls:=.type "tuple",data:=.seq [u1,u2].toArray } }:=I1.kept (t':=s1.toks) fun b o e=>n2_ _ e;rw [hw];refine n0_ (n3_ ?_);show wpAny (model X.prog X.w) X.A (do rule "assign.swapped-stores";let items ← unpackItems (.ref s1.z) 2 none;assignInOrder [fun v=>bindName X.env y v,fun v=>bindName X.env x v] items.reverse;pure Flow.next) _ _ _
 refine n0_ (wpAny_rule (n0_ (unpackItems_tuple (items:=#[u1,u2]) (I.ok.hd hc) (IsTup.new s1.heap _) fun h' hx'=>?_)));have I3:=I2.kept (h':=h') (t':=s1.toks) fun b o e=>hx' b o (n22_ (n11_ e)) e;show wpAny _ _ (assignInOrder [fun v=>bindName X.env y v,fun v=>bindName X.env x v] [u2,u1] >>= fun _=>pure Flow.next) _ _ _
 refine n0_ (assignInOrder_cons (wpAny_bindName (Zae I3 hN hj (.inl hy) rw' (fun s2 I4=>?_) (.inr hy))));refine assignInOrder_cons (wpAny_bindName (Zae I4 hN hi (.inl hx) rv (fun s3 I5=>assignInOrder_nil (n3_ ?_)) (.inr hx)));rw [List.set_comm _ _ (Ne.symm hij)] at I5;exact ⟨_,H1,I5,q1⟩
end
section
variable {X:Cx} {pos:Pos}
def Zp0 (c:TT) (tb:TS):TS:=fun D σ H=>∃ W:Nat→St→Hp→Prop,(∃ m,W m σ H)∧∀ m σ H,W m σ H →
 c σ H fun b H1=>if b=true then ∃ N:St→Hp→Prop,(∀ σ' H',N σ' H'→∃ m',m'<m∧W m' σ' H')∧tb { D with nx:=N,ct:=N,bk:=D.nx } σ H1 else D.nx σ H1
theorem Zo5 {c:Expr} {body:List Stmt} {tc:TT} {tb:TS} (hp:PassesOwn (model X.prog X.w) X.A X.env X.xe) (hc:PT X c tc) (hb:PSs X body tb):PS X (.While c body [] pos) (Zp0 tc tb):=by
 intro pins s σ H D I h;obtain ⟨W,⟨m0,w0⟩,turn⟩:=h;refine wpAny_While (codeAny_whileLoop (fun n s'=>∃ σ' H',Inv X pins σ' H' s'∧W n σ' H') ?_ m0 ⟨σ,H,I,w0⟩);rintro n s1 ⟨σ1,H1,I1,w1⟩
 refine wpAny_passesOwn hp (thn (hc pins s1 σ1 H1 _ I1 (turn n σ1 H1 w1)) fun b s2 ⟨H2,I2,q2⟩=>?_);cases b with
 | true =>
   obtain ⟨N,hN,q2⟩:=q2;rw [if_pos rfl];refine wpAny_passesOwn hp (thn (hb pins s2 σ1 H2 _ I2 q2) fun f s3 q3=>?_);cases f with
   | next =>
     obtain ⟨σ3,H3,I3,n3⟩:=q3;obtain ⟨m',hm,w3⟩:=hN σ3 H3 n3;exact ⟨m',hm,σ3,H3,I3,w3⟩
   | cont =>
     obtain ⟨σ3,H3,I3,n3⟩:=q3;obtain ⟨m',hm,w3⟩:=hN σ3 H3 n3;exact ⟨m',hm,σ3,H3,I3,w3⟩
   | brk=>exact q3
   | ret v=>exact q3
 | false =>
   rw [if_neg n23_];exact wpAny_execs_nil ⟨σ1,H2,I2,q2⟩
end
structure It where
 go:Nat→Hp→Prop
 yld:Nat→Hp→V→Hp→Prop
 stop:Nat→Hp→Prop
def FpOk (X:Cx) (pins:List (Addr×Obj)) (H:Hp) (b:Addr):Prop :=
 H b=none∧b≠X.env.locals∧b∉X.fs∧(b∈X.ex∨X.s₀.z≤b)∧(∀ x c,X.env.cells.lookup x=some c→c≠b)∧∀ p∈X.pn++pins,p.1≠b
theorem Inv.fpOk (I:Inv X pins σ H s) (hb:s.z≤b) (hn:H' b=none):FpOk X pins H' b:=by
 refine ⟨hn,n59_ (n14_ I.lt hb),I.nofs hb,.inr (n33_ I.sz hb),fun x c e z=>?_,fun p hp z=>?_⟩
 · obtain ⟨v,q⟩:=I.cell x c e;exact absurd (n14_ q.lt (by rw [z];exact hb)) (n78_ _)
 · exact absurd (n14_ (n11_ (I.pin p hp).1) (by rw [z];exact hb)) (n78_ _)
structure Turn (P:Program) (w:World) (K:PySem.W.Frag) (tg:Expr) (J:It) (fp:List Addr) (it:Addr) (tn:Nat→Heap→Prop):Prop where
 mem:it∈fp
 obj:∀ i h,tn i h→∀ b∈fp,∃ o,h.get? b=some o∧∀ v,o.data≠.cell v
 keep:∀ i h h',tn i h→(∀ b∈fp,∀ o,h.get? b=some o→h'.get? b=some o)→tn i h'
 item:∀ (X:Cx),X.prog=P→X.w=w→X.K=K→X.calm=true→∀ (i:Nat) (pins:List (Addr×Obj)) (s:Shared) (σ:St) (H:Hp) (E:Value→Shared→Prop),Inv X pins σ H s→(∀ b∈fp,FpOk X pins H b)→tn i s.heap→J.go i H →
  wpAny (model P w) X.A (pyNext (.ref it)) (fun r s1=>∃ u,r=some u ∧
   wpAny (model P w) X.A (letOwnedTupleGo tg (.ref it) u) (fun _ s2=>∃ x H',Inv X pins σ H' s2∧RelV x u∧J.yld i H x H'∧tn (i+1) s2.heap∧∀ b∈fp,H' b=none) E s1) E s
 done:∀ (X:Cx),X.prog=P→X.w=w→X.K=K→X.calm=true→∀ (i:Nat) (pins:List (Addr×Obj)) (s:Shared) (σ:St) (H:Hp) (E:Value→Shared→Prop),Inv X pins σ H s→(∀ b∈fp,FpOk X pins H b)→tn i s.heap→J.stop i H →
  wpAny (model P w) X.A (pyNext (.ref it)) (fun r s1=>r=none∧Inv X pins σ H s1) E s
 self:∀ (A:Around) (i:Nat) (s:Shared) (Q:Value→Shared→Prop) (E:Value→Shared→Prop),tn i s.heap→Q (.ref it) s→wpAny (model P w) A (pyIter (.ref it)) Q E s
abbrev TI:=St→Hp→(It→Hp→Prop)→Prop
def PIE (X:Cx) (pins:List (Addr×Obj)) (σ:St) (tg:Expr) (R:It→Hp→Prop) (itv:Value) (s2:Shared):Prop :=
 ∃ (it:Addr) (fp:List Addr) (tn:Nat→Heap→Prop) (J:It) (H':Hp),itv=.ref it∧Inv X pins σ H' s2∧Turn X.prog X.w X.K tg J fp it tn∧tn 0 s2.heap∧(∀ b∈fp,FpOk X pins H' b)∧R J H'
def PI (X:Cx) (tg iter:Expr) (wi:TI):Prop :=
 ∀ (pins:List (Addr×Obj)) (s:Shared) (σ:St) (H:Hp) (R:It→Hp→Prop),Inv X pins σ H s→wi σ H R →
   wpAny (model X.prog X.w) X.A (eval iter X.env) (fun v s1=>wpAny (model X.prog X.w) X.A (pyIter v) (PIE X pins σ tg R) X.xe s1) X.xe s
theorem Zqy {M:Model} {n:String} {vs:Array Value} {Q:Unit→Shared→Prop} (ho:s.heap.get? it=some o) (hc:o.cls=.type n) (hd:o.data=.fields vs)
 (hn:["enumerate","zip","dict_itemiterator","dict_reverseitemiterator","odict_iterator","itertools.zip_longest","itertools.pairwise"].contains n=false) (hQ:Q () s):wpAny M A (letOwnedTupleGo tg (.ref it) u) Q E s:=by
 unfold letOwnedTupleGo
 cases tg<;>first
  | exact n3_ hQ
  | (cases u<;>first
      | exact n3_ hQ
      | (refine n0_ (wpAny_load ho ?_)
         rw [hc,hd];show wpAny M A (if (["enumerate","zip","dict_itemiterator","dict_reverseitemiterator","odict_iterator","itertools.zip_longest","itertools.pairwise"].contains n&&vs[0]? == some (rawInt _))=true then _ else _) Q E s
         rw [if_neg (by intro h;rw [hn,Bool.false_and] at h;cases h)];exact n3_ hQ))
def Itl (K:PySem.W.Frag) (a:Addr):It :=
 ⟨fun i H=>∃ xs x,SqL K H a xs∧xs[i]? = some x,fun i H x H'=>H'=H∧∀ xs,SqL K H a xs→xs[i]? = some x,fun i H=>∃ xs,SqL K H a xs∧xs.length≤i⟩
def Itt (K:PySem.W.Frag) (a:Addr):It :=
 ⟨fun i H=>∃ xs x,SqT K H a xs∧xs[i]? = some x,fun i H x H'=>H'=H∧∀ xs,SqT K H a xs→xs[i]? = some x,fun i H=>∃ xs,SqT K H a xs∧xs.length≤i⟩
def Itr (lo:Int) (n:Nat):It:=⟨fun i _=>i<n,fun i H x H'=>H'=H∧x=.int (lo+i),fun i _=>n≤i⟩
theorem Znq {K:PySem.W.Frag} (a it:Addr):Turn P w K tg (Itl K a) [it] it (fun i h=>h.IsListIter it a i) where
 mem:=by simp
 obj:=fun i h st b hb=>by
  have e:b=it:=by simpa using hb
  subst e;obtain ⟨o,e,c,d⟩:=st;exact ⟨o,e,fun v z=>by rw [d] at z;cases z⟩
 keep:=fun i h h' st k=>st.at fun o e=>k it (by simp) o e
 item:=by
  intro X hP hw hK hc i pins s σ H E I hf st hg;subst hP hw hK;obtain ⟨xs,x,hq,hx⟩:=hg;obtain ⟨its,rv,p,hz⟩:=I.list hq;obtain ⟨u,hu,ru⟩:=rv.get hx;obtain ⟨f0,f1,f2,f3,f4,f5⟩:=hf it (by simp);refine wpAny_pyNext_list_item st p.isList (x:=u) (by simpa using hu) fun h' st' sb=>?_;have I1:Inv X pins σ H { s with heap:=h' }:=I.turned (t':=s.toks) (fun b o hb e=>(sb.2 b hb).trans e) f0 f1 f3 f4 f5;obtain ⟨o,e,c,d⟩:=id st';exact ⟨u,rfl,Zqy (s:={ s with heap:=h' }) e c d (by decide) ⟨x,H,I1,ru,⟨rfl,fun ys hy=>by rw [I.list_inj hy hq];exact hx⟩,st',fun b hb=>(hf b hb).1⟩⟩
 done:=by
  intro X hP hw hK hc i pins s σ H E I hf st hg;subst hP hw hK;obtain ⟨xs,hq,hx⟩:=hg;obtain ⟨its,rv,p,hz⟩:=I.list hq;obtain ⟨f0,f1,f2,f3,f4,f5⟩:=hf it (by simp);have hl:=rv.length;exact wpAny_pyNext_list_end (I.ok.hd hc) st p.isList (by simp;omega) fun h' eb=>⟨rfl,I.turned (t':=s.toks) (fun b o hb e=>eb b o hb e) f0 f1 f3 f4 f5⟩
 self:=fun _ _ _ _ _ st h=>wpAny_pyIter_listiter st h
theorem Zkh {K:PySem.W.Frag} (a it:Addr):Turn P w K tg (Itt K a) [it] it (fun i h=>h.IsTupleIter it a i) where
 mem:=by simp
 obj:=fun i h st b hb=>by
  have e:b=it:=by simpa using hb
  subst e;obtain ⟨o,e,c,d⟩:=st;exact ⟨o,e,fun v z=>by rw [d] at z;cases z⟩
 keep:=fun i h h' st k=>st.at fun o e=>k it (by simp) o e
 item:=by
  intro X hP hw hK hc i pins s σ H E I hf st hg;subst hP hw hK;obtain ⟨xs,x,hq,hx⟩:=hg;obtain ⟨its,rv,p,hz⟩:=I.tuple hq;obtain ⟨u,hu,ru⟩:=rv.get hx;obtain ⟨f0,f1,f2,f3,f4,f5⟩:=hf it (by simp);refine wpAny_pyNext_tuple_item st (show s.heap.IsTuple a its.toArray from p) (x:=u) (by simpa using hu) fun h' st' sb=>?_;have I1:Inv X pins σ H { s with heap:=h' }:=I.turned (t':=s.toks) (fun b o hb e=>(sb.2 b hb).trans e) f0 f1 f3 f4 f5;obtain ⟨o,e,c,d⟩:=id st';exact ⟨u,rfl,Zqy (s:={ s with heap:=h' }) e c d (by decide) ⟨x,H,I1,ru,⟨rfl,fun ys hy=>by rw [I.tuple_inj hy hq];exact hx⟩,st',fun b hb=>(hf b hb).1⟩⟩
 done:=by
  intro X hP hw hK hc i pins s σ H E I hf st hg;subst hP hw hK;obtain ⟨xs,hq,hx⟩:=hg;obtain ⟨its,rv,p,hz⟩:=I.tuple hq;obtain ⟨f0,f1,f2,f3,f4,f5⟩:=hf it (by simp);have hl:=rv.length;exact wpAny_pyNext_tuple_end (I.ok.hd hc) st (show s.heap.IsTuple a its.toArray from p) (by simp;omega) fun h' eb=>⟨rfl,I.turned (t':=s.toks) (fun b o hb e=>eb b o hb e) f0 f1 f3 f4 f5⟩
 self:=fun _ _ _ _ _ st h=>wpAny_pyIter_tupleiter st h
theorem Zk3 {K:PySem.W.Frag} (it:Addr) (lo:Int) (n:Nat):Turn P w K tg (Itr lo n) [it] it (fun i h=>IsRangeIter h it (lo+(i:Nat)*1) ((n:Int)-(i:Nat)) 1) where
 mem:=by simp
 obj:=fun i h st b hb=>by
  have e:b=it:=by simpa using hb
  subst e
  exact ⟨_,st,fun v z=>by
   have z':Data.fields _=Data.cell v:=z;cases z'⟩
 keep:=fun i h h' st k=>k it (by simp) _ st
 item:=by
  intro X hP hw hK hc i pins s σ H E I hf st hg;subst hP hw hK;obtain ⟨f0,f1,f2,f3,f4,f5⟩:=hf it (by simp);have W:=Walks.range (prog:=X.prog) (w:=X.w) (I.ok.hd hc) it lo 1 n;refine W.item i s _ _ hg st fun v h' tk hv st' kk=>?_;obtain ⟨t,rfl⟩:=hv;have I1:Inv X pins σ H { s with heap:=h',toks:=tk }:=I.turned (fun b o hb e=>kk b o (by simpa using hb) e) f0 f1 f3 f4 f5;refine ⟨_,rfl,Zqy (s:={ s with heap:=h',toks:=tk }) (n := "range_iterator") st' rfl rfl (by decide) ⟨.int (lo+i),H,I1,⟨t,?_⟩,⟨rfl,rfl⟩,st',fun b hb=>(hf b hb).1⟩⟩;rw [Int.mul_one]
 done:=by
  intro X hP hw hK hc i pins s σ H E I hf st hg;subst hP hw hK;obtain ⟨f0,f1,f2,f3,f4,f5⟩:=hf it (by simp);exact wpAny_pyNext_range_end (I.ok.hd hc) st (by have:n≤i:=hg;omega) fun h' eb=>⟨rfl,I.turned (t':=s.toks) (fun b o hb e=>eb b o hb e) f0 f1 f3 f4 f5⟩
 self:=fun _ _ _ _ _ st h=>wpAny_pyIter_rangeiter st h
section
variable {X:Cx} {tg:Expr}
def Zvp (K:PySem.W.Frag) (tl:TE):TI:=fun σ H R=>tl σ H fun x H1=>∃ a,x=.ref a∧(∃ xs,SqL K H1 a xs)∧R (Itl K a) H1
def iTup (K:PySem.W.Frag) (tl:TE):TI:=fun σ H R=>tl σ H fun x H1=>∃ a,x=.ref a∧(∃ xs,SqT K H1 a xs)∧R (Itt K a) H1
theorem Yz {l:Expr} {tl:TE} (hl:PE X l tl):PI X tg l (Zvp X.K tl):=by
 intro pins s σ H R I h;refine thn (hl pins s σ H _ I h) fun v s1 ⟨x,H1,I1,r1,q1⟩=>?_;obtain ⟨a,e,⟨xs,hq⟩,q⟩:=q1;subst e;cases r1
 obtain ⟨its,rv,p,hz⟩:=I1.list hq;refine wpAny_pyIter_list p.isList ?_;refine ⟨s1.z,[s1.z],_,_,H1,rfl,I1.kept (t':=s1.toks) fun b o e=>n2_ _ e,Znq a _,⟨_,n8_ _ rfl,rfl,rfl⟩,fun b hb=>?_,q⟩;have e:b=s1.z:=by simpa using hb
 subst e;exact I1.fpOk (n7_ _) (I1.hok.fresh (n7_ _))
theorem Y2 {l:Expr} {tl:TE} (hl:PE X l tl):PI X tg l (iTup X.K tl):=by
 intro pins s σ H R I h;refine thn (hl pins s σ H _ I h) fun v s1 ⟨x,H1,I1,r1,q1⟩=>?_;obtain ⟨a,e,⟨xs,hq⟩,q⟩:=q1;subst e;cases r1
 obtain ⟨its,rv,p,hz⟩:=I1.tuple hq;refine wpAny_pyIter_tuple (show s1.heap.IsTuple a its.toArray from p) ?_;refine ⟨s1.z,[s1.z],_,_,H1,rfl,I1.kept (t':=s1.toks) fun b o e=>n2_ _ e,Zkh a _,⟨_,n8_ _ rfl,rfl,rfl⟩,fun b hb=>?_,q⟩;have e:b=s1.z:=by simpa using hb
 subst e;exact I1.fpOk (n7_ _) (I1.hok.fresh (n7_ _))
theorem Zoj {R:It→Hp→Prop} {lo hi:Int} {t u v:Tok} {tk:Nat} (I:Inv X pins σ H s) (h1:-(2^62)≤lo) (h2:lo<2^62) (h3:-(2^62)≤hi) (h4:hi<2^62)
 (q:R (Itr lo (hi-lo).toNat) H):wpAny (model X.prog X.w) X.A (pyIter (.ref s.z)) (PIE X pins σ tg R) E { s with heap:=s.heap.push { cls:=.type "range",data:=.fields #[.int lo t,.int hi u,.int 1 v] },toks:=tk }:=by
 refine wpAny_pyIter_range (IsRange.new ..) (small_one h1 h2 h3 h4) ?_;have I1:Inv X pins σ H { s with heap:=s.heap.push { cls:=.type "range",data:=.fields #[.int lo t,.int hi u,.int 1 v] },toks:=tk }:=I.kept fun b o e=>n2_ _ e
 refine ⟨(s.heap.push { cls:=.type "range",data:=.fields #[.int lo t,.int hi u,.int 1 v] }).objs.size,[(s.heap.push { cls:=.type "range",data:=.fields #[.int lo t,.int hi u,.int 1 v] }).objs.size],_,_,H,rfl,
  I1.kept (t':=tk) fun b o e=>n2_ _ e,Zk3 _ lo (hi-lo).toNat,?_,fun b hb=>?_,q⟩
 · have e1:lo+((0:Nat):Int)*1=lo:=by simp
   have e2:(((hi-lo).toNat:Nat):Int)-((0:Nat):Int)=Builtin.Range.rangeSize lo hi 1:=by rw [rangeSize_one];split<;>omega
   show IsRangeIter _ _ (lo+((0:Nat):Int)*1) ((((hi-lo).toNat:Nat):Int)-((0:Nat):Int)) 1
   rw [e1,e2];exact n8_ _ rfl
 · have e:b=(s.heap.push { cls:=.type "range",data:=.fields #[.int lo t,.int hi u,.int 1 v] }).objs.size:=by simpa using hb
   subst e;exact I1.fpOk (n7_ _) (I1.hok.fresh (n7_ _))
def Zvg (ta:TA):TI:=fun σ H R=>ta σ H fun vs H1=>∃ j:Int,vs=[.int j]∧-(2^62)≤j∧j<2^62∧R (Itr 0 j.toNat) H1
theorem Zgr {a:Expr} {p:Pos} (hg:Gl X "range") (hm:X.mg "range" = none) (ha:PA X [a] ta) (hs:starEach [a] X.env=[(false,eval a X.env)]:=by rfl):PI X tg (.Call (.Name "range" p) [a] [] pos) (Zvg ta):=by
 intro pins s σ H R I h;refine Call_ (Zas I hg hm boot_range (n43_ (thn (ha pos pins s σ H _ I h) fun us s1 ⟨vs,H1,I1,r1,q1⟩=>?_) hs rfl));obtain ⟨j,e,q1,q2,q⟩:=q1;subst e;cases r1 with
 | cons r rr =>
   cases rr
   obtain ⟨t,rfl⟩:=r;exact call_range_1 (Zoj I1 (by omega) (by omega) q1 q2 (by simpa using q))
def tFor (wi:TI) (g:TG) (tb:TS):TS:=fun D σ H=>wi σ H fun J H1=>∃ W:Nat→Nat→St→Hp→Prop,(∃ m,W 0 m σ H1)∧∀ i m σ H,W i m σ H →
 (J.stop i H∧D.nx σ H)∨(J.go i H∧∃ N:St→Hp→Prop,(∀ σ' H',N σ' H'→∃ m',m'<m∧W (i+1) m' σ' H')∧∀ x H',J.yld i H x H'→g x σ H' fun σ2 H2=>tb { D with nx:=N,ct:=N,bk:=D.nx } σ2 H2)
noncomputable def Zjv (fp:List Addr) (h:Heap):List (Addr×Obj):=fp.filterMap fun b=>(h.get? b).map fun o=>(b,o)
theorem Y5 (hb:b∈fp) (e:h.get? b=some o):(b,o)∈Zjv fp h:=n62_.mpr ⟨b,hb,by rw [e];rfl⟩
theorem Zlt {p:Addr×Obj} (hp:p∈Zjv fp h):p.1∈fp∧h.get? p.1=some p.2:=by
 obtain ⟨b,hb,e⟩:=n62_.mp hp;cases q:h.get? b with
 | none=>rw [q] at e;cases e
 | some o =>
   rw [q] at e;have e':(b,o)=p:=Option.some.inj e;subst e';exact ⟨hb,q⟩
theorem Inv.pinned (I:Inv X pins σ H s) (hf:∀ b∈fp,FpOk X pins H b) (ho:∀ b∈fp,∃ o,s.heap.get? b=some o∧∀ v,o.data≠.cell v):Inv X (pins++Zjv fp s.heap) σ H s :=
 I.pins_of fun p hp=>(List.mem_append.mp hp).elim (fun z=>I.pin p (n27_ _ z)) fun z=>by
  obtain ⟨hb,e⟩:=Zlt z;obtain ⟨f0,f1,f2,_⟩:=hf p.1 hb;obtain ⟨o,e',d⟩:=ho p.1 hb;rw [e] at e';cases e';exact ⟨e,f0,f1,f2,d⟩
theorem Inv.unpinned {pl:List (Addr×Obj)} (I:Inv X (pins++pl) σ H s):Inv X pins σ H s:=I.pins_of fun p hp=>I.pin p (n27_ _ (List.mem_append_left _ hp))
theorem X9 {iter:Expr} {body:List Stmt} {wi:TI} {g:TG} {tb:TS} {pos:Pos} (hp:PassesOwn (model X.prog X.w) X.A X.env X.xe) (hc:X.calm=true) (hi:PI X tg iter wi) (hg:PG X tg g) (hb:PSs X body tb)
 (hs:∀ x,foldedSetIterable iter X.env x=pure x:=by intro _;rfl):PS X (.For tg iter body [] pos) (tFor wi g tb):=by
 intro pins s σ H D I h;refine wpAny_For (thn (hi pins s σ H _ I h) fun v s1 h1=>thn h1 fun itv s2 h2=>?_) hs;obtain ⟨it,fp,tn,J,H2,e,I2,T,st2,f2,W,⟨m0,w0⟩,turn⟩:=h2;subst e;have stat:∀ {H':Hp},(∀ b∈fp,H' b=none)→∀ b∈fp,FpOk X pins H' b:=fun hn b hb=>⟨hn b hb,(f2 b hb).2⟩;refine codeAny_forLoop_any (fun n s'=>∃ i σ' H',Inv X pins σ' H' s'∧tn i s'.heap∧(∀ b∈fp,H' b=none)∧W i n σ' H') ?_ m0 ⟨0,σ,H2,I2,st2,fun b hb=>(f2 b hb).1,w0⟩;rintro n s3 ⟨i,σ3,H3,I3,st3,fr3,w3⟩
 rcases turn i n σ3 H3 w3 with ⟨stop,qn⟩|⟨go,N,hN,step⟩
 · refine wpAny_passesOwn hp (thn (T.done X rfl rfl rfl hc i pins s3 σ3 H3 X.xe I3 (stat fr3) st3 stop) fun r s4 ⟨hr,I4⟩=>?_);subst hr;exact wpAny_execs_nil ⟨σ3,H3,I4,qn⟩
 · refine wpAny_passesOwn hp (thn (T.item X rfl rfl rfl hc i pins s3 σ3 H3 X.xe I3 (stat fr3) st3 go) fun r s4 ⟨u,hr,h4⟩=>?_);subst hr;refine wpAny_passesOwn hp (thn h4 fun _ s5 ⟨x,H5,I5,r5,y5,st5,fr5⟩=>?_);have I5':=I5.pinned (stat fr5) (T.obj _ _ st5);refine wpAny_passesOwn hp (thn (hg _ s5 σ3 H5 x u _ I5' r5 (step x H5 y5)) fun _ s6 ⟨σ6,H6,I6,q6⟩=>?_);refine wpAny_passesOwn hp (thn (hb _ s6 σ6 H6 _ I6 q6) fun f s7 q7=>?_)
   have again:∀ {σ7:St} {H7:Hp},Inv X (pins++Zjv fp s5.heap) σ7 H7 s7→N σ7 H7→∃ m,m<n∧∃ i σ' H',Inv X pins σ' H' s7∧tn i s7.heap∧(∀ b∈fp,H' b=none)∧W i m σ' H':=fun {σ7 H7} I7 n7=>by
    obtain ⟨m',hm,w7⟩:=hN σ7 H7 n7;refine ⟨m',hm,i+1,σ7,H7,I7.unpinned,T.keep _ _ _ st5 fun b hb o e=>(I7.pin (b,o) (n27_ _ (n27_ _ (Y5 hb e)))).1,fun b hb=>?_,w7⟩;obtain ⟨o,e,d⟩:=T.obj _ _ st5 b hb;exact (I7.pin (b,o) (n27_ _ (n27_ _ (Y5 hb e)))).2.1
   cases f with
   | next=>obtain ⟨σ7,H7,I7,n7⟩:=q7;exact again I7 n7
   | cont=>obtain ⟨σ7,H7,I7,n7⟩:=q7;exact again I7 n7
   | brk=>obtain ⟨σ7,H7,I7,q7⟩:=q7;exact ⟨σ7,H7,I7.unpinned,q7⟩
   | ret v=>obtain ⟨x7,σ7,H7,I7,r7,q7⟩:=q7;exact ⟨x7,σ7,H7,I7.unpinned,r7,q7⟩
end
theorem Zf6 {lo:Int} {tb:TS} {D:Ends} (Pv:Nat→St→Hp→Prop) (h0:Pv 0 σ H)
 (hs:∀ i σ H,i<n→Pv i σ H→g (.int (lo+i)) σ H fun σ2 H2=>tb { D with nx:=Pv (i+1),ct:=Pv (i+1),bk:=D.nx } σ2 H2) (hd:∀ σ H,Pv n σ H→D.nx σ H) :
 ∃ W:Nat→Nat→St→Hp→Prop,(∃ m,W 0 m σ H)∧∀ i m σ H,W i m σ H →
   ((Itr lo n).stop i H∧D.nx σ H)∨((Itr lo n).go i H∧∃ N:St→Hp→Prop,(∀ σ' H',N σ' H'→∃ m',m'<m∧W (i+1) m' σ' H')∧∀ x H',(Itr lo n).yld i H x H'→g x σ H' fun σ2 H2=>tb { D with nx:=N,ct:=N,bk:=D.nx } σ2 H2):=by
 refine ⟨fun i m σ H=>m=n-i∧i≤n∧Pv i σ H,⟨n,by simp,n42_ _,h0⟩,?_⟩;rintro i m σ H ⟨rfl,hi,p⟩
 by_cases hlt:i<n
 · refine .inr ⟨hlt,Pv (i+1),fun σ' H' p'=>⟨n-(i+1),by omega,rfl,hlt,p'⟩,fun x H' y=>?_⟩;obtain ⟨e,y⟩:=y;subst e y;exact hs i σ _ hlt p
 · have e:i=n:=by omega
   subst e;exact .inl ⟨n7_ _,hd σ H p⟩
theorem Zpe {c:TT} {tb:TS} {D:Ends} (Pv:St→Hp→Prop) (μ:St→Hp→Nat) (h0:Pv σ H)
 (hs:∀ σ H,Pv σ H→c σ H fun b H1=>if b=true then tb { D with nx:=fun σ' H'=>Pv σ' H'∧μ σ' H'<μ σ H,ct:=fun σ' H'=>Pv σ' H'∧μ σ' H'<μ σ H,bk:=D.nx } σ H1 else D.nx σ H1)
 (mono:∀ σ H Q Q',(∀ b H1,Q b H1→Q' b H1)→c σ H Q→c σ H Q'):Zp0 c tb D σ H:=by
 refine ⟨fun m σ H=>m=μ σ H∧Pv σ H,⟨_,rfl,h0⟩,?_⟩;rintro m σ H ⟨rfl,p⟩
 refine mono σ H _ _ (fun b H1 q=>?_) (hs σ H p);cases b with
 | true=>exact ⟨_,fun σ' H' ⟨p',l⟩=>⟨_,l,rfl,p'⟩,q⟩
 | false=>exact q
abbrev R2:=V→V→Hp→VK→Prop
def OpR (X:Cx) (f:Value→Value→Sem Value) (r:R2):Prop :=
 ∀ (pins:List (Addr×Obj)) (s:Shared) (σ:St) (H:Hp) (x y:V) (v u:Value) (Q:VK),Inv X pins σ H s→RelV x v→RelV y u→r x y H Q →
   wpAny (model X.prog X.w) X.A (f v u) (EP X pins σ Q) X.xe s
def UnR (X:Cx) (f:Value→Sem Value) (r:V→Hp→VK→Prop):Prop :=
 ∀ (pins:List (Addr×Obj)) (s:Shared) (σ:St) (H:Hp) (x:V) (v:Value) (Q:VK),Inv X pins σ H s→RelV x v→r x H Q →
   wpAny (model X.prog X.w) X.A (f v) (EP X pins σ Q) X.xe s
def Xn (X:Cx) (f:Value) (r:List V→Hp→VK→Prop):Prop :=
 ∀ (pins:List (Addr×Obj)) (s:Shared) (σ:St) (H:Hp) (xs:List V) (us:List Value) (Q:VK),Inv X pins σ H s→Vals xs us→r xs H Q →
   wpAny (model X.prog X.w) X.A (call f us) (EP X pins σ Q) X.xe s
def TruR (X:Cx) (r:V→Hp→(Bool→Hp→Prop)→Prop):Prop :=
 ∀ (pins:List (Addr×Obj)) (s:Shared) (σ:St) (H:Hp) (x:V) (v:Value) (Q:Bool→Hp→Prop),Inv X pins σ H s→RelV x v→r x H Q →
   wpAny (model X.prog X.w) X.A (truthy v) (TP X pins σ Q) X.xe s
def tOp (r:R2) (ta tb:TE):TE:=fun σ H Q=>ta σ H fun x H1=>tb σ H1 fun y H2=>r x y H2 Q
def tUn (r:V→Hp→VK→Prop) (ta:TE):TE:=fun σ H Q=>ta σ H fun x H1=>r x H1 Q
def rI (C:Int→Int→Prop) (g:Int→Int→V):R2:=fun x y H Q=>∃ i j,x=.int i∧y=.int j∧C i j∧Q (g i j) H
def rI0 (g:Int→Int→V):R2:=fun x y H Q=>∃ i j,x=.int i∧y=.int j∧Q (g i j) H
def rU (g:Int→V):V→Hp→VK→Prop:=fun x H Q=>∃ i,x=.int i∧Q (g i) H
section
variable {X:Cx} {a b c:Expr} {ta tb tc:TE} {pos:Pos}
theorem binT (ha:PE X a ta) (hb:PE X b tb) {R:V→V→Hp→Prop} (I:Inv X pins σ H s)
 (h:ta σ H fun x H1=>tb σ H1 fun y H2=>R x y H2) {f:Value→Value→Sem Value}
 (hf:∀ v u s2 x y H2,Inv X pins σ H2 s2→RelV x v→RelV y u→R x y H2→wpAny (model X.prog X.w) X.A (f v u) Q X.xe s2) :
 wpAny (model X.prog X.w) X.A (eval a X.env) (fun v s₁=>wpAny (model X.prog X.w) X.A (eval b X.env) (fun u s₂=>wpAny (model X.prog X.w) X.A (f v u) Q X.xe s₂) X.xe s₁) X.xe s:=by
 refine thn (ha pins s σ H _ I h) fun v s1 ⟨x,H1,I1,r1,q1⟩=>?_;refine thn (hb pins s1 σ H1 _ I1 q1) fun u s2 ⟨y,H2,I2,r2,q2⟩=>?_;exact hf v u s2 x y H2 I2 r1 r2 q2
theorem Zp {op:Operator} {r:R2} (ho:OpR X (binaryOp op) r) (ha:PE X a ta) (hb:PE X b tb):PE X (.BinOp a op b pos) (tOp r ta tb):=by
 intro pins s σ H Q I h;exact wpAny_BinOp (binT ha hb I h fun v u s2 x y H2 I2 rx ry q=>ho pins s2 σ H2 x y v u Q I2 rx ry q)
theorem Zco {op:UnaryOp} {r:V→Hp→VK→Prop} (ho:UnR X (unaryOp op) r) (ha:PE X a ta):PE X (.UnaryOp op a pos) (tUn r ta):=by
 intro pins s σ H Q I h;exact UnaryOp_ (thn (ha pins s σ H _ I h) fun v s1 ⟨x,H1,I1,r1,q1⟩=>ho pins s1 σ H1 x v Q I1 r1 q1)
theorem opI {f:Value→Value→Sem Value} {C:Int→Int→Prop} {g:Int→Int→Int}
 (rule:∀ (i j:Int) (t u:Tok) (s:Shared) (Q:Value→Shared→Prop) (E:Value→Shared→Prop),C i j→Q (.int (g i j) s.toks) { s with toks:=s.toks+1 }→wpAny (model X.prog X.w) X.A (f (.int i t) (.int j u)) Q E s) :
 OpR X f (rI C fun i j=>.int (g i j)):=by
 intro pins s σ H x y v u Q I rx ry h;obtain ⟨i,j,rfl,rfl,hc,q⟩:=h;obtain ⟨t,rfl⟩:=rx;obtain ⟨t',rfl⟩:=ry;exact rule i j t t' s _ _ hc ⟨.int (g i j),H,I.tok _,⟨_,rfl⟩,q⟩
theorem opI0 {f:Value→Value→Sem Value} {g:Int→Int→Int}
 (rule:∀ (i j:Int) (t u:Tok) (s:Shared) (Q:Value→Shared→Prop) (E:Value→Shared→Prop),Q (.int (g i j) s.toks) { s with toks:=s.toks+1 }→wpAny (model X.prog X.w) X.A (f (.int i t) (.int j u)) Q E s) :
 OpR X f (rI0 fun i j=>.int (g i j)):=by
 intro pins s σ H x y v u Q I rx ry h;obtain ⟨i,j,rfl,rfl,q⟩:=h;obtain ⟨t,rfl⟩:=rx;obtain ⟨t',rfl⟩:=ry;exact rule i j t t' s _ _ ⟨.int (g i j),H,I.tok _,⟨_,rfl⟩,q⟩
theorem opB0 {f:Value→Value→Sem Value} {g:Int→Int→Bool}
 (rule:∀ (i j:Int) (t u:Tok) (s:Shared) (Q:Value→Shared→Prop) (E:Value→Shared→Prop),Q (.bool (g i j)) s→wpAny (model X.prog X.w) X.A (f (.int i t) (.int j u)) Q E s) :
 OpR X f (rI0 fun i j=>.bl (g i j)):=by
 intro pins s σ H x y v u Q I rx ry h;obtain ⟨i,j,rfl,rfl,q⟩:=h;obtain ⟨t,rfl⟩:=rx;obtain ⟨t',rfl⟩:=ry;exact rule i j t t' s _ _ ⟨.bl (g i j),H,I,rfl,q⟩
def CPow (i j:Int):Prop:=0≤j∧j≤1000000∧i.natAbs<2^64
theorem Yd:OpR X (binaryOp .Add) (rI0 fun i j=>.int (i+j)):=opI0 fun _ _ _ _ _ _ _ q=>add_int q
theorem Xd:OpR X (binaryOp .Sub) (rI0 fun i j=>.int (i-j)):=opI0 fun _ _ _ _ _ _ _ q=>sub_int q
theorem Zb7:OpR X (binaryOp .Mod) (rI (fun _ j=>j≠0) fun i j=>.int (i.fmod j)):=opI fun _ _ _ _ _ _ _ hc q=>mod_int' hc q
theorem Zpw:OpR X (binaryOp .Pow) (rI CPow fun i j=>.int (i^j.toNat)):=opI fun _ _ _ _ _ _ _ hc q=>pow_int_small hc.1 hc.2.1 hc.2.2 q
theorem unI {f:Value→Sem Value} {g:Int→Int}
 (rule:∀ (i:Int) (t:Tok) (s:Shared) (Q:Value→Shared→Prop) (E:Value→Shared→Prop),Q (.int (g i) s.toks) { s with toks:=s.toks+1 }→wpAny (model X.prog X.w) X.A (f (.int i t)) Q E s) :
 UnR X f (rU fun i=>.int (g i)):=by
 intro pins s σ H x v Q I rx h;obtain ⟨i,rfl,q⟩:=h;obtain ⟨t,rfl⟩:=rx;exact rule i t s _ _ ⟨.int (g i),H,I.tok _,⟨_,rfl⟩,q⟩
theorem Zap:UnR X (unaryOp .USub) (rU fun i=>.int (-i)):=unI fun _ _ _ _ _ q=>neg_int q
end
noncomputable def scal:V→V→Bool
 | .non,.non=>true|.non,.int _=>true|.int _,.non=>true|.non,.bl _=>true|.bl _,.non=>true|.non,.str _=>true|.str _,.non=>true
 | .int _,.int _=>true|.bl _,.bl _=>true|.str _,.str _=>true|.byt _,.byt _=>true
 | .int _,.str _=>true|.str _,.int _=>true|.bl _,.str _=>true|.str _,.bl _=>true
 | _,_=>false
def rEq:R2:=fun x y H Q=>scal x y=true∧Q (.bl (decide (x=y))) H
def rNe:R2:=fun x y H Q=>scal x y=true∧Q (.bl (!decide (x=y))) H
theorem Zlq {i j:Int}:decide (V.int i=V.int j)=(i == j):=by
 rw [n56_]
 simp
theorem Zqi {i j:Bool}:decide (V.bl i=V.bl j)=(i == j):=by
 rw [n56_]
 simp
theorem Zn4 {i j:Str}:decide (V.str i=V.str j)=(i == j):=by
 rw [n56_]
 simp
theorem Znf {i j:Array UInt8}:decide (V.byt i=V.byt j)=(i.toList == j.toList):=by
 rw [n56_];cases i
 cases j
 simp
section
variable {X:Cx} {a b c:Expr} {ta tb tc:TE} {pos:Pos}
theorem Z8 {Q:VK} {k k':Bool} (I:Inv X pins σ H s) (q:Q (.bl k) H) (e:k=k'):EP X pins σ Q (.bool k') s:=by
 subst e;exact ⟨.bl k,H,I,rfl,q⟩
theorem Zmo:OpR X (compareOp .Eq) rEq:=by
 intro pins s σ H x y v u Q I rx ry h;obtain ⟨hs,q⟩:=h;cases x with
 | non =>
   cases rx
   cases y with
   | non=>cases ry;exact PySem.EqNone.eq_none_none (Z8 I q (by simp))
   | bl j=>cases ry;exact PySem.EqNone.eq_none_bool (Z8 I q (by simp))
   | int j=>obtain ⟨t',rfl⟩:=ry;exact PySem.EqNone.eq_none_int (Z8 I q (by simp))
   | str j=>obtain ⟨t',rfl⟩:=ry;exact PySem.EqNone.eq_none_str (Z8 I q (by simp))
   | _=>exact absurd (show false=true from hs) n23_
 | bl i =>
   cases rx
   cases y with
   | non=>cases ry;exact PySem.EqNone.eq_bool_none (Z8 I q (by simp))
   | bl j=>cases ry;exact eq_bool (Z8 I q Zqi)
   | str j=>obtain ⟨t',rfl⟩:=ry;exact PySem.EqMixed.eq_bool_str (Z8 I q (by simp))
   | _=>exact absurd (show false=true from hs) n23_
 | int i =>
   obtain ⟨t,rfl⟩:=rx;cases y with
   | non=>cases ry;exact PySem.EqNone.eq_int_none (Z8 I q (by simp))
   | int j=>obtain ⟨t',rfl⟩:=ry;exact eq_int (Z8 I q Zlq)
   | str j=>obtain ⟨t',rfl⟩:=ry;exact PySem.EqMixed.eq_int_str (Z8 I q (by simp))
   | _=>exact absurd (show false=true from hs) n23_
 | str i =>
   obtain ⟨t,rfl⟩:=rx;cases y with
   | non=>cases ry;exact PySem.EqNone.eq_str_none (Z8 I q (by simp))
   | bl j=>cases ry;exact PySem.EqMixed.eq_str_bool (Z8 I q (by simp))
   | int j=>obtain ⟨t',rfl⟩:=ry;exact PySem.EqMixed.eq_str_int (Z8 I q (by simp))
   | str j=>obtain ⟨t',rfl⟩:=ry;exact eq_str (Z8 I q Zn4)
   | _=>exact absurd (show false=true from hs) n23_
 | byt i =>
   obtain ⟨t,rfl⟩:=rx;cases y with
   | byt j=>obtain ⟨t',rfl⟩:=ry;exact PySem.W.eq_bytes (Z8 I q Znf)
   | _=>exact absurd (show false=true from hs) n23_
 | _=>cases y<;>exact absurd (show false=true from hs) n23_
theorem Zl2:OpR X (compareOp .NotEq) rNe:=by
 intro pins s σ H x y v u Q I rx ry h;obtain ⟨hs,q⟩:=h;cases x with
 | non =>
   cases rx
   cases y with
   | non=>cases ry;exact PySem.EqNone.ne_none_none (Z8 I q (by simp))
   | bl j=>cases ry;exact PySem.EqNone.ne_none_bool (Z8 I q (by simp))
   | int j=>obtain ⟨t',rfl⟩:=ry;exact PySem.EqNone.ne_none_int (Z8 I q (by simp))
   | str j=>obtain ⟨t',rfl⟩:=ry;exact PySem.EqNone.ne_none_str (Z8 I q (by simp))
   | _=>exact absurd (show false=true from hs) n23_
 | bl i =>
   cases rx
   cases y with
   | non=>cases ry;exact PySem.EqNone.ne_bool_none (Z8 I q (by simp))
   | bl j=>cases ry;exact ne_bool (Z8 I q (congrArg not Zqi))
   | str j=>obtain ⟨t',rfl⟩:=ry;exact PySem.EqMixed.ne_bool_str (Z8 I q (by simp))
   | _=>exact absurd (show false=true from hs) n23_
 | int i =>
   obtain ⟨t,rfl⟩:=rx;cases y with
   | non=>cases ry;exact PySem.EqNone.ne_int_none (Z8 I q (by simp))
   | int j=>obtain ⟨t',rfl⟩:=ry;exact ne_int (Z8 I q (congrArg not Zlq))
   | str j=>obtain ⟨t',rfl⟩:=ry;exact PySem.EqMixed.ne_int_str (Z8 I q (by simp))
   | _=>exact absurd (show false=true from hs) n23_
 | str i =>
   obtain ⟨t,rfl⟩:=rx;cases y with
   | non=>cases ry;exact PySem.EqNone.ne_str_none (Z8 I q (by simp))
   | bl j=>cases ry;exact PySem.EqMixed.ne_str_bool (Z8 I q (by simp))
   | int j=>obtain ⟨t',rfl⟩:=ry;exact PySem.EqMixed.ne_str_int (Z8 I q (by simp))
   | str j=>obtain ⟨t',rfl⟩:=ry;exact ne_str (Z8 I q (congrArg not Zn4))
   | _=>exact absurd (show false=true from hs) n23_
 | byt i =>
   obtain ⟨t,rfl⟩:=rx;cases y with
   | byt j=>obtain ⟨t',rfl⟩:=ry;exact PySem.W.ne_bytes (Z8 I q (congrArg not Znf))
   | _=>exact absurd (show false=true from hs) n23_
 | _=>cases y<;>exact absurd (show false=true from hs) n23_
theorem Zna:OpR X (compareOp .Lt) (rI0 fun i j=>.bl (decide (i<j))):=opB0 fun _ _ _ _ _ _ _ q=>lt_int q
theorem Zh6:OpR X (compareOp .LtE) (rI0 fun i j=>.bl (decide (i≤j))):=opB0 fun _ _ _ _ _ _ _ q=>le_int q
theorem Zst:OpR X (compareOp .Gt) (rI0 fun i j=>.bl (decide (j<i))):=opB0 fun _ _ _ _ _ _ _ q=>gt_int q
theorem Zu1:OpR X (compareOp .GtE) (rI0 fun i j=>.bl (decide (j≤i))):=opB0 fun _ _ _ _ _ _ _ q=>ge_int q
theorem Zqp:OpR X (compareOp .IsNot) (fun x y H Q=>y=.non∧Q (.bl (!decide (x=.non))) H):=by
 intro pins s σ H x y v u Q I rx ry h;obtain ⟨rfl,q⟩:=h;cases ry
 refine isnot_none_gen (Z8 I q ?_)
 cases x<;>first
  | (cases rx;rfl)
  | (obtain ⟨t,rfl⟩:=rx;rfl)
theorem Yn (b:Expr) {op:CmpOp} (h:op≠.In:=by decide) (h2:op≠.NotIn:=by decide):behindInMarks op b=false:=by
 have e1:(op == CmpOp.In)=false:=by cases op<;>first|rfl|exact absurd rfl h
 have e2:(op == CmpOp.NotIn)=false:=by cases op<;>first|rfl|exact absurd rfl h2
 cases b<;>simp [behindInMarks,e1,e2]
theorem Xs {op:CmpOp} {r:R2} (ho:OpR X (compareOp op) r) (ha:PE X a ta) (hb:PE X b tb) (hm:behindInMarks op b=false):PE X (.Compare a [op] [b] pos) (tOp r ta tb):=by
 intro pins s σ H Q I h;exact wpAny_Compare1 (binT ha hb I h fun v u s2 x y H2 I2 rx ry q=>ho pins s2 σ H2 x y v u Q I2 rx ry q) hm
def Zvb (t:TE):TT:=fun σ H Q=>t σ H fun x H'=>∃ k,x=.bl k∧Q k H'
theorem Yl {op:CmpOp} {r:R2} (ho:OpR X (compareOp op) r) (ha:PE X a ta) (hb:PE X b tb) (hm:behindInMarks op b=false):PT X (.Compare a [op] [b] pos) (Zvb (tOp r ta tb)):=by
 intro pins s σ H Q I h
 refine wpAny_isTrue_Compare1 (thn (ha pins s σ H _ I h) fun v s1 ⟨x,H1,I1,r1,q1⟩=>thn (hb pins s1 σ H1 _ I1 q1) fun u s2 ⟨y,H2,I2,r2,q2⟩ =>
  thn (ho pins s2 σ H2 x y v u _ I2 r1 r2 q2) fun c s3 ⟨z,H3,I3,r3,k,e,q3⟩=>?_) hm
 subst e;cases r3
 exact wpAny_truthy_bool ⟨H3,I3,q3⟩
def Ztf (r r':R2) (ta tb tc:TE):TE:=fun σ H Q=>ta σ H fun x H1=>tb σ H1 fun y H2=>r x y H2 fun z H3=>∃ k,z=.bl k ∧
 (if k=true then tc σ H3 fun w' H4=>r' y w' H4 Q else Q (.bl false) H3)
theorem Zfr {op op':CmpOp} {r r':R2} (ho:OpR X (compareOp op) r) (ho':OpR X (compareOp op') r') (ha:PE X a ta) (hb:PE X b tb) (hc:PE X c tc)
 (hm:lastMarks [op,op'] [b,c]=false:=by with_unfolding_all rfl):PE X (.Compare a [op,op'] [b,c] pos) (Ztf r r' ta tb tc):=by
 intro pins s σ H Q I h
 refine Compare_chain (thn (ha pins s σ H _ I h) fun v s1 ⟨x,H1,I1,r1,q1⟩=>chain_link (thn (hb pins s1 σ H1 _ I1 q1) fun u s2 ⟨y,H2,I2,r2,q2⟩ =>
  thn (ho pins s2 σ H2 x y v u _ I2 r1 r2 q2) fun d s3 ⟨z,H3,I3,r3,k,e,q3⟩=>?_)) hm
 subst e;cases r3
 refine wpAny_truthy_bool ?_;cases k with
 | false=>exact ite_ff ⟨.bl false,H3,I3,rfl,q3⟩
 | true=>exact ite_tt (chain_last (thn (hc pins s3 σ H3 _ I3 q3) fun w' s4 ⟨z',H4,I4,r4,q4⟩=>ho' pins s4 σ H4 y z' u w' Q I4 r2 r4 q4))
def TruV (K:PySem.W.Frag) (x:V) (H:Hp) (k:Bool):Prop :=
 match x with
 | .non=>k=false
 | .bl b=>k=b
 | .int i=>k=(i != 0)
 | .str y=>y.length≤sizeLine∧k=((y.length:Int) != 0)
 | .byt y=>y.size≤sizeLine∧k=((y.size:Int) != 0)
 | .ref p=>(∃ xs,SqL K H p xs∧k = !xs.isEmpty)∨(∃ xs,SqT K H p xs∧k = !xs.isEmpty)∨∃ kvs,H p=some (.dK kvs)∧k = !kvs.isEmpty
 | _=>False
theorem Zkx {κ:Type} {kvs:List (κ×V)} {vs:List (κ×Value)} (r:KV kvs vs):(!vs.isEmpty) = !kvs.isEmpty:=by
 cases r<;>rfl
theorem Zev (r:Vals xs its):(!its.toArray.isEmpty) = !xs.isEmpty:=by
 cases r<;>simp
theorem Zdu:(sizeLine:Nat)<2^63:=by rw [sizeLine_eq];decide
theorem Zth:TruR X (fun x H Q=>∃ k,TruV X.K x H k∧Q k H):=by
 intro pins s σ H x v Q I rx h;obtain ⟨k,e,q⟩:=h;have hl:=Zdu;have hs:sizeLine=16777216:=sizeLine_eq;cases x with
 | non =>
   cases rx
   have e':k=false:=e;subst e';exact truthy_none ⟨H,I,q⟩
 | bl b =>
   cases rx
   have e':k=b:=e;subst e';exact wpAny_truthy_bool ⟨H,I,q⟩
 | int i =>
   obtain ⟨t,rfl⟩:=rx;have e':k=(i != 0):=e;subst e';exact PySem.P.truthy_int ⟨H,I,q⟩
 | str y =>
   obtain ⟨t,rfl⟩:=rx;obtain ⟨hy,e'⟩:y.length≤sizeLine∧k=((y.length:Int) != 0):=e;subst e';exact PySem.P.truthy_str (by omega) ⟨H,I.tok _,q⟩
 | byt y =>
   obtain ⟨t,rfl⟩:=rx;obtain ⟨hy,e'⟩:y.size≤sizeLine∧k=((y.size:Int) != 0):=e;subst e';exact PySem.W.truthy_bytes (by omega) ⟨H,I.tok _,q⟩
 | ref p =>
   cases rx
   have e':(∃ xs,SqL X.K H p xs∧k = !xs.isEmpty)∨(∃ xs,SqT X.K H p xs∧k = !xs.isEmpty)∨∃ kvs,H p=some (.dK kvs)∧k = !kvs.isEmpty:=e
   rcases e' with ⟨xs,hx,e'⟩|⟨xs,hx,e'⟩|⟨kvs,hx,e'⟩
   · subst e';obtain ⟨its,r,pl,hz⟩:=I.list hx;have hlen:=r.length;exact wpAny_truthy_list pl.isList (by simp only [n9_];omega) ⟨H,I.tok _,by rw [Zev r];exact q⟩
   · subst e';obtain ⟨its,r,pl,hz⟩:=I.tuple hx;have hlen:=r.length;exact truthy_tuple pl (by simp only [n9_];omega) ⟨H,I.tok _,by rw [Zev r];exact q⟩
   · subst e';obtain ⟨hz,hS,vs,r,m⟩:kvs.length≤sizeLine∧(p == sysModules)=false∧∃ vs,KV kvs vs∧s.heap.DictOf (Yq X.prog X.w) p vs:=I.hok p _ hx;have hlen:kvs.length=vs.length:=Paired.length r;exact wpAny_truthy_dict hS m (by omega) ⟨H,I.tok _,by rw [Zkx r];exact q⟩
 | _=>exact (show False from e).elim
theorem Zy (ha:PE X a ta) (he:∀ whole,isTrue a X.env whole=(do let v ← whole;standAt a.pos;holding [v] (truthy v))) :
 PT X a (fun σ H Q=>ta σ H fun x H'=>∃ k,TruV X.K x H' k∧Q k H'):=by
 intro pins s σ H Q I h;exact isTrue_plain (thn (ha pins s σ H _ I h) fun v s1 ⟨x,H1,I1,r1,q1⟩=>Zth pins s1 σ H1 x v Q I1 r1 q1) (he _)
theorem Ziy {x:V} (r:Vals [x] us):∃ u,us=[u]∧RelV x u:=by
 cases r with
 | cons r1 r2=>cases r2;exact ⟨_,rfl,r1⟩
theorem Zry {x:V} (r:Vals [x,y] us):∃ u w',us=[u,w']∧RelV x u∧RelV y w':=by
 cases r with
 | cons r1 r2 =>
   cases r2 with
   | cons r3 r4=>cases r4;exact ⟨_,_,rfl,r1,r3⟩
theorem Zhe (hc:X.calm=true):Xn X (.builtin "max") (fun xs H Q=>∃ i j,xs=[.int i,.int j]∧Q (.int (if j>i then j else i)) H):=by
 intro pins s σ H xs us Q I r h;obtain ⟨i,j,rfl,q⟩:=h;obtain ⟨u,w',rfl,⟨t,rfl⟩,⟨t',rfl⟩⟩:=Zry r;refine max_two_ints (I.ok.hd hc) fun h' tk k=>⟨_,H,I.kept k,?_,q⟩
 by_cases hj:j>i
 · rw [if_pos hj,if_pos hj];exact ⟨_,rfl⟩
 · rw [if_neg hj,if_neg hj];exact ⟨_,rfl⟩
theorem Zlw (hc:X.calm=true):Xn X (.builtin "min") (fun xs H Q=>∃ i j,xs=[.int i,.int j]∧Q (.int (if j<i then j else i)) H):=by
 intro pins s σ H xs us Q I r h;obtain ⟨i,j,rfl,q⟩:=h;obtain ⟨u,w',rfl,⟨t,rfl⟩,⟨t',rfl⟩⟩:=Zry r;refine min_two_ints (I.ok.hd hc) fun h' tk k=>⟨_,H,I.kept k,?_,q⟩
 by_cases hj:j<i
 · rw [if_pos hj,if_pos hj];exact ⟨_,rfl⟩
 · rw [if_neg hj,if_neg hj];exact ⟨_,rfl⟩
theorem Zm3:Xn X (.type "int") (fun xs H Q=>(∃ i,xs=[.int i]∧Q (.int i) H)∨∃ k,xs=[.bl k]∧Q (.int (if k then 1 else 0)) H):=by
 intro pins s σ H xs us Q I r h
 rcases h with ⟨i,rfl,q⟩|⟨k,rfl,q⟩
 · obtain ⟨u,rfl,t,rfl⟩:=Ziy r;exact call_int_int ⟨.int i,H,I,⟨_,rfl⟩,q⟩
 · obtain ⟨u,rfl,r1⟩:=Ziy r;cases r1
   exact call_int_bool ⟨.int (if k then 1 else 0),H,I.tok _,⟨_,rfl⟩,q⟩
end
structure ObjM (h:Heap) (x dx C:Addr) (mA:Str→Option Value):Prop where
 obj:h.get? x=some (PySem.W.instObj C dx)
 ns:h.Ns1 dx mA
 ne:dx≠x
theorem Zno {dx:Addr} {mA:Str→Option Value} (n:h.Ns1 dx mA):∃ od,h.get? dx=some od∧∀ name,PySem.W.lookIn name od=some (mA name):=by
 obtain ⟨o,es,ep,ho,hd,hk,_,hm⟩:=n;refine ⟨o,ho,fun name=>?_⟩;have e:=hm name;unfold nsFind findBy at e;rw [← Array.find?_toList] at e;unfold PySem.W.lookIn;rw [hd];dsimp only;split
 · rename_i y q
   rw [q] at e;exact congrArg some e
 · rename_i q
   rw [q] at e
   have a:es.toList.any (·.refKey)=false:=by
    rw [List.any_eq_false];intro y hy;obtain ⟨z,t,hkey⟩:=hk y (Array.mem_toList_iff.mp hy);simp [DictEntry.refKey,hkey]
   have a':¬ es.toList.any (·.refKey)=true:=by rw [a];exact n23_
   rw [if_neg a'];exact congrArg some e
theorem ObjM.look {x dx:Addr} {mA:Str→Option Value} (I:ObjM h x dx C mA):∃ od,PySem.W.InstAt h x (PySem.W.instObj C dx) C (some od)∧∀ name,PySem.W.lookIn name od=some (mA name) :=
 let ⟨od,ho,hl⟩:=Zno I.ns
 ⟨od,⟨I.obj,rfl,rfl,ho⟩,hl⟩
section
variable {prog:Program} {w:World} {A:Around} {E:Value→Shared→Prop} {s:Shared} {K:PySem.W.Frag} {x dx C f:Addr} {mA:Str→Option Value} {name:Str} {v:Value}
end
theorem RelO.some_of {o:Option Value} (r:RelO (some v) o):∃ u,o=some u∧RelV v u:=by
 cases o with
 | none=>exact (show False from r).elim
 | some u=>exact ⟨u,rfl,r⟩
section
variable {P:Program} {w:World} {H H':Hp} {h h':Heap} {a C dx:Addr} {fs fs':List (Str×V)}
theorem Zrv (hok:HOk P w H h) (e:H a=some (.ins C dx fs)):∃ mA,ObjM h a dx C mA∧(∀ f,RelO (fs.lookup f) (mA f))∧PySem.Within mA (fs.map (·.1))∧fs.length≤1000∧H dx=some (.own a):=by
 obtain ⟨d,z,ne,ob,mA,n,r,q⟩:=(show ObjOk P w H h a (.ins C dx fs) from hok a _ e);exact ⟨mA,⟨ob,n,ne⟩,r,q,z,d⟩
end
structure Cls (K:PySem.W.Frag) (C:Addr):Prop where
 pg:PySem.W.plainGet K C Str.empty=true
 hd:PySem.W.hasDictIn K C=true
 po:PySem.W.plainOver K C=true
 sa:PySem.W.findIn K (.ref C) "__setattr__" = some (some (.builtin "object.__setattr__"))
theorem Cls.get {K:PySem.W.Frag} (c:Cls K C) (f:Str):PySem.W.plainGet K C f=true:=c.pg
section
variable {X:Cx} {pins:List (Addr×Obj)} {σ:St} {H:Hp} {s:Shared} {a C dx:Addr} {fs:List (Str×V)} {f:Str} {v:V} {A:Around} {E:Value→Shared→Prop}
end
section
variable {X:Cx} {o e value:Expr} {f:Str} {pos pos' tpos:Pos} {ta tv:TE}
end
section
variable {X:Cx} {pins:List (Addr×Obj)} {σ:St} {H:Hp} {s:Shared} {A:Around} {E:Value→Shared→Prop} {Q:Value→Shared→Prop} {c:Value} {b:Bool}
inductive TyOf (K:PySem.W.Frag) (H:Hp):V→Value→Prop where
 | non:TyOf K H .non (.type "NoneType")
 | bl (x:Bool):TyOf K H (.bl x) (.type "bool")
 | int (i:Int):TyOf K H (.int i) (.type "int")
 | str (x:Str):TyOf K H (.str x) (.type "str")
 | flt (x:UInt64):TyOf K H (.flt x) (.type "float")
 | lst {a:Addr} {xs:List V} (e:H a=some (.lst xs)):TyOf K H (.ref a) (.type "list")
 | frz {a:Addr} {o:Obj} {xs:List V} (e:H a=some (.frz o (.lst xs))):TyOf K H (.ref a) (.type "list")
 | tup {a:Addr} {xs:List V} (e:H a=some (.tup xs)):TyOf K H (.ref a) (.type "tuple")
 | dK {a:Addr} {kvs:List (Key×V)} (e:H a=some (.dK kvs)):TyOf K H (.ref a) (.type "dict")
 | dT {a:Addr} {kvs:List (List Key×V)} (e:H a=some (.dT kvs)):TyOf K H (.ref a) (.type "dict")
 | ins {a C dx:Addr} {fs:List (Str×V)} (e:H a=some (.ins C dx fs)) (cl:Cls K C) (ha:PySem.W.findIn K (.ref C) "__class__" = some (some (.builtin "object.__class__")))
    (hn:PySem.W.specialIn K (.builtin "object.__class__") "__get__" = some (some (.builtin "getset_descriptor.__get__"))) (htk:PySem.W.takesIn K (.builtin "object.__class__")=some true)
    (hm:PySem.W.mroIn K C (.type "object")=some true):TyOf K H (.ref a) (.ref C)
theorem Zmc {x:V} {t:Value} (I:Inv X pins σ H s) (rx:RelV x u) (ty:TyOf X.K H x t) (e:PySem.W.kitOne X.K t c=some b) (h:∀ tk,Q (.bool b) { s with toks:=tk }) :
 wpAny (model X.prog X.w) A (call (.builtin "isinstance") [u,c]) Q E s:=by
 cases ty with
 | non=>cases (show u=Value.none from rx);exact n63_ PySem.W.kitx_none I.kIn True.intro e (fun z=>nomatch z) h
 | bl y=>cases (show u=Value.bool y from rx);exact n63_ PySem.W.kitx_bool I.kIn True.intro e (fun z=>nomatch z) h
 | int i=>obtain ⟨t,q⟩:=(show ∃ t,u=Value.int i t from rx);cases q;exact n63_ PySem.W.kitx_int I.kIn True.intro e (fun z=>nomatch z) h
 | str y=>obtain ⟨t,q⟩:=(show ∃ t,u=Value.str y t from rx);cases q;exact n63_ PySem.W.kitx_str I.kIn True.intro e (fun z=>nomatch z) h
 | flt y=>obtain ⟨t,q⟩:=(show ∃ t,u=Value.float y t from rx);cases q;exact n63_ PySem.W.kitx_float I.kIn True.intro e (fun z=>nomatch z) h
 | @lst a xs ea =>
   cases (show u=Value.ref a from rx)
   obtain ⟨_,_,n,_,h1⟩:=(show ObjOk X.prog X.w H s.heap a (.lst xs) from I.hok a _ ea);exact n63_ PySem.W.kitx_list I.kIn ⟨_,h1,rfl⟩ e (fun z=>nomatch z) h
 | @frz a ob xs ea =>
   cases (show u=Value.ref a from rx)
   obtain ⟨_,_,_,n,_,h1⟩:=(show ObjOk X.prog X.w H s.heap a (.frz ob (.lst xs)) from I.hok a _ ea);exact n63_ PySem.W.kitx_list I.kIn ⟨_,h1,rfl⟩ e (fun z=>nomatch z) h
 | @tup a xs ea =>
   cases (show u=Value.ref a from rx)
   obtain ⟨_,_,_,p⟩:=(show ObjOk X.prog X.w H s.heap a (.tup xs) from I.hok a _ ea);obtain ⟨o,h1,h2,_⟩:=p;exact n63_ PySem.W.kitx_tuple I.kIn ⟨o,h1,h2⟩ e (fun z=>nomatch z) h
 | @dK a kvs ea =>
   cases (show u=Value.ref a from rx)
   obtain ⟨_,_,vs,_,p⟩:=(show ObjOk X.prog X.w H s.heap a (.dK kvs) from I.hok a _ ea);obtain ⟨o,es,ep,h1,h2,_⟩:=p;exact n63_ PySem.W.kitx_dict I.kIn ⟨o,h1,h2.1⟩ e (fun z=>nomatch z) h
 | @dT a kvs ea =>
   cases (show u=Value.ref a from rx)
   obtain ⟨_,_,xs,_,o,es,ep,h1,h2,_⟩:=(show ObjOk X.prog X.w H s.heap a (.dT kvs) from I.hok a _ ea);exact n63_ PySem.W.kitx_dict I.kIn ⟨o,h1,h2.1⟩ e (fun z=>nomatch z) h
 | @ins a C dx fs ea cl ha hn htk hm =>
   cases (show u=Value.ref a from rx)
   obtain ⟨mA,O,_⟩:=Zrv I.hok ea;obtain ⟨od,J,_⟩:=O.look;exact n63_ (PySem.W.kitx_own (cl.get _) cl.hd ha hn htk hm) I.kIn J e (fun z=>nomatch z) h
end
structure Room (k:Nat) (A:Around):Prop where
 hd:A.handled=none
 dp:A.depth+3*k+5<recursionLimit
 un:A.units+16*k+200<cLine
 gd:A.guards=some []
theorem Room.mono {j:Nat} (r:Room k A) (h:j≤k):Room j A:=⟨r.hd,by have:=r.dp;omega,by have:=r.un;omega,r.gd⟩
theorem Room.deeper (r:Room (k+1) A) (env:Env):Room k (A.deeper env) :=
 ⟨r.hd,by have:=r.dp;show A.depth+1+3*k+5<_;omega,by have:=r.un;show A.units+3+16*k+200<_;omega,r.gd⟩
theorem Room.depth (r:Room k A):A.depth<recursionLimit:=by have:=r.dp;omega
theorem Room.units (r:Room k A):A.units+64<cLine:=by have:=r.un;omega
def tNil:TA:=fun _ H Q=>Q [] H
def Zuy (ta:TE) (tr:TA):TA:=fun σ H Q=>ta σ H fun x H1=>tr σ H1 fun xs H2=>Q (x :: xs) H2
section
variable {X:Cx} {e:Expr} {es:List Expr} {te:TE} {t:TA} {pos:Pos}
theorem Zb:PA X [] tNil:=fun _ _ _ _ H Q I h=>Calls.spliced_nil ⟨[],H,I,.nil,h⟩
theorem Za (ha:PE X e te) (hr:PA X es t) (hs:starEach (e :: es) X.env=(false,eval e X.env) :: starEach es X.env:=by rfl):PA X (e :: es) (Zuy te t):=by
 intro pos pins s σ H Q I h;rw [hs];show wpAny _ _ (spliced ((false,eval e X.env) :: backTo pos (starEach es X.env))) _ _ s
 refine Calls.spliced_cons (thn (ha pins s σ H _ I h) fun u s1 ⟨x,H1,I1,r1,q1⟩=>?_);exact thn (hr pos pins s1 σ H1 _ I1 q1) fun us s2 ⟨xs,H2,I2,r2,q2⟩=>⟨x :: xs,H2,I2,.cons r1 r2,q2⟩
def tTup (t:TA):TE:=fun σ H Q=>t σ H fun xs H1=>xs.length≤sizeLine∧∀ p,H1 p=none→Q (.ref p) (upd H1 p (.tup xs))
def tLst (t:TA):TE:=fun σ H Q=>t σ H fun xs H1=>xs.length≤sizeLine∧∀ p,H1 p=none→Q (.ref p) (upd H1 p (.lst xs))
theorem Zo {x1} (h:PA X es t):PE X (.Tuple es x1 pos) (tTup t):=by
 intro pins s σ H Q I hq;refine wpAny_Tuple_spliced (thn (h pos pins s σ H _ I hq) fun us s1 ⟨xs,H1,I1,r,z,q⟩=>⟨by rw [← r.length];exact z,?_⟩);have hf:H1 s1.z=none:=I1.hok.fresh (n7_ _);refine ⟨.ref s1.z,upd H1 s1.z (.tup xs),I1.laid (t':=s1.toks) (fun b u e=>n2_ _ e) (n7_ _) ?_,rfl,q _ hf⟩;exact ⟨z,us,r,⟨_,n8_ _ rfl,rfl,_,rfl⟩⟩
theorem Yy (h:PA X es t):PE X (.List es pos) (tLst t):=by
 intro pins s σ H Q I hq;refine wpAny_List_spliced (thn (h pos pins s σ H _ I hq) fun us s1 ⟨xs,H1,I1,r,z,q⟩=>⟨by rw [← r.length];exact z,?_⟩);have hf:H1 s1.z=none:=I1.hok.fresh (n7_ _);refine ⟨.ref s1.z,upd H1 s1.z (.lst xs),I1.laid (t':=s1.toks) (fun b u e=>n2_ _ e) (n7_ _) ?_,rfl,q _ hf⟩;exact ⟨z,us,0,r,n8_ _ rfl⟩
end
abbrev Sp:=List V→Hp→VK→XK→Prop
abbrev CXT:=List Env→Hp→Shared→XK→Value→Shared→Prop
structure Env0 (P:Program) (w:World) (K:PySem.W.Frag) (mg:Str→Option Value) (base:Heap) (A:Around) (outer:List Env) (s:Shared) (H:Hp):Prop where
 frames:A.frames=some outer
 mod:Mod K mg base
 bs:∀ b o,base.get? b=some o→s.heap.get? b=some o∧H b=none
 bsz:base.objs.size≤s.z
 funs:s.heap.FunFrames base outer
 frf:∀ b∈frs outer,H b=none
 hok:HOk P w H s.heap
 bare:AllBare s.gens
def CE (outer:List Env) (P:Program) (w:World) (H:Hp) (s:Shared) (Q:VK) (u:Value) (s':Shared):Prop :=
 ∃ v H',s'.os=s.os∧AllBare s'.gens∧Un (frs outer) [] H H' s.heap s'.heap∧HOk P w H' s'.heap∧RelV v u∧Q v H'
def CR (CX:CXT) (outer:List Env) (P:Program) (w:World) (H:Hp) (s:Shared) (Q:VK) (E:XK) (r:Result) (s':Shared):Prop :=
 match r with
 | .ok (.ret u)=>CE outer P w H s Q u s'
 | .ok _=>False
 | .error e=>CX outer H s E e s'
structure FnOk (P:Program) (w:World) (K:PySem.W.Frag) (mg:Str→Option Value) (base:Heap) (CX:CXT) (k:Nat) (f:Addr) (fd:FuncData) (ps:List Str) (sp:Sp):Prop where
 len:∀ vs H Q E,sp vs H Q E→vs.length=ps.length
 run:∀ (A:Around) (outer:List Env) (s:Shared) (H:Hp) (args:Args) (us:List Value) (vs:List V) (Q:VK) (E:XK),Room k A→Env0 P w K mg base A outer s H→BindsTo s fd args (ps.zip us)→Vals vs us→sp vs H Q E →
  codeAny (model P w) A (.call (.ref f) args) (CR CX outer P w H s Q E) s
section
variable {X:Cx} {pins:List (Addr×Obj)} {σ:St} {H:Hp} {s s':Shared}
theorem Inv.env0 (I:Inv X pins σ H s):Env0 X.prog X.w X.K X.mg X.base X.A X.stack s H :=
 ⟨I.ok.frames,I.ok.mod,I.bs,n33_ I.ok.bsz I.sz,I.stack,I.stkFree,I.hok,I.bare⟩
theorem Inv.after {Q:VK} (I:Inv X pins σ H s) (h:CE X.stack X.prog X.w H s Q u s'):EP X pins σ Q u s':=by
 obtain ⟨v,H',os,bare,un,hok,r,q⟩:=h;obtain ⟨hh,g,d,t,os'⟩:=s';obtain rfl:os'=s.os:=os;exact ⟨v,H',I.call (h':=hh) (g':=g) (d':=d) (t':=t) (ch:=[]) un hok bare (fun b z=>absurd z (by simp)),r,q⟩
end
def Zq9 (sp:Sp) (dvs:List V) (E:XK) (t:TA):TE:=fun σ H Q=>t σ H fun vs H1=>sp (vs++dvs) H1 Q E
def Binds (K:PySem.W.Frag) (fd:FuncData) (ps:List Str) (ds:List Value):Prop :=
 ∀ (s:Shared) (us:List Value),K.In s.heap→(us++ds).length=ps.length→BindsTo s fd ⟨us,[]⟩ (ps.zip (us++ds))
theorem Binds.all {K:PySem.W.Frag} (h:∀ us:List Value,us.length=ps.length→bindArgs fd ⟨us,[]⟩=pure (ps.zip us)):Binds K fd ps []:=fun s us _ hl=>by
 rw [n71_] at hl ⊢;exact .of_eq (h us hl)
def Zi7 (CX:CXT) (X:Cx) (E:XK):Prop:=∀ (pins:List (Addr×Obj)) (σ:St) (H:Hp) (s:Shared) (e:Value) (s':Shared),Inv X pins σ H s→CX X.stack H s E e s'→X.xe e s'
section
variable {X:Cx} {CX:CXT} {k:Nat} {f C:Addr} {fd:FuncData} {ps:List Str} {sp:Sp} {dvs:List V} {ds:List Value} {E:XK} {x m:Str} {p pos apos:Pos} {e o:Expr} {es:List Expr} {ta:TE} {t:TA}
theorem Zpr {Q:VK} (F:FnOk X.prog X.w X.K X.mg X.base CX k f fd ps sp) (hr:Room k X.A) (hb:Binds X.K fd ps ds) (hd:Vals dvs ds) (hx:Zi7 CX X E)
 (I:Inv X pins σ H s) (r:Vals vs us) (h:sp (vs++dvs) H Q E):wpAny (model X.prog X.w) X.A (call (.ref f) us) (EP X pins σ Q) X.xe s:=by
 have r2:Vals (vs++dvs) (us++ds):=r.append hd;have hl:(us++ds).length=ps.length:=by rw [← r2.length];exact F.len _ _ _ _ h
 refine wpAny_call (codeAny_mono (F.run X.A X.stack s H ⟨us,[]⟩ (us++ds) (vs++dvs) Q E hr I.env0 (hb s us I.kIn hl) r2 h) fun r s' hq=>?_);cases r with
 | error e=>exact hx pins σ H s e s' I hq
 | ok fl =>
   cases fl with
   | ret u=>exact I.after hq
   | next=>exact False.elim hq
   | brk=>exact False.elim hq
   | cont=>exact False.elim hq
theorem Zsi (F:FnOk X.prog X.w X.K X.mg X.base CX k f fd ps sp) (hr:Room k X.A) (hg:Gl X x) (hm:X.mg x=some (.ref f)) (hk:PySem.W.keepIn X.K (.ref f)=true) (hb:Binds X.K fd ps ds) (hd:Vals dvs ds) (hx:Zi7 CX X E)
 (ha:PA X (e :: es) t) (hdb:(x == ("__debug__" : Str))=false:=by decide) (he:starEach (e :: es) X.env=(false,eval e X.env) :: starEach es X.env:=by rfl) (hpl:(backTo pos (starEach es X.env)).any (·.1)=false:=by rfl) :
 PE X (.Call (.Name x p) (e :: es) [] pos) (Zq9 sp dvs E t):=by
 intro pins s σ H Q I h;refine wpAny_Call_Name_kw (Zir I hg hm ?_ hdb);refine PySem.W.callWith_K (h₀:=X.base) I.ok.mod.kin hk (thn (ha pos pins s σ H _ I h) fun us s1 ⟨vs,H1,I1,r,q⟩=>⟨I1.kIn,?_⟩) he hpl;exact Zpr F hr hb hd hx I1 r q
theorem Zom (F:FnOk X.prog X.w X.K X.mg X.base CX k f fd ps sp) (hr:Room k X.A) (hg:Gl X x) (hm:X.mg x=some (.ref f)) (hk:PySem.W.keepIn X.K (.ref f)=true) (hb:Binds X.K fd ps ds) (hd:Vals dvs ds) (hx:Zi7 CX X E)
 (hdb:(x == ("__debug__" : Str))=false:=by decide):PE X (.Call (.Name x p) [] [] pos) (Zq9 sp dvs E tNil):=by
 intro pins s σ H Q I h;refine wpAny_Call_Name_kw (Zir I hg hm ?_ hdb);exact PySem.W.callWith_K0 I.kIn hk (Zpr (us:=[]) F hr hb hd hx I .nil h)
end
section
variable {X:Cx} {CX:CXT} {k:Nat} {f C:Addr} {fd:FuncData} {ps ks:List Str} {sp:Sp} {E:XK} {x m:Str} {p pos apos kpos:Pos} {e o:Expr} {es:List Expr} {kws:List Keyword} {te ta:TE} {t tk:TA} {nm:Option Str}
variable {g:List Value→List Value→List Value} {gV:List V→List V→List V}
end
structure FnScope (N P:List Str) (sc:Scope):Prop where
 kind:sc.kind=.function
 co:sc.isCoroutine=false
 gen:sc.isGenerator=false
 nd:N.Nodup
 pre:N.take P.length=P
 par:∀ x∈P,sc.names.lookup x=some .local∨sc.names.lookup x=some .cell
 nofree:∀ y∈sc.names,y.2≠.free
theorem Zhc {kindOf:Str→Option NameKind}:∀ {binds:List (Str×Value)} {m:Str→Option Value},(∀ v,(x,v)∉binds)→bindL kindOf binds m x=m x
 | [],_,_=>rfl
 | (n,v) :: r,m,h=>by
   unfold bindL;rw [Zhc fun w hw=>h w (n17_ _ hw)];split
   · have:x≠n:=by rintro rfl;exact h v n49_
     simp [this]
   · rfl
theorem Zhm {kindOf:Str→Option NameKind}:∀ {binds:List (Str×Value)} {m:Str→Option Value},(∀ v,(x,v)∉binds)→bindC kindOf binds m x=m x
 | [],_,_=>rfl
 | (n,v) :: r,m,h=>by
   unfold bindC;rw [Zhm fun w hw=>h w (n17_ _ hw)];split
   · rfl
   · have:x≠n:=by rintro rfl;exact h v n49_
     simp [this]
theorem Zgc {kindOf:Str→Option NameKind} {v:Value}:∀ {P:List Str} {vs:List Value} {i:Nat} {m:Str→Option Value},P.Nodup→P[i]? = some x→vs[i]? = some v→kindOf x=some .local →
 bindL kindOf (P.zip vs) m x=some v
 | [],_,_,_,_,h,_,_=>by simp at h
 | _ :: _,[],_,_,_,_,h,_=>by simp at h
 | p :: P,w :: vs,0,m,nd,h1,h2,hk=>by
   simp at h1 h2;subst h1;subst h2;show bindL kindOf ((p,w) :: P.zip vs) m p=_
   unfold bindL;rw [Zhc fun v hv=>(n64_.mp nd).1 (List.of_mem_zip hv).1,if_pos hk]
   simp
 | p :: P,w :: vs,i+1,m,nd,h1,h2,hk=>by
   show bindL kindOf ((p,w) :: P.zip vs) m x=_
   unfold bindL;exact Zgc (i:=i) (n64_.mp nd).2 (by simpa using h1) (by simpa using h2) hk
theorem Zf8 {kindOf:Str→Option NameKind} {v:Value}:∀ {P:List Str} {vs:List Value} {i:Nat} {m:Str→Option Value},P.Nodup→P[i]? = some x→vs[i]? = some v→kindOf x≠some .local →
 bindC kindOf (P.zip vs) m x=some v
 | [],_,_,_,_,h,_,_=>by simp at h
 | _ :: _,[],_,_,_,_,h,_=>by simp at h
 | p :: P,w :: vs,0,m,nd,h1,h2,hk=>by
   simp at h1 h2;subst h1;subst h2;show bindC kindOf ((p,w) :: P.zip vs) m p=_
   unfold bindC;rw [Zhm fun v hv=>(n64_.mp nd).1 (List.of_mem_zip hv).1,if_neg hk]
   simp
 | p :: P,w :: vs,i+1,m,nd,h1,h2,hk=>by
   show bindC kindOf ((p,w) :: P.zip vs) m x=_
   unfold bindC;exact Zf8 (i:=i) (n64_.mp nd).2 (by simpa using h1) (by simpa using h2) hk
noncomputable def start (N:List Str) (vs:List V):St:=vs.map some++List.replicate (N.length-vs.length) none
noncomputable def cxOf (CX:CXT) (P:Program) (w:World) (K:PySem.W.Frag) (mg:Str→Option Value) (base:Heap) (N:List Str) (qual:Str) (scope:Scope) (f:Addr) (cd:Value) (A:Around) (outer:List Env) (s:Shared) (H:Hp) (E:XK):Cx where
 prog:=P
 w:=w
 K:=K
 mg:=mg
 base:=base
 A:=A.deeper (envOfC qual scope s.z f cd)
 N:=N
 s₀:=s
 H₀:=H
 env:=envOfC qual scope s.z f cd
 outer:=outer
 stack:=envOfC qual scope s.z f cd :: outer
 ex:=[]
 calm:=true
 fn:=fun _=>true
 pn:=[]
 xe:=fun e s'=>wpAny (model P w) (A.deeper (envOfC qual scope s.z f cd)) (leaving (envOfC qual scope s.z f cd) e) (fun _ s''=>CX outer H s E e s'') (fun e' s''=>CX outer H s E e' s'') s'
theorem Zx {sc:Scope} (h:sc.names.lookup x=some .cell):∃ c,(cellsFrom n sc.names []).lookup x=some c:=by
 have q:=PySem.W.cellsFrom_some sc.names n [] (.inl h);exact Option.isSome_iff_exists.mp q
theorem Zmn {CX:CXT} {K:PySem.W.Frag} {mg:Str→Option Value} {base:Heap} {cd:Value} {outer:List Env} {s1:Shared} {E:XK}
 (S:FnScope N ps scope) (hd:A.handled=none) (e0:Env0 P w K mg base A outer s H) (hl:vs.length=ps.length) (r:Vals vs us)
 (x:InCallC s s.z (bindL (envOfC qual scope s.z f cd).kindOf (ps.zip us) fun _=>none) (cellsFrom (s.z+1) scope.names []) (bindC (envOfC qual scope s.z f cd).kindOf (ps.zip us) fun _=>none) s1) :
 Inv (cxOf CX P w K mg base N qual scope f cd A outer s H E) [] (start N vs) H s1:=by
 have hpl:ps.length≤N.length:=by have:=congrArg List.length S.pre;rw [n47_] at this;omega
 obtain ⟨h1,tk,rfl,hk⟩:=x.done;have noA:∀ b:Addr,b∉(cxOf CX P w K mg base N qual scope f cd A outer s H E).ex:=fun b z=>absurd (show b∈([]:List Addr) from z) (by simp)
 refine ⟨⟨e0.mod,S.kind,rfl,rfl,n7_ _,fun y z c h1 h2=>?_,fun y hy=>?_,fun y c _ h=>?_,fun _=>hd,Around.frames_deeper e0.frames,.inr ⟨rfl,rfl⟩,fun b z=>absurd z (noA b),e0.bs,e0.bsz,fun b _ _=>noA b,fun b z=>absurd z (noA b),e0.funs,e0.frf⟩,
  rfl,e0.bare,Un.kept hk,⟨_,x.toInCall.ns,fun i y v h1 h2 h3=>?_⟩,fun y c h=>⟨_,x.cell y c h⟩,e0.hok.fresh (n7_ _),fun y c h=>?_,fun p hp=>absurd (show p∈([]:List (Addr×Obj)) from hp) (by simp),e0.hok.kept hk,?_⟩
 · exact name_of_addr x.apart (n36_ h1) (n36_ h2)
 · have hy:scope.names.lookup y=some .cell∨scope.names.lookup y=some .free:=hy
   rcases hy with hy|hy
   · exact Zx hy
   · exact absurd rfl (S.nofree _ (n36_ hy))
 · exact Nat.le_of_lt (x.above y c (n36_ h))
 · have hi:i<vs.length:=by
    unfold start at h2
    by_cases hi:i<vs.length
    · exact hi
    · rw [n55_ (by simpa using hi)] at h2;rw [List.getElem?_replicate] at h2;split at h2<;>cases h2
   have ha:vs[i]? = some v:=by
    unfold start at h2;rw [n58_ (by simpa using hi),n6_] at h2;cases e:vs[i]? with
    | none=>rw [e] at h2;cases h2
    | some a=>rw [e] at h2;cases h2;rfl
   obtain ⟨u,hu,rv⟩:=r.get ha
   have hp:ps[i]? = some y:=by
    rw [← S.pre,List.getElem?_take_of_lt (by omega)];exact h1
   have ndP:ps.Nodup:=by rw [← S.pre];exact S.nd.sublist (List.take_sublist _ _)
   refine ⟨u,rv,?_⟩
   rcases S.par y (n10_ hp) with k|k
   · exact .inl ⟨k,Zgc ndP hp hu k⟩
   · obtain ⟨c,e⟩:=Zx (n:=s.z+1) k;refine .inr ⟨.inl k,c,e,?_⟩;have q:=x.cell y c e;rw [Zf8 ndP hp hu (by show scope.names.lookup y≠_;rw [k];decide)] at q;exact q
 · exact e0.hok.fresh (Nat.le_of_lt (x.above y c (n36_ h)))
 · unfold start;show _=N.length
   rw [n26_,n5_,List.length_replicate];omega
theorem Zu6 {CX:CXT} {K:PySem.W.Frag} {mg:Str→Option Value} {base:Heap} {name:Str} {params:Arguments} {body:List Stmt} {dV kV doc pm cdv ct oc:Value} {an od:Option Addr}
 {osl:Array (Option Value)} {sp:Sp} (lk:K.lookup f=some ⟨oc,od,.func (PySem.W.fnOf name qual params body scope dV kV doc pm an cdv ct),osl⟩) (hcd:PySem.W.codeIn K cdv qual=true) (S:FnScope N ps scope)
 (len:∀ vs H Q E,sp vs H Q E→vs.length=ps.length)
 (hbody:∀ (A:Around) (outer:List Env) (s:Shared) (H:Hp) (vs:List V) (Q:VK) (E:XK),Room k (A.deeper (envOfC qual scope s.z f cdv))→sp vs H Q E →
   ∃ t,PSs (cxOf CX P w K mg base N qual scope f cdv A outer s H E) body t∧t { nx:=fun _ H'=>Q .non H',rt:=Q } (start N vs) H) :
 FnOk P w K mg base CX (k+1) f (PySem.W.fnOf name qual params body scope dV kV doc pm an cdv ct) ps sp:=by
 refine ⟨len,fun A outer s H args us vs Q E hr e0 hb r hsp=>?_⟩;have hl:=len _ _ _ _ hsp;have KX:K.In s.heap:=e0.mod.kin.keeps fun b o e=>(e0.bs b o e).1;have lim:s.heap.NoLimit:=e0.mod.nolimit.keeps fun b o e=>(e0.bs b o e).1
 have hkind:∀ y∈ps.zip us,scope.names.lookup y.1=some .local∨(scope.names.lookup y.1=some .cell∧((cellsFrom (s.z+1) scope.names []).lookup y.1).isSome=true):=fun ⟨n,v⟩ hy=>by
  rcases S.par n (List.of_mem_zip hy).1 with q|q
  · exact .inl q
  · exact .inr ⟨q,PySem.W.cellsFrom_some _ _ _ (.inl q)⟩
 refine codeAny_call_function hr.depth (KX _ _ lk) rfl S.co S.gen rfl (PySem.W.codeRec_of KX hcd) (hb _ _ _ _ ?_);refine wpAny_newFunctionEnv_cells S.kind hkind fun env he s1 x=>?_;subst he;refine ⟨lim.keeps x.toInCall.keep,codeAny_func ?_⟩;obtain ⟨t,ht,hq⟩:=hbody A outer s H vs Q E (hr.deeper _) hsp;have I:Inv (cxOf CX P w K mg base N qual scope f cdv A outer s H E) [] (start N vs) H s1:=Zmn S hr.hd e0 hl r x;refine n45_ (ht [] s1 (start N vs) H _ I hq) (fun fl s' hs=>?_) fun e s' hs=>hs
 have fin:∀ {σ':St} {H':Hp} {v:V} {u:Value},Inv (cxOf CX P w K mg base N qual scope f cdv A outer s H E) [] σ' H' s'→RelV v u→Q v H'→CE outer P w H s Q u s' :=
  fun {σ' H' v u} J rv q=>⟨v,H',J.os,J.bare,J.base,J.hok,rv,q⟩
 cases fl with
 | ret u =>
   obtain ⟨v,σ',H',J,rv,q⟩:=hs;exact fin J rv q
 | next =>
   obtain ⟨σ',H',J,q⟩:=hs;exact fin (v:=V.non) (u:=Value.none) J rfl q
 | brk =>
   obtain ⟨_,_,_,q⟩:=hs;exact False.elim q
 | cont =>
   obtain ⟨_,_,_,q⟩:=hs;exact False.elim q
section
variable {X:Cx} {x:Str} {p pos:Pos} {e:Expr} {es:List Expr} {t:TA} {id T:String} {r:List V→Hp→VK→Prop}
def tCB (r:List V→Hp→VK→Prop) (t:TA):TE:=fun σ H Q=>t σ H fun vs H1=>r vs H1 Q
theorem Zi (hc:Xn X (.builtin id) r) (hg:Gl X x) (hm:X.mg x=none) (hv:bootBuiltins x=some (.builtin id)) (ha:PA X (e :: es) t) (hn:x ≠ "__name__" := by decide) (hdb:(x == ("__debug__" : Str))=false:=by decide)
 (he:starEach (e :: es) X.env=(false,eval e X.env) :: starEach es X.env:=by rfl) (hpl:(backTo pos (starEach es X.env)).any (·.1)=false:=by rfl):PE X (.Call (.Name x p) (e :: es) [] pos) (tCB r t):=by
 intro pins s σ H Q I h;refine wpAny_Call_Name_kw (Zas I hg hm hv ?_ hn hdb);exact PyProof.Rows.callWith_builtin1 (thn (ha pos pins s σ H _ I h) fun us s1 ⟨vs,H1,I1,r1,q1⟩=>hc pins s1 σ H1 vs us Q I1 r1 q1) he hpl
theorem Zu (hc:Xn X (.type T) r) (hg:Gl X x) (hm:X.mg x=none) (hv:bootBuiltins x=some (.type T)) (ha:PA X (e :: es) t) (hn:x ≠ "__name__" := by decide) (hdb:(x == ("__debug__" : Str))=false:=by decide)
 (he:starEach (e :: es) X.env=(false,eval e X.env) :: starEach es X.env:=by rfl) (hpl:(backTo pos (starEach es X.env)).any (·.1)=false:=by rfl):PE X (.Call (.Name x p) (e :: es) [] pos) (tCB r t):=by
 intro pins s σ H Q I h;refine wpAny_Call_Name_kw (Zas I hg hm hv ?_ hn hdb);exact n43_ (thn (ha pos pins s σ H _ I h) fun us s1 ⟨vs,H1,I1,r1,q1⟩=>hc pins s1 σ H1 vs us Q I1 r1 q1) he hpl
end
end L2
namespace HT
open PySem PyProof.Rows
noncomputable def lexLt:List Int→List Int→Bool
 | [],[]=>false
 | [],_ :: _=>true
 | _ :: _,[]=>false
 | x :: xs,y :: ys=>if x=y then lexLt xs ys else decide (x<y)
theorem lexLt_cons (x y:Int) (xs ys:List Int):lexLt (x :: xs) (y :: ys)=if x=y then lexLt xs ys else decide (x<y):=rfl
theorem Zfs:lexLt [] []=false:=rfl
theorem Zd9 (y:Int) (ys:List Int):lexLt [] (y :: ys)=true:=rfl
theorem Zd8 (x:Int) (xs:List Int):lexLt (x :: xs) []=false:=rfl
theorem Zow (A:Around) (s:Shared) (a:Int) (t:Tok) (c:Int) (u:Tok):∃ e,SeqAt.EqAt A s (.int a t) (.int c u) e∧(e=true↔a=c) :=
 ⟨(a == c),SeqAt.EqAt.int_int a t c u,by simp⟩
theorem Zpf (A:Around) (s:Shared) (a:Int) (t:Tok) (c:Int) (u:Tok) (prog:Program) (w:World) (E:Value→Shared→Prop) (Q:Value→Shared→Prop) (h:Q (.bool (decide (a<c))) s) :
 wpAny (model prog w) A (richCompare .Lt (.int a t) (.int c u)) Q E s :=
 (PyProof.Rows.lt_int h:wpAny (model prog w) A (compareOp .Lt (.int a t) (.int c u)) Q E s)
section
open PySem.SeqAt
open PySem.AutoSeq1 (wpAny_loadPart')
open PySem.MeetsSeq PySem.MeetsSeq2 PySem.MeetsSeq3
theorem Zfm (l b:Addr) (items items2:Array Value) (n n2:Nat) (dd dd2:Option Addr) (sl sl2:Array (Option Value)) (ns ms:List Int) (hi:IntsAre items.toList ns) (hj:IntsAre items2.toList ms) :
 Meets (Builtin.«tuple.__lt__» ⟨[.ref l,.ref b],[]⟩)
  (fun _ R s=>s.heap.get? l=some { cls:=.type "tuple",dict:=dd,data:=.seq items n,slots:=sl }∧s.heap.get? b=some { cls:=.type "tuple",dict:=dd2,data:=.seq items2 n2,slots:=sl2 } ∧
    R (.ok (.ret (.bool (lexLt ns ms)))) s) :=
 .of_wp fun prog w A R s h=>by
  obtain ⟨hp,g,d,tk,os⟩:=s;obtain ⟨hl,hb,h⟩:=h;have f2:=AutoSeq1.sub_tuple_tuple;have z1:items.size=ns.length:=by rw [← hi.length];simp
  have z2:items2.size=ms.length:=by rw [← hj.length];simp
  wp_walk using wpAny_loadPart' hl,wpAny_loadPart' hb,wpAny_forIn_list _ (fun rest b s'=>b.1=none∧s'=⟨hp,g,d,tk,os⟩∧∃ (vs ws:List Value) (ns' ms':List Int),rest=vs.zip ws ∧
   IntsAre vs ns'∧IntsAre ws ms'∧ns'.length+items2.size=ms'.length+items.size∧R (.ok (.ret (.bool (lexLt ns' ms')))) ⟨hp,g,d,tk,os⟩) _
  case turn =>
   rintro ⟨y,x⟩ rest b s' ⟨hb',rfl,vs,ws,ns',ms',hz,hvi,hwi,hlen,hR⟩
   cases hvi with
   | nil=>rw [List.zip_nil_left] at hz;cases hz
   | cons a t hvi' =>
     cases hwi with
     | nil=>rw [List.zip_nil_right] at hz;cases hz
     | cons c u hwi' =>
       rw [List.zip_cons_cons] at hz;injection hz with hyx hrest
       injection hyx with hy hx
       subst hy hx;rw [lexLt_cons] at hR;simp only [n15_] at hlen;obtain ⟨e,he,hiff⟩:=Zow A.in1 ⟨hp,g,d,tk,os⟩ a t c u;refine n0_ (he prog w _ _ ?_);cases e with
       | true =>
         rw [if_pos (hiff.mp rfl)] at hR
         wp_walk
         exact ⟨rfl,rfl,_,_,_,_,hrest,hvi',hwi',by omega,hR⟩
       | false =>
         rw [if_neg (fun q=>absurd (hiff.mpr q) n23_)] at hR;have hri:=Zpf A.in1 ⟨hp,g,d,tk,os⟩ a t c u prog w
         wp_walk using hri
         exact ⟨_,rfl,by simpa using hR⟩
  case fin =>
   rintro ⟨b1,b2⟩ s' ⟨hb',rfl,vs,ws,ns',ms',hz,hvi,hwi,hlen,hR⟩
   simp only at hb';subst hb'
   have hv:lexLt ns' ms'=decide (items.size<items2.size):=by
    cases hvi with
    | nil =>
      cases hwi with
      | nil =>
        simp only [n53_] at hlen;rw [Zfs];exact (n25_ (by omega)).symm
      | cons c u hw =>
        simp only [n53_,n15_] at hlen;rw [Zd9];exact (n24_ (by omega)).symm
    | cons a t hv =>
      cases hwi with
      | nil =>
        simp only [n53_,n15_] at hlen;rw [Zd8];exact (n25_ (by omega)).symm
      | cons c u hw =>
        rw [List.zip_cons_cons] at hz;cases hz
   rw [hv] at hR
   wp_walk
   exact ⟨_,rfl,by simpa [Builtin.Tuple.tupleCompareSizes] using hR⟩
  case h =>
   exact ⟨rfl,rfl,items.toList,items2.toList,ns,ms,rfl,hi,hj,by omega,h⟩
end
section
variable {prog:Program} {w:World} {A:Around} {E:Value→Shared→Prop} {s:Shared}
theorem lt_tupInts {l b:Addr} {items items2:Array Value} {ns ms:List Int} {Q:Value→Shared→Prop} (hl:IsTup s.heap l items) (hb:IsTup s.heap b items2) (hi:IntsAre items.toList ns) (hj:IntsAre items2.toList ms)
 (hu:A.units<cLine) (h:Q (.bool (lexLt ns ms)) s):wpAny (model prog w) A (compareOp .Lt (.ref l) (.ref b)) Q E s:=by
 obtain ⟨⟨cls,dd,data,sl⟩,ho,hc,n,hd⟩:=id hl;obtain ⟨⟨cls2,dd2,data2,sl2⟩,ho2,hc2,n2,hd2⟩:=id hb;simp only at hc hd hc2 hd2;subst hc hd hc2 hd2
 exact richCompare_meets_room (op:=.Lt) ⟨_,ho,rfl⟩ ⟨_,ho2,rfl⟩ PySem.F.slot_tuple_lt PySem.F.entry_tuple_lt (PySem.F.args_tuple_lt_2 _ _) (Zfm l b items items2 n n2 dd dd2 sl sl2 ns ms hi hj)
  ⟨ho,ho2,show Value.bool (lexLt ns ms)≠Value.notImplemented∧Q (.bool (lexLt ns ms)) s from ⟨(fun x=>nomatch x),h⟩⟩ hu
theorem cat_tup {t b:Addr} {vs ws:List Value} {Q:Value→Shared→Prop} (ht:IsTup s.heap t vs.toArray) (hb:IsTup s.heap b ws.toArray) (hv:vs≠[])
 (h1:ws=[]→Q (.ref t) s) (h2:ws≠[]→Q (.ref s.z) { s with heap:=s.heap.push { cls:=.type "tuple",data:=.seq (vs++ws).toArray } })
 (hsz:vs.length+ws.length≤sizeLine):wpAny (model prog w) A (binaryOp .Add (.ref t) (.ref b)) Q E s:=by
 obtain ⟨⟨cls,dd,data,sl⟩,ho,hc,n,hd⟩:=id ht;obtain ⟨⟨cls2,dd2,data2,sl2⟩,ho2,hc2,n2,hd2⟩:=id hb;simp only at hc hd hc2 hd2;subst hc hd hc2 hd2;have e:vs.toArray++ws.toArray=(vs++ws).toArray:=by simp
 by_cases hw:ws=[]
 · exact concat_meets ⟨_,ho,rfl⟩ ⟨_,ho2,rfl⟩ noFill_tuple_add seq_tuple_add PySem.F.slot_tuple_add PySem.F.entry_tuple_add (PySem.F.args_tuple_add_2 _ _)
    (tuple_addW1 t b vs.toArray ws.toArray n n2 dd dd2 sl sl2 (by simpa using hv) (by simp [hw])) ⟨ho,ho2,h1 hw⟩
 · refine concat_meets ⟨_,ho,rfl⟩ ⟨_,ho2,rfl⟩ noFill_tuple_add seq_tuple_add PySem.F.slot_tuple_add PySem.F.entry_tuple_add (PySem.F.args_tuple_add_2 _ _)
    (tuple_addW2 t b vs.toArray ws.toArray n n2 dd dd2 sl sl2 (by simpa using hv) (by simpa using hw) (by rw [n9_,n9_];exact hsz)) ⟨ho,ho2,?_⟩
   rw [e];exact h2 hw
noncomputable def sIx (n d:Nat):Option Int→Nat
 | none=>d
 | some v=>if v<0 then (v+(n:Int)).toNat else min v.toNat n
theorem sIx_none (n d:Nat):sIx n d none=d:=rfl
theorem sIx_nat (n d k:Nat):sIx n d (some (k:Int))=min k n:=by
 show (if (k:Int)<0 then ((k:Int)+(n:Int)).toNat else min (k:Int).toNat n)=min k n
 rw [if_neg (by omega),n57_]
theorem Ztr (n d:Nat) (hd:d≤n) (o:Option Int):sIx n d o≤n:=by
 cases o with
 | none=>exact hd
 | some v =>
   show (if v<0 then (v+(n:Int)).toNat else min v.toNat n)≤n
   by_cases hv:v<0
   · rw [if_pos hv];omega
   · rw [if_neg hv];exact Nat.min_le_right _ _
theorem Zme (v:Int) (n d:Nat):(if v<0 then max (v+(n:Int)) 0 else min v (n:Int))=((sIx n d (some v):Nat):Int):=by
 show (if v<0 then max (v+(n:Int)) 0 else min v (n:Int))=(((if v<0 then (v+(n:Int)).toNat else min v.toNat n):Nat):Int)
 by_cases hv:v<0
 · simp only [if_pos hv];omega
 · simp only [if_neg hv];omega
theorem Zkp (lo hi:Option Int) (n:Nat):Builtin.Slice.sliceAdjust lo hi 1 (n:Int)=(((sIx n 0 lo:Nat):Int),((sIx n n hi:Nat):Int)):=by
 have h1:¬ ((1:Int)<0):=by omega
 unfold Builtin.Slice.sliceAdjust;simp only [h1,if_false];refine Prod.ext ?_ ?_
 · cases lo with
   | none=>rfl
   | some v=>exact Zme v n 0
 · cases hi with
   | none=>rfl
   | some v=>exact Zme v n n
theorem Zkv (i j:Nat):Builtin.Slice.slicePlaces (i:Int) (j:Int) 1=j-i:=by
 unfold Builtin.Slice.slicePlaces;have h1:(1:Int)>0:=by omega
 simp only [h1,if_true,Int.ediv_one];split<;>omega
theorem Zet {v:Value} {o:Option Int} {Q:Option Int→Shared→Prop} (p:IsPart v o) (h:Q o s):wpAny (model prog w) A (Builtin.Slice.slicePartIndex v) Q E s:=by
 cases p with
 | none=>exact slicePart_none h
 | int i t=>exact slicePart_int h
theorem Zao {sl:Addr} {vl vu:Value} {lo hi:Option Int} {n:Nat} {Q:Int×Int×Nat→Shared→Prop} (hs:s.heap.IsSliceOf sl vl vu .none) (pl:IsPart vl lo) (pu:IsPart vu hi)
 (h:Q (((sIx n 0 lo:Nat):Int),1,sIx n n hi-sIx n 0 lo) s):wpAny (model prog w) A (Builtin.Slice.sliceApplied (.ref sl) (pure (n:Int))) Q E s:=by
 obtain ⟨os,hos,hcs,hds⟩:=id hs;unfold Builtin.Slice.sliceApplied Builtin.Slice.sliceFields;refine n0_ (n0_ (wpAny_field hos hds (x:=vl) rfl (n0_ (wpAny_field hos hds (x:=vu) rfl (n0_ (wpAny_field hos hds (x:=.none) rfl (n3_ ?_)))))));refine n0_ (slicePart_none ?_);show wpAny _ _ (if ((1:Int) == 0)=true then _ else _) _ _ s
 rw [if_neg (by decide)];refine n0_ (Zet pl (n0_ (Zet pu (n0_ (n3_ ?_)))));show wpAny _ _ (match Builtin.Slice.sliceAdjust lo hi 1 (n:Int) with|(lo,hi)=>pure (lo,(1:Int),Builtin.Slice.slicePlaces lo hi 1)) _ _ s
 rw [Zkp lo hi n];show wpAny _ _ (pure (((sIx n 0 lo:Nat):Int),(1:Int),Builtin.Slice.slicePlaces ((sIx n 0 lo:Nat):Int) ((sIx n n hi:Nat):Int) 1)) _ _ s
 rw [Zkv];exact n3_ h
theorem Zos (xs:Array Value) (i k:Nat):((List.range k).filterMap fun (m:Nat)=>xs[((i:Int)+(m:Int)*1).toNat]?).toArray=((xs.toList.drop i).take k).toArray:=by
 have e:(fun (m:Nat)=>xs[((i:Int)+(m:Int)*1).toNat]?)=fun m=>xs[i+m]?:=by
  funext m
  have:((i:Int)+(m:Int)*1).toNat=i+m:=by omega
  rw [this]
 rw [e]
 have:=pick_run xs i k
 rw [List.filterMap_map] at this;have e2:((fun x=>xs[x]?) ∘ fun x=>i+x)=fun m=>xs[i+m]?:=rfl;rw [e2] at this;rw [this]
theorem getItem_tuple_cut {t sl:Addr} {items:Array Value} {vl vu:Value} {lo hi:Option Int} {Q:Value→Shared→Prop} (ht:IsTup s.heap t items) (hs:s.heap.IsSliceOf sl vl vu .none) (pl:IsPart vl lo) (pu:IsPart vu hi)
 (hw:¬ (sIx items.size 0 lo=0∧sIx items.size items.size hi=items.size))
 (h:Q (.ref s.z) { s with heap:=s.heap.push { cls:=.type "tuple",data:=.seq ((items.toList.drop (sIx items.size 0 lo)).take (sIx items.size items.size hi-sIx items.size 0 lo)).toArray } })
 (hsz:items.size≤sizeLine):wpAny (model prog w) A (getItem (.ref t) (.ref sl)) Q E s:=by
 have htake:sizeOk (.seq ((items.toList.drop (sIx items.size 0 lo)).take (sIx items.size items.size hi-sIx items.size 0 lo)).toArray):=by
  show ((items.toList.drop (sIx items.size 0 lo)).take (sIx items.size items.size hi-sIx items.size 0 lo)).toArray.size≤sizeLine
  rw [n9_,n47_,List.length_drop,Array.length_toList];omega
 have hj:sIx items.size items.size hi≤items.size:=Ztr _ _ (n7_ _) hi;obtain ⟨os,hos,hcs,hds⟩:=id hs;have hTs:s.TypeIs (.ref sl) "slice" := ⟨os,hos,hcs⟩;unfold getItem
 try with_reducible refine n31_ ?_
 first|refine n0_ (n3_ ?_)|skip
 refine n0_ (wpAny_sequenceKey ht.typeIs (by decide) ?_)
 refine n0_ (wpAny_callSpecial?_slot (name:=Str.ofString "__getitem__") ht.typeIs PyProof.Rows.slot_tuple_getitem
  (wpAny_call_entry PyProof.Rows.slot_tuple_getitem ht.typeIs entry_tuple_getitem ?_ (args_tuple_getitem _ _)))
 show wpAny _ _ (Builtin.Tuple.tupleItemsOf (.ref t) >>= _) _ _ s
 refine n0_ (tupleItemsOf_ ht ?_);refine n0_ (wpAny_typeOf hTs ?_);rw [if_pos (by decide)];refine n0_ (Zao hs pl pu ?_)
 have hno:¬ ((((sIx items.size 0 lo:Nat):Int) == 0&&(1:Int) == 1&&(sIx items.size items.size hi-sIx items.size 0 lo) == items.size)=true):=by
  intro q;rw [n30_,n30_] at q;have q1:((sIx items.size 0 lo:Nat):Int)=0:=eq_of_beq q.1.1;have q2:sIx items.size items.size hi-sIx items.size 0 lo=items.size:=eq_of_beq q.2;exact hw ⟨by omega,by omega⟩
 show wpAny _ _ (if (((sIx items.size 0 lo:Nat):Int) == 0&&(1:Int) == 1&&(sIx items.size items.size hi-sIx items.size 0 lo) == items.size)=true then _ else _) _ _ s
 rw [if_neg hno,Zos]
 first
  | exact n0_ (m:=Builtin.Tuple.tupleExact _) (wpAny_newObj_type (n3_ ⟨_,rfl,n3_ h⟩) htake)
  | exact n0_ (m:=Builtin.Tuple.tupleExact _) (wpAny_newObj_type (n0_ (n3_ (n3_ ⟨_,rfl,n3_ h⟩))) htake)
  | exact n0_ (n0_ (m:=Builtin.Tuple.tupleExact _) (wpAny_newObj_type (n3_ (n3_ ⟨_,rfl,n3_ h⟩)) htake))
  | exact n0_ (n0_ (m:=Builtin.Tuple.tupleExact _) (wpAny_newObj_type (n3_ ⟨_,rfl,n3_ h⟩) htake))
end
end HT
namespace L2
open PySem PySem.Spec PyProof.Rows
abbrev TO:=St→Hp→(Option Int→Hp→Prop)→Prop
def PO (X:Cx) (e:Option Expr) (t:TO):Prop :=
 ∀ (pins:List (Addr×Obj)) (s:Shared) (σ:St) (H:Hp) (Q:Option Int→Hp→Prop),Inv X pins σ H s→t σ H Q →
   wpAny (model X.prog X.w) X.A (evalPart e X.env) (fun u s'=>∃ o H',Inv X pins σ H' s'∧IsPart u o∧Q o H') X.xe s
def Zrd:TO:=fun _ H Q=>Q none H
def Zvf (t:TE):TO:=fun σ H Q=>t σ H fun x H1=>∃ i,x=.int i∧Q (some i) H1
variable {α:Type} {A:Around} {H:Hp} {pins:List (Addr×Obj)} {ns:List Int} {xs:List V} {its us:List Value} {n t':Nat} {s:Shared} {σ:St} {y:V} {u:Value}
theorem Yi:∀ {us:List Value},Vals (ns.map V.int) us→IntsAre us ns:=by
 induction ns with
 | nil=>intro us r;rw [List.map_nil] at r;cases r;exact .nil
 | cons n ns ih =>
   intro us r;rw [n46_] at r;cases r with
   | cons r1 r2 =>
     obtain ⟨t,e⟩:=r1;subst e;exact .cons n t (ih r2)
section
variable {X:Cx} {e:Expr} {te:TE} {lo hi:Option Expr} {tl th:TO} {pos p2:Pos}
theorem Zav:PO X none Zrd:=by
 intro pins s σ H Q I h;rw [evalPart_none];exact n3_ ⟨none,H,I,.none,h⟩
theorem Zax (h:PE X e te):PO X (some e) (Zvf te):=by
 intro pins s σ H Q I hw;rw [evalPart_some];refine thn (h pins s σ H _ I hw) fun u s1 ⟨x,H1,I1,r1,q1⟩=>?_;obtain ⟨i,rfl,q⟩:=q1;obtain ⟨t,rfl⟩:=r1;exact ⟨some i,H1,I1,.int i t,q⟩
def SlR (X:Cx) (r:V→Option Int→Option Int→Hp→VK→Prop):Prop :=
 ∀ (pins:List (Addr×Obj)) (s:Shared) (σ:St) (H:Hp) (x:V) (v vl vu:Value) (lo hi:Option Int) (sl:Addr) (Q:VK),Inv X pins σ H s→RelV x v→s.heap.IsSliceOf sl vl vu .none→IsPart vl lo→IsPart vu hi→r x lo hi H Q →
   ∃ T id,typeLookup (.type T) "__getitem__" = pure (some (.builtin id))∧s.TypeIs v T∧wpAny (model X.prog X.w) X.A (getItem v (.ref sl)) (EP X pins σ Q) X.xe s
def tSl (r:V→Option Int→Option Int→Hp→VK→Prop) (te:TE) (tl th:TO):TE:=fun σ H Q=>te σ H fun x H1=>tl σ H1 fun l H2=>th σ H2 fun u H3=>r x l u H3 Q
theorem X4 {r:V→Option Int→Option Int→Hp→VK→Prop} (hr:SlR X r) (he:PE X e te) (hl:PO X lo tl) (hu:PO X hi th):PE X (.Subscript e (.Slice lo hi none p2) pos) (tSl r te tl th):=by
 intro pins s σ H Q I h;refine Subscript_ (thn (he pins s σ H _ I h) fun v s1 ⟨x,H1,I1,r1,q1⟩=>?_);refine wpAny_Slice (thn (hl pins s1 σ H1 _ I1 q1) fun vl s2 ⟨l,H2,I2,pl,q2⟩=>thn (hu pins s2 σ H2 _ I2 q2) fun vu s3 ⟨u,H3,I3,pu,q3⟩=>?_);rw [evalPart_none];refine n3_ ?_;have I4:Inv X pins σ H3 { s3 with heap:=s3.heap.push { cls:=.type "slice",data:=.fields #[vl,vu,.none] } }:=I3.kept (t':=s3.toks) fun b ob q=>n2_ _ q;obtain ⟨T,id,hT,ht,hg⟩:=hr pins { s3 with heap:=s3.heap.push { cls:=.type "slice",data:=.fields #[vl,vu,.none] } } σ H3 x v vl vu l u s3.z Q I4 r1 (Heap.IsSliceOf.new ..) pl pu q3;show wpAny (model X.prog X.w) X.A (subscriptTail e (.Slice lo hi none p2) v (.ref s3.z)) (EP X pins σ Q) X.xe { s3 with heap:=s3.heap.push { cls:=.type "slice",data:=.fields #[vl,vu,.none] } }
 exact tail_any (ops:=[.ref s3.z,v]) ht hT hg (by with_unfolding_all rfl)
def cutV (xs:List V) (lo hi:Option Int):List V:=(xs.drop (HT.sIx xs.length 0 lo)).take (HT.sIx xs.length xs.length hi-HT.sIx xs.length 0 lo)
theorem Yu (xs:List V) (lo hi:Option Int):(cutV xs lo hi).length≤xs.length:=by
 unfold cutV;rw [n47_,List.length_drop];omega
def rSlT (K:PySem.W.Frag):V→Option Int→Option Int→Hp→VK→Prop:=fun x lo hi H Q=>∃ a xs,x=.ref a∧SqT K H a xs ∧
 ¬ (HT.sIx xs.length 0 lo=0∧HT.sIx xs.length xs.length hi=xs.length)∧∀ p,H p=none→Q (.ref p) (upd H p (.tup (cutV xs lo hi)))
theorem Zub:SlR X (rSlT X.K):=by
 intro pins s σ H x v vl vu lo hi sl Q I rx hs pl pu h;obtain ⟨a,xs,rfl,hx,hw,q⟩:=h;cases rx
 obtain ⟨its,r,ht,hz⟩:=I.tuple hx;have hlen:its.toArray.size=xs.length:=by rw [n9_];exact r.length.symm
 refine ⟨"tuple",_,PyProof.Rows.slot_tuple_getitem.lookup,ht.typeIs,?_⟩;refine HT.getItem_tuple_cut ht hs pl pu (by rw [hlen];exact hw) ?_ (by rw [hlen];exact hz);rw [hlen];refine ⟨.ref s.z,_,I.laid (t':=s.toks) (o:=.tup (cutV xs lo hi)) (fun b ob q=>n2_ _ q) (n7_ _) ?_,rfl,q _ (I.hok.fresh (n7_ _))⟩;exact ⟨n33_ (Yu xs lo hi) hz,_,(r.drop (HT.sIx xs.length 0 lo)).take (HT.sIx xs.length xs.length hi-HT.sIx xs.length 0 lo),IsTup.new _ _⟩
def rLtT (K:PySem.W.Frag):R2:=fun x y H Q=>∃ a b ns ms,x=.ref a∧y=.ref b∧SqT K H a (ns.map V.int)∧SqT K H b (ms.map V.int)∧Q (.bl (HT.lexLt ns ms)) H
theorem Ztq (hu:X.A.units<cLine):OpR X (compareOp .Lt) (rLtT X.K):=by
 intro pins s σ H x y v u Q I rx ry h;obtain ⟨a,b,ns,ms,rfl,rfl,ha,hb,q⟩:=h;cases rx
 cases ry
 obtain ⟨its,r1,p1,_⟩:=I.tuple ha;obtain ⟨its2,r2,p2,_⟩:=I.tuple hb;have i1:IntsAre its.toArray.toList ns:=Yi r1;have i2:IntsAre its2.toArray.toList ms:=Yi r2;exact HT.lt_tupInts p1 p2 i1 i2 hu ⟨.bl (HT.lexLt ns ms),H,I,rfl,q⟩
def Zvm (K:PySem.W.Frag):R2:=fun x y H Q=>∃ a b xs ys,x=.ref a∧y=.ref b∧SqT K H a xs∧SqT K H b ys∧xs≠[]∧xs.length+ys.length≤sizeLine ∧
 (ys=[]→Q (.ref a) H)∧(ys≠[]→∀ p,H p=none→Q (.ref p) (upd H p (.tup (xs++ys))))
theorem Vals.nil_iff (r:Vals xs us):us=[]↔xs=[]:=by
 cases r with
 | nil=>simp
 | cons _ _=>simp
theorem Zrr:OpR X (binaryOp .Add) (Zvm X.K):=by
 intro pins s σ H x y v u Q I rx ry h;obtain ⟨a,b,xs,ys,rfl,rfl,ha,hb,hx,hz,q1,q2⟩:=h;cases rx
 cases ry
 obtain ⟨its,r1,p1,_⟩:=I.tuple ha;obtain ⟨its2,r2,p2,_⟩:=I.tuple hb;refine HT.cat_tup p1 p2 (fun z=>hx (r1.nil_iff.mp z)) (fun z=>⟨.ref a,H,I,rfl,q1 (r2.nil_iff.mp z)⟩) (fun z=>?_) (by rw [← r1.length,← r2.length];exact hz);refine ⟨.ref s.z,_,I.laid (t':=s.toks) (o:=.tup (xs++ys)) (fun b ob q=>n2_ _ q) (n7_ _) ?_,rfl,q2 (fun w=>z (r2.nil_iff.mpr w)) _ (I.hok.fresh (n7_ _))⟩;exact ⟨by rw [n26_];exact hz,_,r1.append r2,IsTup.new _ _⟩
end
noncomputable def ixN (n:Nat) (i:Int):Option Nat:=if 0≤i then (if i<n then some i.toNat else none) else if -(n:Int)≤i then some (i+n).toNat else none
def atI {α:Type} (xs:List α) (i:Int):Option α:=(ixN xs.length i).bind fun j=>xs[j]?
theorem Zhs {i:Int} {j:Nat} (h:ixN n i=some j):seqIndex? i n=some j∧j<n∧-(n:Int)≤i∧i<n:=by
 unfold ixN at h
 by_cases h0:0≤i
 · rw [if_pos h0] at h
   by_cases h1:i<n
   · rw [if_pos h1] at h;have e:i.toNat=j:=Option.some.inj h;exact ⟨by rw [seqIndex_of h0 h1,e],by omega,by omega,h1⟩
   · rw [if_neg h1] at h;cases h
 · rw [if_neg h0] at h
   by_cases h1:-(n:Int)≤i
   · rw [if_pos h1] at h;have e:(i+n).toNat=j:=Option.some.inj h;exact ⟨by rw [seqIndex_neg (by omega) h1,e],by omega,h1,by omega⟩
   · rw [if_neg h1] at h;cases h
theorem Zmw {xs:List α} {i:Int} {v:α} (h:atI xs i=some v):∃ j,seqIndex? i xs.length=some j∧xs[j]? = some v∧j<xs.length∧-(xs.length:Int)≤i∧i<xs.length:=by
 unfold atI at h;cases e:ixN xs.length i with
 | none=>rw [e] at h;cases h
 | some j =>
   rw [e] at h;obtain ⟨h1,h2,h3,h4⟩:=Zhs e;exact ⟨j,h1,h,h2,h3,h4⟩
theorem Xz {xs:List α} {j:Nat} {v:α} (h:xs[j]? = some v):atI xs (j:Int)=some v:=by
 have hj:j<xs.length:=(n19_.mp h).1
 have e:ixN xs.length (j:Int)=some j:=by
  unfold ixN;rw [if_pos (by omega),if_pos (by omega)];simp
 unfold atI;rw [e];exact h
def Zrg (b:Expr):Prop:=∀ o i,subscripted b false o i=operate [o,i] (getItem o i)
def IxR (X:Cx) (r:R2):Prop :=
 ∀ (value slice:Expr) (pins:List (Addr×Obj)) (s:Shared) (σ:St) (H:Hp) (x y:V) (v u:Value) (Q:VK),Inv X pins σ H s→RelV x v→RelV y u→r x y H Q →
   subscripted slice false v u=operate [v,u] (getItem v u)→wpAny (model X.prog X.w) X.A (subscriptTail value slice v u) (EP X pins σ Q) X.xe s
def MtR (X:Cx) (id:String) (r:V→List V→Hp→VK→Prop):Prop :=
 ∀ (pins:List (Addr×Obj)) (s:Shared) (σ:St) (H:Hp) (x:V) (xs:List V) (v:Value) (us:List Value) (Q:VK),Inv X pins σ H s→RelV x v→Vals xs us→r x xs H Q →
   wpAny (model X.prog X.w) X.A (call (.builtin id) (v :: us)) (EP X pins σ Q) X.xe s
section
variable {X:Cx} {a b:Expr} {ta tb:TE} {pos:Pos}
theorem Zv {r:R2} (hr:IxR X r) (ha:PE X a ta) (hb:PE X b tb) (hs:Zrg b):PE X (.Subscript a b pos) (tOp r ta tb):=by
 intro pins s σ H Q I h;exact Subscript_ (binT ha hb I h fun v u s2 x y H2 I2 rx ry q=>hr a b pins s2 σ H2 x y v u Q I2 rx ry q (hs _ _))
def rIxL (K:PySem.W.Frag):R2:=fun x y H Q=>∃ p xs i v,x=.ref p∧y=.int i∧SqL K H p xs∧atI xs i=some v∧Q v H
def rIxT (K:PySem.W.Frag):R2:=fun x y H Q=>∃ p xs i v,x=.ref p∧y=.int i∧SqT K H p xs∧atI xs i=some v∧Q v H
theorem Z9:IxR X (rIxL X.K):=by
 intro value slice pins s σ H x y v u Q I rx ry h hs;obtain ⟨p,xs,i,z,rfl,rfl,hq,he,q⟩:=h;cases rx
 obtain ⟨t,rfl⟩:=ry;obtain ⟨its,r,pl,hz⟩:=I.list hq;obtain ⟨j,h1,h2,h3,h4,h5⟩:=Zmw he;obtain ⟨w,ew,rw'⟩:=r.get h2;have hl:=r.length;have hn:=Zdu;have fin:EP X pins σ Q w s:=⟨z,H,I,rw',q⟩
 by_cases h0:0≤i
 · have hj:i.toNat=j:=by
    rw [seqIndex_of h0 h5] at h1;exact Option.some.inj h1
   exact item_listR pl.isList h0 (by omega) (by rw [hj];simpa using ew) fin hs
 · have hj:(i+(its.toArray.size:Int)).toNat=j:=by
    rw [seqIndex_neg (by omega) h4] at h1;rw [n9_,← hl];exact Option.some.inj h1
   exact subscriptTail_builtinR (x:=w) pl.isList.typeIs slot_list_getitem.lookup
    (wpAny_getItem_list_neg (Q:=fun r s'=>r=w∧EP X pins σ Q r s') pl.isList (by omega) (by rw [n9_]<;>omega) (by omega) (by rw [hj];simpa using ew) ⟨rfl,fin⟩) hs
theorem Z3:IxR X (rIxT X.K):=by
 intro value slice pins s σ H x y v u Q I rx ry h hs;obtain ⟨p,xs,i,z,rfl,rfl,hq,he,q⟩:=h;cases rx
 obtain ⟨t,rfl⟩:=ry;obtain ⟨its,r,pl,hz⟩:=I.tuple hq;obtain ⟨j,h1,h2,h3,h4,h5⟩:=Zmw he;obtain ⟨w,ew,rw'⟩:=r.get h2;have hl:=r.length;have hn:=Zdu;have fin:EP X pins σ Q w s:=⟨z,H,I,rw',q⟩
 exact subscriptTail_builtinR (x:=w) pl.typeIs slot_tuple_getitem.lookup
  (getItem_tuple (j:=j) (Q:=fun r s'=>r=w∧EP X pins σ Q r s') pl (by omega) (by omega) (by rw [n9_,← hl];exact h1) (by simpa using ew) ⟨rfl,fin⟩) hs
theorem Zkr (its:List Value) (n j:Nat) (u:Value):Obj.mapSeq (·.setIfInBounds j u) { cls:=.type "list",data:=.seq its.toArray n }={ cls:=.type "list",data:=.seq (its.set j u).toArray n }:=by
 simp [Obj.mapSeq]
theorem Inv.lst {p:Addr} (I:Inv X pins σ H s) (h:H p=some (.lst xs)) :
 ∃ (its:List Value) (n:Nat),Vals xs its∧s.heap.get? p=some { cls:=.type "list",data:=.seq its.toArray n }∧xs.length≤sizeLine:=by
 obtain ⟨z,its,n,r,e⟩:=I.hok p _ h;exact ⟨its,n,r,e,z⟩
theorem Inv.lstUpd {p:Addr} {ys:List V} {its':List Value} {n':Nat} {f:Obj→Obj} (I:Inv X pins σ H s) (h:H p=some (.lst xs))
 (ho:s.heap.get? p=some { cls:=.type "list",data:=.seq its.toArray n }) (hf:f { cls:=.type "list",data:=.seq its.toArray n }={ cls:=.type "list",data:=.seq its'.toArray n' }) (r:Vals ys its') (hz:ys.length≤sizeLine) (t:Nat) :
 Inv X pins σ (upd H p (.lst ys)) { s with heap:=s.heap.update p f,toks:=t }:=by
 have e:(s.heap.update p f).get? p=some { cls:=.type "list",data:=.seq its'.toArray n' }:=by
  rw [n50_ f ho (by rw [hf]<;>rfl),hf]
 refine I.write (x:=p) (e:=p) (by rw [h];trivial) (.inl rfl) (fun b u hb q=>(n41_ _ _ (Ne.symm hb)).trans q) ⟨_,e⟩ ?_;exact ⟨hz,its',n',r,e⟩
def Zuz:V→V→V→Hp→(Hp→Prop)→Prop:=fun o i v H Q=>∃ p xs k j,o=.ref p∧i=.int k∧H p=some (.lst xs)∧ixN xs.length k=some j∧Q (upd H p (.lst (xs.set j v)))
theorem Zbn:PSet X Zuz:=by
 intro pins s σ H o i v ov iv u Q I ro ri rv h;obtain ⟨p,xs,k,j,rfl,rfl,hp,hj,q⟩:=h;cases ro
 obtain ⟨t,rfl⟩:=ri;obtain ⟨its,n,r,ho,hz⟩:=I.lst hp;obtain ⟨h1,h2,h3,h4⟩:=Zhs hj;have hl:=r.length;have hn:=Zdu
 have I':Inv X pins σ (upd H p (.lst (xs.set j v))) { s with heap:=s.heap.update p (Obj.mapSeq (·.setIfInBounds j u)) } :=
  I.lstUpd hp ho (Zkr its n j u) (r.set rv j) (by rw [List.length_set];exact hz) s.toks
 by_cases h0:0≤k
 · have hk:k.toNat=j:=by
    rw [seqIndex_of h0 h4] at h1;exact Option.some.inj h1
   exact PySem.W.ki_setAt ho h0 (by omega) (by rw [n9_,← hl];exact h4) (by rw [hk];exact ⟨_,I',q⟩)
 · have hk:(k+(its.toArray.size:Int)).toNat=j:=by
    rw [seqIndex_neg (by omega) h3] at h1;rw [n9_,← hl];exact Option.some.inj h1
   exact PySem.W.ki_setBack ho (by omega) (by rw [n9_,← hl];exact h3) (by omega) (by rw [hk];exact ⟨_,I',q⟩)
theorem Zhd (lo hi:Option Int) (n:Nat):(sliceBounds lo hi none n).1=((HT.sIx n 0 lo:Nat):Int)∧(sliceBounds lo hi none n).2.1=((HT.sIx n n hi:Nat):Int)∧(sliceBounds lo hi none n).2.2=1:=by
 refine ⟨?_,?_,rfl⟩
 · cases lo with
   | none=>simp [sliceBounds,HT.sIx]
   | some i =>
     simp only [sliceBounds,HT.sIx,Option.getD_none,show (1:Int)>0 by decide,if_true]
     by_cases h:i<0
     · simp only [h,if_true]<;>omega
     · simp only [h,if_false]<;>omega
 · cases hi with
   | none=>simp [sliceBounds,HT.sIx]
   | some i =>
     simp only [sliceBounds,HT.sIx,Option.getD_none,show (1:Int)>0 by decide,if_true]
     by_cases h:i<0
     · simp only [h,if_true]<;>omega
     · simp only [h,if_false]<;>omega
theorem Zfo (its:List Value) (lo hi:Option Int):slicePick its.toArray lo hi none=((its.drop (HT.sIx its.length 0 lo)).take (HT.sIx its.length its.length hi-HT.sIx its.length 0 lo)).toArray:=by
 obtain ⟨h1,h2,h3⟩:=Zhd lo hi its.toArray.size;unfold slicePick;rw [h1,h2,h3];simp only [sliceRange_one,pick_run,n9_]<;>rfl
def rSlL (K:PySem.W.Frag):V→Option Int→Option Int→Hp→VK→Prop:=fun x lo hi H Q=>∃ a xs,x=.ref a∧SqL K H a xs∧∀ p,H p=none→Q (.ref p) (upd H p (.lst (cutV xs lo hi)))
theorem Zr9:SlR X (rSlL X.K):=by
 intro pins s σ H x v vl vu lo hi sl Q I rx hs pl pu h;obtain ⟨a,xs,rfl,hx,q⟩:=h;cases rx
 obtain ⟨its,r,ht,hz⟩:=I.list hx;have hlen:=r.length;refine ⟨"list",_,slot_list_getitem.lookup,ht.isList.typeIs,?_⟩;refine wpAny_getItem_list_slice ht.isList hs pl pu .none (by simp) ?_ (by rw [n9_]<;>omega);rw [Zfo,← hlen];refine ⟨.ref s.z,_,I.laid (t':=s.toks) (o:=.lst (cutV xs lo hi)) (fun b ob q=>n2_ _ q) (n7_ _) ?_,rfl,q _ (I.hok.fresh (n7_ _))⟩;exact ⟨n33_ (Yu xs lo hi) hz,_,0,(r.drop (HT.sIx xs.length 0 lo)).take (HT.sIx xs.length xs.length hi-HT.sIx xs.length 0 lo),n8_ _ rfl⟩
noncomputable def Zft:V→Bool
 | .non=>true
 | .bl _=>true
 | .int _=>true
 | .str _=>true
 | _=>false
def eqV:V→V→Bool
 | .non,.non=>true
 | .bl a,.bl b=>a == b
 | .bl a,.int b=>(if a then 1 else 0) == b
 | .int a,.bl b=>a == (if b then 1 else 0)
 | .int a,.int b=>a == b
 | .str a,.str b=>a == b
 | _,_=>false
theorem Zur {x:V} {v:Value} (ry:RelV y u) (rx:RelV x v) (fy:Zft y=true) (fx:Zft x=true):SeqAt.EqAt A s u v (eqV y x):=by
 cases y with
 | non =>
   cases ry
   cases x with
   | non=>cases rx;exact SeqAt.EqAt.same _
   | bl b=>cases rx;exact SeqAt.EqAt.none_bool b
   | int b=>obtain ⟨t,rfl⟩:=rx;exact SeqAt.EqAt.none_int b t
   | str b=>obtain ⟨t,rfl⟩:=rx;exact SeqAt.EqAt.none_str b t
   | _=>exact absurd (show false=true from fx) n23_
 | bl a =>
   cases ry
   cases x with
   | non=>cases rx;exact SeqAt.EqAt.bool_none a
   | bl b=>cases rx;exact SeqAt.EqAt.bool_bool a b
   | int b=>obtain ⟨t,rfl⟩:=rx;exact SeqAt.EqAt.bool_int a b t
   | str b=>obtain ⟨t,rfl⟩:=rx;exact SeqAt.EqAt.bool_str a b t
   | _=>exact absurd (show false=true from fx) n23_
 | int a =>
   obtain ⟨t',rfl⟩:=ry;cases x with
   | non=>cases rx;exact SeqAt.EqAt.int_none a t'
   | bl b=>cases rx;exact SeqAt.EqAt.int_bool a t' b
   | int b=>obtain ⟨t,rfl⟩:=rx;exact SeqAt.EqAt.int_int a t' b t
   | str b=>obtain ⟨t,rfl⟩:=rx;exact SeqAt.EqAt.int_str a t' b t
   | _=>exact absurd (show false=true from fx) n23_
 | str a =>
   obtain ⟨t',rfl⟩:=ry;cases x with
   | non=>cases rx;exact SeqAt.EqAt.str_none a t'
   | bl b=>cases rx;exact SeqAt.EqAt.str_bool a t' b
   | int b=>obtain ⟨t,rfl⟩:=rx;exact SeqAt.EqAt.str_int a t' b t
   | str b=>obtain ⟨t,rfl⟩:=rx;exact SeqAt.EqAt.str_str a t' b t
   | _=>exact absurd (show false=true from fx) n23_
 | _=>exact absurd (show false=true from fy) n23_
def eqU (x:V) (u:Value):Bool:=match u with
 | .none=>eqV .non x
 | .bool b=>eqV (.bl b) x
 | .int i _=>eqV (.int i) x
 | .str z _=>eqV (.str z) x
 | _=>false
theorem Zp9 {x:V} (r:RelV y u) (f:Zft y=true):eqU x u=eqV y x:=by
 cases y with
 | non=>cases r;rfl
 | bl b=>cases r;rfl
 | int i=>obtain ⟨t,rfl⟩:=r;rfl
 | str z=>obtain ⟨t,rfl⟩:=r;rfl
 | _=>exact absurd (show false=true from f) n23_
theorem Zdm {x:V}:∀ {xs:List V} {us:List Value},Vals xs us→xs.all Zft=true→us.any (eqU x)=xs.any fun y=>eqV y x
 | _,_,.nil,_=>rfl
 | y :: xs,u :: us,.cons r t,f=>by
   rw [n60_,n30_] at f;rw [List.any_cons,List.any_cons,Zp9 r f.1,Zdm t f.2]
theorem Zbs {x:V} {v:Value} (rx:RelV x v) (fx:Zft x=true):∀ {xs:List V} {us:List Value},Vals xs us→xs.all Zft=true→∀ u∈us,SeqAt.EqAt A s u v (eqU x u)
 | _,_,.nil,_=>fun u hu=>by cases hu
 | y :: xs,u :: us,.cons r t,f=>fun u' hu=>by
   rw [n60_,n30_] at f
   rcases n12_.mp hu with rfl|hu
   · rw [Zp9 r f.1];exact Zur r rx f.1 fx
   · exact Zbs rx fx t f.2 u' hu
def inV (x:V) (xs:List V):Bool:=xs.any fun y=>eqV y x
def rIn (K:PySem.W.Frag) (neg:Bool):R2:=fun x y H Q=>∃ p xs,y=.ref p∧(SqL K H p xs∨SqT K H p xs)∧Zft x=true∧xs.all Zft=true∧Q (.bl (if neg then !inV x xs else inV x xs)) H
theorem Zg8:OpR X (compareOp .In) (rIn X.K false):=by
 intro pins s σ H x y v u Q I rx ry h;obtain ⟨p,xs,rfl,hq,fx,fs,q⟩:=h;cases ry
 rcases hq with hq|hq
 · obtain ⟨its,r,pl,hz⟩:=I.list hq;refine SeqAt.in_listAt (eqU x) pl.isList (fun w hw=>Zbs rx fx r fs w (by simpa using hw)) ⟨.bl _,H,I,rfl,?_⟩;rw [show its.toArray.any (eqU x)=its.any (eqU x) by simp,Zdm r fs];exact q
 · obtain ⟨its,r,pl,hz⟩:=I.tuple hq;refine SeqAt.in_tupleAt (eqU x) pl (fun w hw=>Zbs rx fx r fs w (by simpa using hw)) ⟨.bl _,H,I,rfl,?_⟩;rw [show its.toArray.any (eqU x)=its.any (eqU x) by simp,Zdm r fs];exact q
theorem Zce:OpR X (compareOp .NotIn) (rIn X.K true):=by
 intro pins s σ H x y v u Q I rx ry h;obtain ⟨p,xs,rfl,hq,fx,fs,q⟩:=h;cases ry
 rcases hq with hq|hq
 · obtain ⟨its,r,pl,hz⟩:=I.list hq;refine SeqAt.notIn_listAt (eqU x) pl.isList (fun w hw=>Zbs rx fx r fs w (by simpa using hw)) ⟨.bl _,H,I,rfl,?_⟩;rw [show its.toArray.any (eqU x)=its.any (eqU x) by simp,Zdm r fs];exact q
 · obtain ⟨its,r,pl,hz⟩:=I.tuple hq;refine SeqAt.notIn_tupleAt (eqU x) pl (fun w hw=>Zbs rx fx r fs w (by simpa using hw)) ⟨.bl _,H,I,rfl,?_⟩;rw [show its.toArray.any (eqU x)=its.any (eqU x) by simp,Zdm r fs];exact q
theorem Zq:Xn X (.builtin "len") (fun xs H Q=>∃ p ys,xs=[.ref p]∧(SqL X.K H p ys∨SqT X.K H p ys)∧Q (.int ys.length) H):=by
 intro pins s σ H xs us Q I r h;obtain ⟨p,ys,rfl,hq,q⟩:=h;obtain ⟨u,rfl,rx⟩:=Ziy r;cases rx
 have hn:=Zdu
 rcases hq with hq|hq
 · obtain ⟨its,r',pl,hz⟩:=I.list hq;have hlen:=r'.length;exact Calls.call_len_list pl.isList (by simp only [n9_]<;>omega) ⟨.int ys.length,H,I.tok _,⟨s.toks+1,by rw [n9_,hlen]⟩,q⟩
 · obtain ⟨its,r',pl,hz⟩:=I.tuple hq;have hlen:=r'.length;exact len_tuple pl (by simp only [n9_]<;>omega) ⟨.int ys.length,H,I.tok _,⟨s.toks+1,by rw [n9_,hlen]⟩,q⟩
theorem Zw:Xn X (.type "tuple") (fun xs H Q=>∃ p ys,xs=[.ref p]∧((SqL X.K H p ys∧∀ l,H l=none→Q (.ref l) (upd H l (.tup ys)))∨(SqT X.K H p ys∧Q (.ref p) H))):=by
 intro pins s σ H xs us Q I r h;obtain ⟨p,ys,rfl,h⟩:=h;obtain ⟨u,rfl,rx⟩:=Ziy r;cases rx
 rcases h with ⟨hq,q⟩|⟨hq,q⟩
 · obtain ⟨its,r',pl,hz⟩:=I.list hq;have hlen:=r'.length;refine call_tuple_list pl.isList (fun h' kp=>?_) (by simp only [n9_]<;>omega);have I1:Inv X pins σ H { s with heap:=h' }:=I.kept (t':=s.toks) kp
   have I2:Inv X pins σ (upd H h'.objs.size (.tup ys)) { s with heap:=h'.push { cls:=.type "tuple",data:=.seq its.toArray } } :=
    I1.laid (t':=s.toks) (fun b o e=>n2_ _ e) (n7_ _) (show ObjOk X.prog X.w _ _ _ (.tup ys) from ⟨hz,its,r',IsTup.new _ _⟩)
   exact ⟨.ref h'.objs.size,_,I2,rfl,q _ (I1.hok.fresh (n7_ _))⟩
 · obtain ⟨its,r',pl,hz⟩:=I.tuple hq;exact call_tuple_same pl ⟨.ref p,H,I,rfl,q⟩
def tyV (K:PySem.W.Frag) (T:String) (x:V) (H:Hp):Prop:=match x with
 | .str _=>T = "str"
 | .int _=>T = "int"
 | .ref p=>(T = "list" ∧ ∃ xs,SqL K H p xs)∨(T = "tuple" ∧ ∃ o,K.lookup p=some o∧o.cls=.type "tuple" ∧ o.dict=none) ∨
    (T = "dict" ∧ ((∃ kvs,H p=some (.dK kvs))∨∃ kvs,H p=some (.dT kvs)))∨(T = "set" ∧ ∃ S n,H p=some (.set S n))
 | _=>False
theorem Ztx {T:String} {x:V} {v:Value} (I:Inv X pins σ H s) (r:RelV x v) (ty:tyV X.K T x H) :
 s.TypeIs v T∧∀ a,v=.ref a→∃ ob,s.heap.get? a=some ob∧ob.dict=none:=by
 cases x with
 | str z =>
   obtain ⟨t,rfl⟩:=r;cases (show T = "str" from ty)
   exact ⟨typeIs_str s z t,fun _ e=>nomatch e⟩
 | int i =>
   obtain ⟨t,rfl⟩:=r;cases (show T = "int" from ty)
   exact ⟨typeIs_int s i t,fun _ e=>nomatch e⟩
 | ref p =>
   cases r
   rcases ty with ⟨rfl,xs,hq⟩|⟨rfl,o,hk,hc,hd⟩|⟨rfl,hk⟩|⟨rfl,S,n,hk⟩
   · obtain ⟨its,_,pl,_⟩:=I.list hq;refine ⟨pl.isList.typeIs,fun a e=>?_⟩;cases e
     obtain ⟨o,n,e,c,hd,_⟩:=pl;exact ⟨o,e,hd⟩
   · refine ⟨⟨o,I.kIn p o hk,hc⟩,fun a e=>?_⟩;cases e
     exact ⟨o,I.kIn _ o hk,hd⟩
   · have z:∃ o,s.heap.get? p=some o∧o.ExactDict:=by
      rcases hk with ⟨kvs,hk⟩|⟨kvs,hk⟩
      · obtain ⟨_,_,_,_,o,_,_,e,ex,_⟩:=I.hok p _ hk;exact ⟨o,e,ex⟩
      · obtain ⟨_,_,_,_,o,_,_,e,ex,_⟩:=I.hok p _ hk;exact ⟨o,e,ex⟩
     obtain ⟨o,e,ex⟩:=z;refine ⟨⟨o,e,ex.1⟩,fun a e2=>?_⟩;cases e2
     exact ⟨o,e,ex.2.1⟩
   · obtain ⟨o,_,_,_,e,ex,_⟩:=I.hok p _ hk;refine ⟨⟨o,e,ex.1⟩,fun a e2=>?_⟩;cases e2
     exact ⟨o,e,ex.2.1⟩
 | _=>exact False.elim ty
def tBM (K:PySem.W.Frag) (T:String) (r:V→List V→Hp→VK→Prop) (to:TE) (t:TA):TE:=fun σ H Q=>to σ H fun x H1=>tyV K T x H1∧t σ H1 fun xs H2=>r x xs H2 Q
variable {o e:Expr} {es:List Expr} {to:TE} {t:TA} {name:Str} {apos cpos:Pos} {T id:String} {r:V→List V→Hp→VK→Prop}
theorem Zfc (pa:PlainAttrs T) (slot:Slot T name id) (hty:typeOf (.builtin id)=pure (.type "method_descriptor")) (hm:MtR X id r) (ho:PE X o to) (ha:PA X (e :: es) t)
 (hbase:attributeBase o name X.env (eval o X.env)=eval o X.env:=by rfl)
 (hfew:((backTo cpos (starEach (e :: es) X.env)).all (fun x=>!x.1)&&(backToKw cpos (keywordEach [] X.env)).all (fun x=>x.1.isSome)
   && decide ((e :: es).length+([]:List Keyword).length+(if ([]:List Keyword).isEmpty then 0 else 1)<30))=true:=by rfl)
 (hline:(apos.endLine == cpos.line)=true:=by rfl) (hs:starEach (e :: es) X.env=(false,eval e X.env) :: starEach es X.env:=by rfl) (hplain:(backTo cpos (starEach es X.env)).any (·.1)=false:=by rfl) :
 PE X (.Call (.Attribute o name apos) (e :: es) [] cpos) (tBM X.K T r to t):=by
 intro pins s σ H Q I h;refine wpAny_Call_method_late hbase hfew hline rfl (thn (ho pins s σ H _ I h) fun v s1 ⟨x,H1,I1,r1,ty,q1⟩=>?_);obtain ⟨h1,h2⟩:=Ztx I1 r1 ty;refine ⟨T,id,pa,slot,hty,h1,h2,?_⟩;have hA:=ha cpos pins s1 σ H1 _ I1 q1;rw [hs] at hA ⊢;refine Calls.callWith_builtin (by show (false||(backTo cpos (starEach es X.env)).any (·.1))=false;rw [hplain]<;>rfl) (Calls.evalArgs_plain ?_);exact thn hA fun us s2 ⟨vs,H2,I2,r2,q2⟩=>hm pins s2 σ H2 x vs v us Q I2 r1 r2 q2
/- xs.append(e),list.index on a module's tuple .. are MtR facts of 06m -/
end
def MtM (X:Cx) (id:String) (r:V→List V→Hp→VK→Prop):Prop :=
 ∀ (pins:List (Addr×Obj)) (s:Shared) (σ:St) (H:Hp) (x:V) (xs:List V) (v:Value) (us:List Value) (Q:VK),Inv X pins σ H s→RelV x v→Vals xs us→r x xs H Q →
   wpAny (model X.prog X.w) X.A (call (.builtin id) (v :: us)) (EP X pins σ Q) X.xe s
theorem Vals.one {x:V} {us:List Value} (h:Vals [x] us):∃ u,us=[u]∧RelV x u:=by
 cases h with|cons r h=>cases h;exact ⟨_,rfl,r⟩
theorem Vals.eraseIdx:∀ {xs:List V} {us:List Value} (i:Nat),Vals xs us→Vals (xs.eraseIdx i) (us.eraseIdx i)
 | _,_,_,.nil=>.nil
 | _,_,0,.cons _ t=>t
 | _,_,i+1,.cons r t=>.cons r (Vals.eraseIdx i t)
theorem Vals.rep (h:Vals xs us):∀ k:Nat,Vals (List.replicate k xs).flatten (List.replicate k us).flatten
 | 0=>.nil
 | k+1=>by
   rw [n67_,n67_,List.flatten_cons,List.flatten_cons];exact Vals.append h (Vals.rep h k)
theorem Zg5:∀ (l:List α) (i:Nat),(l.eraseIdx i).length≤l.length
 | [],_=>n7_ _
 | _ :: _,0=>Nat.le_succ _
 | _ :: r,i+1=>Nat.succ_le_succ (Zg5 r i)
theorem Zf9 (its:List Value):∀ (k:Nat) (acc:List Value),
 List.foldl (fun x1 x2=>x1++x2) acc.toArray (List.replicate k its.toArray)=(acc++(List.replicate k its).flatten).toArray
 | 0,acc=>by simp
 | k+1,acc=>by
   have e:acc.toArray++its.toArray=(acc++its).toArray:=by simp
   have e2:(acc++its)++(List.replicate k its).flatten=acc++(List.replicate (k+1) its).flatten:=by
    rw [n67_,List.flatten_cons,n28_]
   rw [← e2,← Zf9 its k (acc++its),← e,n67_,List.foldl_cons]
section
variable {X:Cx} {pins:List (Addr×Obj)} {σ:St} {H:Hp} {s:Shared} {l b:Addr} {xs ys zs:List V}
theorem Inv.lset {its':List Value} {f:Array Value→Array Value} (I:Inv X pins σ H s) (hH:H l=some (.lst xs))
 (e:s.heap.get? l=some { cls:=.type "list",data:=.seq its.toArray n }) (hf:f its.toArray=its'.toArray) (hv:Vals ys its') (hz:ys.length≤sizeLine) :
 Inv X pins σ (upd H l (.lst ys)) { s with heap:=s.heap.update l (Obj.mapSeq f),toks:=t' }:=by
 have q:=PySem.IsL.update e f;rw [hf] at q;refine I.write (x:=l) (e:=l) (by rw [hH];exact trivial) (.inl rfl) (fun b' u hb hu=>(n41_ s.heap (Obj.mapSeq f) (Ne.symm hb)).trans hu) ⟨_,q⟩ ?_;exact ⟨hz,its',_,hv,q⟩
theorem Inv.lnew (I:Inv X pins σ H s) (hv:Vals ys its) (hz:ys.length≤sizeLine) :
 Inv X pins σ (upd H s.z (.lst ys)) { s with heap:=s.heap.push { cls:=.type "list",data:=.seq its.toArray },toks:=t' } :=
 I.laid (fun _ _ q=>n2_ _ q) (n7_ _) ⟨hz,its,0,hv,n8_ _ rfl⟩
theorem Inv.fresh (I:Inv X pins σ H s):H s.z=none:=I.hok.fresh (n7_ _)
theorem Inv.lstM (I:Inv X pins σ H s) (hH:H l=some (.lst xs)):xs.length≤sizeLine∧∃ (its:List Value) (n:Nat),Vals xs its∧xs.length=its.length∧s.heap.get? l=some { cls:=.type "list",data:=.seq its.toArray n }:=by
 obtain ⟨z,its,n,r,e⟩:=I.hok l _ hH;exact ⟨z,its,n,r,r.length,e⟩
theorem Zoi (h:n≤sizeLine):Builtin.List.listTooLong n=false:=by
 unfold Builtin.List.listTooLong;exact n25_ (by omega)
end
section
variable {X:Cx}
def Zqx:V→List V→Hp→VK→Prop:=fun x vs H Q=>∃ l xs y,x=.ref l∧vs=[y]∧H l=some (.lst xs)∧xs.length<sizeLine∧Q .non (upd H l (.lst (xs++[y])))
theorem Y8:MtM X "list.append" Zqx:=by
 intro pins s σ H x vs v us Q I rx rv h;obtain ⟨l,xs,y,rfl,rfl,hH,hz,q⟩:=h;cases rx
 obtain ⟨u,rfl,ru⟩:=rv.one;obtain ⟨z,its,n,r,hl,e⟩:=I.lstM hH;refine call_meets F.slot_list_append ⟨_,e,rfl⟩ F.entry_list_append (F.args_list_append_2 _ _) (PySem.list_append l its.toArray n u (by rw [n9_];omega)) ⟨e,?_⟩;refine ⟨.non,_,I.lset (its':=its++[u]) hH e (by simp) (r.append (.cons ru .nil)) ?_,rfl,q⟩;rw [n26_,List.length_singleton];omega
def Zus:V→List V→Hp→VK→Prop:=fun x vs H Q=>∃ l xs i k y,x=.ref l∧vs=[.int i]∧H l=some (.lst xs)∧-(2^63)≤i∧i<2^63∧seqIndex? i xs.length=some k∧xs[k]? = some y∧Q y (upd H l (.lst (xs.eraseIdx k)))
theorem Zn9:MtM X "list.pop" Zus:=by
 intro pins s σ H x vs v us Q I rx rv h;obtain ⟨l,xs,i,k,y,rfl,rfl,hH,h1,h2,hk,hy,q⟩:=h;cases rx
 obtain ⟨u,rfl,ru⟩:=rv.one;obtain ⟨t,rfl⟩:=ru;obtain ⟨z,its,n,r,hl,e⟩:=I.lstM hH;obtain ⟨w,hw,rw'⟩:=r.get hy
 refine call_meets F.slot_list_pop ⟨_,e,rfl⟩ F.entry_list_pop (F.args_list_pop_2 _ _)
  (MeetsSeq.list_pop_at l its.toArray n i t k w (fitsIndex_both h1 h2) (by rw [n9_,← hl];exact hk) (by rw [← Array.getElem?_toList];exact hw) (by rw [n9_];omega)) ⟨e,?_⟩
 refine ⟨y,_,I.lset (its':=its.eraseIdx k) hH e ?_ (r.eraseIdx k) ?_,rw',q⟩
 · show its.toArray.eraseIdxIfInBounds k=(its.eraseIdx k).toArray
   rw [List.eraseIdxIfInBounds_toArray]
 · have:=Zg5 xs k
   omega
def rCat:R2:=fun x y H Q=>∃ l b xs zs,x=.ref l∧y=.ref b∧H l=some (.lst xs)∧H b=some (.lst zs)∧xs.length+zs.length≤sizeLine∧∀ p,H p=none→Q (.ref p) (upd H p (.lst (xs++zs)))
theorem Zsq:OpR X (binaryOp .Add) rCat:=by
 intro pins s σ H x y v u Q I rx ry h;obtain ⟨l,b,xs,zs,rfl,rfl,hH,hB,hz,q⟩:=h;cases rx
 cases ry
 obtain ⟨z,its,n,r,hl,e⟩:=I.lstM hH;obtain ⟨z2,its2,n2,r2,hl2,e2⟩:=I.lstM hB;refine PySem.P.add_list e e2 ?_ (by rw [n9_,n9_];omega);have ea:its.toArray++its2.toArray=(its++its2).toArray:=by simp
 rw [ea];exact ⟨.ref _,_,I.lnew (t':=s.toks) (r.append r2) (by rw [n26_];omega),rfl,q _ I.fresh⟩
def rRep:R2:=fun x y H Q=>∃ l k xs,x=.ref l∧y=.int k∧H l=some (.lst xs)∧-(2^63)≤k∧k<2^63∧xs.length*k.toNat≤sizeLine ∧
 ∀ p,H p=none→Q (.ref p) (upd H p (.lst (List.replicate k.toNat xs).flatten))
theorem Zq6 (xs:List α) (k:Nat):(List.replicate k xs).flatten.length=k*xs.length:=by
 induction k with
 | zero=>simp
 | succ k ih=>rw [n67_,List.flatten_cons,n26_,ih,Nat.succ_mul,Nat.add_comm]
theorem Zqg:OpR X (binaryOp .Mult) rRep:=by
 intro pins s σ H x y v u Q I rx ry h;obtain ⟨l,k,xs,rfl,rfl,hH,h1,h2,hz,q⟩:=h;cases rx
 obtain ⟨t,rfl⟩:=ry;obtain ⟨z,its,n,r,hl,e⟩:=I.lstM hH;have hlen:its.toArray.size*k.toNat≤sizeLine:=by rw [n9_,← hl];exact hz
 have hcap:¬ its.toArray.size*k.toNat>(2^63-1)/8:=by
  have:(sizeLine:Nat)≤(2^63-1)/8:=by decide
  omega
 have hfit:¬ (!Builtin.List.listFitsIndex k)=true:=by
  rw [fitsIndex_both h1 h2];exact n23_
 have hlong:¬ Builtin.List.listTooLong (its.toArray.size*k.toNat)=true:=by
  rw [Zoi hlen];exact n23_
 have hnew:List.foldl (fun x1 x2=>x1++x2) #[] (List.replicate (if its.toArray.isEmpty=true then 0 else k.toNat) its.toArray)=(List.replicate k.toNat its).flatten.toArray:=by
  have f0:∀ m:Nat,List.foldl (fun x1 x2=>x1++x2) #[] (List.replicate m its.toArray)=(List.replicate m its).flatten.toArray:=fun m=>by
   have:=Zf9 its m []
   rw [n65_] at this;exact this
  rw [f0];cases its with
  | nil=>simp
  | cons a r'=>rw [if_neg (by simp)]
 refine wpAny_binaryOp_repeat_ref (T := "list") (U := "int") (by decide) ⟨_,e,rfl⟩ (fun s'=>typeIs_int s' k t) noFill_list_mul F.fills_int_mul F.slot_int_rmul repeat_list F.slot_int_index.lookup
  (call_meets F.slot_int_rmul (typeIs_int s k t) F.entry_int_rmul (F.args_int_rmul_2 _ _) (int___rmul___int_list k t l its.toArray n)
    ⟨e,rfl,⟨_,e,rfl⟩,call_meets F.slot_list_mul ⟨_,e,rfl⟩ F.entry_list_mul (F.args_list_mul_2 _ _) (AutoListH.list___mul___list_int_3 l its.toArray n k t hfit hcap hlong) ⟨e,?_⟩⟩)
 rw [hnew];exact ⟨.ref _,_,I.lnew (t':=s.toks) (r.rep k.toNat) (by rw [Zq6,Nat.mul_comm];exact hz),rfl,q _ I.fresh⟩
end
section
variable {prog:Program} {w:World} {A:Around} {E:Value→Shared→Prop} {s:Shared}
set_option maxRecDepth 100000 in
end
section
variable {X:Cx}
end
end L2
namespace Att
open PySem PySem.W PySem.Calls PyProof.Rows
theorem Zd0 {P:Params} {h:Heap}:∀ (ns:List Int) (vs:List Value),WellAll P h vs (ns.map WData.int)→IntsAre vs ns:=by
 intro ns
 induction ns with
 | nil =>
   intro vs w;rw [List.map_nil] at w;cases w
   exact .nil
 | cons n ns ih =>
   intro vs w;rw [n46_] at w;cases w with
   | cons a b =>
     cases a
     exact .cons _ _ (ih _ b)
theorem Zni {l:OpenLaw} {n:Nat} (hn:l.most=some n) {P:Params} {h:Heap} {args:List WData} {vals:List Value}
 (hpre:l.row.toRowW.claim.pre args=true) (hwl:WellAll P h vals args) :
 ∃ a vs ns,vals=[Value.ref a]∧args=[WData.list (ns.map WData.int)]∧h.get? a=some { cls:=.type "list",data:=.seq vs.toArray }∧IntsAre vs ns∧ns.length≤n:=by
 have hsh:WShape.hasAll [] args [.list .int]=true:=(pre_splitW hpre).1;have hc:l.pre.holds [] { args:=args }=true:=(pre_splitW hpre).2;obtain ⟨d,r,rfl,h1,h2⟩:=hasAllW_cons hsh;obtain rfl:=hasAllW_nil h2;obtain ⟨xs,rfl,h3⟩:=hasW_list h1;obtain ⟨ns,rfl⟩:=items_int h3
 have hlen:ns.length≤n:=by
  unfold OpenLaw.pre at hc
  have h4:(WTm.not (.lt (.lit (.int (n:Int))) (.len (.arg 0)))).holds [] { args:=[.list (ns.map .int)] }=true:=by
   have h4:=(holds_andW hc).1;rw [hn] at h4;exact h4
  have h5:=condW_of h4 (w_not (w_lt w_lit (w_len_list (w_arg rfl))));rw [n5_] at h5;refine Nat.le_of_not_lt fun q=>?_;have q':(n:Int)<((ns.length:Nat):Int):=by omega
  first
   | (rw [n24_ q'] at h5;exact absurd h5 (by decide))
   | (simp at h5;omega)
 cases hwl with
 | cons w1 w2 =>
   cases w2
   cases w1 with
   | list ho hall=>exact ⟨_,_,ns,rfl,rfl,ho,Zd0 ns _ hall,hlen⟩
theorem Zl1 (l:OpenLaw) (args:List WData):l.row.toRowW.claim.post args (.bool true) args=true :=
 postW_of (r:=l.row.toRowW) (X:=(true == true))
  (show WShape.has [] (.bool true) .bool=true by first|rfl|decide|simp [WShape.has,WShape.arms,WShape.armsAll])
  (show (WTm.eq .res (.lit (.bool true))).value [] { args:=args,res:=some (.bool true),after:=args }=some (.bool (true == true)) from w_eq_bool (w_res rfl) w_lit) rfl
theorem attach_call {l:OpenLaw} {n:Nat} {q:Program} {loose:List Str} {XP:(Str→Option Value)→Heap→Prop} {YP:World→Heap→Prop} {d:DefRec}
 (hn:l.most=some n) (hdf:d.params.defaults=[])
 (call:∀ (w:World) (s₀ s₁:Shared) (mg mb:Str→Option Value) (fa:Addr) (o:Obj) (pm cd doc:Value) (a:Addr) (vs:List Value) (ns:List Int),
   Ground q loose [] XP w s₀ mg mb s₁.heap→YP w s₁.heap →
   s₁.heap.get? fa=some o→o.data=.func (docDef d.name d.params d.body d.scope pm cd doc)→s₁.heap.CodeRec cd d.name→mg d.name=some (.ref fa) →
   s₁.heap.get? a=some { cls:=.type "list",data:=.seq vs.toArray }→IntsAre vs ns→ns.length≤n→s₁.gens=#[] →
   codeAny (model l.prog w) callerA (.call (.ref fa) ⟨[.ref a],[]⟩) (fun r s'=>r=.ok (.ret (.bool true))∧OldK s₁.heap s'.heap∧s'.os=s₁.os∧AllBare s'.gens) s₁) :
 WalkO q loose XP YP l.row.toRowW d [] (fun f vs=>PySem.call f vs):=by
 intro w s₀ s₁ mg mb G Y fa o pm cd doc dV kV ho hd hcd hD hmg hg args vals as hpre hlay hrd hwl hlo;obtain rfl:dV=.none:=Dflts.none hD hdf;obtain rfl:kV=.none:=Dflts.noKw hD;obtain ⟨a,vs,ns,rfl,rfl,hobj,hints,hlen⟩:=Zni hn hpre hwl;refine enter_call (codeAny_mono (call w s₀ s₁ mg mb fa o pm cd doc a vs ns G Y ho (fd_plain hd) hcd hmg hobj hints hlen hg) fun r s' hq=>?_);obtain ⟨rfl,h2,h3,h4⟩:=hq;exact ⟨.inl ⟨.bool true,.bool true,[],rfl,fun _=>rfl,.bool true,Zl1 l _,fun _=>⟨List.Pairwise.nil,fun _ hm=>(nomatch hm)⟩⟩,h2,h3,h4⟩
section
variable {prog:Program} {w:World} {A:Around} {E:Value→Shared→Prop} {s:Shared} {K:Frag}
end
end Att
namespace L2
open PySem PySem.Spec PyProof.Rows
theorem Zhj:∀ {vs:List Value} {ns:List Int},IntsAre vs ns→Vals (ns.map V.int) vs
 | _,_,.nil=>.nil
 | _,_,.cons n t h=>.cons ⟨t,rfl⟩ (Zhj h)
def Only (H:Hp):Prop:=∀ b,H b=none∨∃ o xs,H b=some (.frz o (.lst xs))
variable {a f l:Addr} {A:Around} {X:Cx} {fd:FuncData} {H H' H1 H2:Hp} {ns:List Int} {N ps:List Str} {xs:List V} {k n:Nat} {pos:Pos} {P:Program} {qual x:Str} {w:World}
theorem Zob {K:PySem.W.Frag} {mg mb:Str→Option Value} {CX:CXT} {fa:Addr} {sp:Sp} {s₁:Shared} {vs:List Value}
 (KX:K.In s₁.heap) (hns:s₁.heap.Ns mainGlobals mg) (hb:s₁.heap.Ns builtinsNs mb) (hbb:∀ x:Str,x ≠ "__name__" → mb x=bootBuiltins x) (hlim:s₁.heap.NoLimit) (hg:s₁.gens=#[])
 (ha:s₁.heap.get? a=some { cls:=.type "list",data:=.seq vs.toArray }) (hi:IntsAre vs ns) (hl:ns.length≤sizeLine) (hr:Room k callerA)
 (F:∀ base:Heap,K.In base→base.Ns mainGlobals mg→FnOk P w K mg base CX k fa fd [x] sp) (hbind:∀ (s:Shared) (u:Value),BindsTo s fd ⟨[u],[]⟩ [(x,u)])
 (hsp:∀ H:Hp,Only H→SqL K H a (ns.map V.int)→sp [.ref a] H (fun v _=>v=.bl true) fun _ _ _=>False)
 (hCX:∀ H e s',CX [] H s₁ (fun _ _ _=>False) e s'→False) :
 codeAny (model P w) callerA (.call (.ref fa) ⟨[.ref a],[]⟩) (fun r s'=>r=.ok (.ret (.bool true))∧OldK s₁.heap s'.heap∧s'.os=s₁.os∧AllBare s'.gens) s₁:=by
 have rv:=Zhj hi;have lenV:=hi.length
 have core:∀ H:Hp,Only H→SqL K H a (ns.map V.int)→HOk P w H s₁.heap→(∀ b,H b≠none→b=a)→(H a≠none→K.lookup a=none) →
  codeAny (model P w) callerA (.call (.ref fa) ⟨[.ref a],[]⟩) (fun r s'=>r=.ok (.ret (.bool true))∧OldK s₁.heap s'.heap∧s'.os=s₁.os∧AllBare s'.gens) s₁:=by
  intro H hO hS hok hA hK;have Zc6:∀ {b:Addr} {o:Obj},s₁.heap.get? b=some o→H b=none→(hidT s₁.heap H).get? b=some o:=fun e n=>Zoh e n
  have noA:∀ {b:Addr} {o:Obj} {es:Array DictEntry} {ep:Nat},s₁.heap.get? b=some o→o.data=.dict es ep→H b=none:=fun {b o es ep} e d=>by
   cases q:H b with
   | none=>rfl
   | some u =>
     have e':b=a:=hA b (by rw [q];simp);subst e';rw [ha] at e;cases e;have d':Data.seq vs.toArray _=Data.dict es ep:=d;cases d'
  have nsK:∀ {b:Addr} {m:Str→Option Value},s₁.heap.Ns b m→(hidT s₁.heap H).Ns b m:=fun {b m} ⟨o,es,ep,e,d,r⟩=>⟨o,es,ep,Zc6 e (noA e d),d,r⟩
  have hKb:K.In (hidT s₁.heap H):=fun b o e=>Zc6 (KX b o e) (by
   cases q:H b with
   | none=>rfl
   | some u =>
     have e':b=a:=hA b (by rw [q];simp);subst e';rw [hK (by rw [q];simp)] at e;cases e)
  have hM:Mod K mg (hidT s₁.heap H):=⟨hKb,nsK hns,⟨mb,nsK hb,hbb⟩,let ⟨mc,h1,h2⟩:=hlim;⟨mc,nsK h1,h2⟩⟩;have e0:Env0 P w K mg (hidT s₁.heap H) callerA [] s₁ H:=⟨rfl,hM,fun b o e=>Zra e,Nat.le_of_eq (Zn5 _ _),trivial,fun b hb=>absurd (show b∈([]:List Addr) from hb) (by simp),hok,.of_eq hg⟩;refine codeAny_mono ((F _ hKb (nsK hns)).run callerA [] s₁ H ⟨[.ref a],[]⟩ [.ref a] [.ref a] _ _ hr e0 (hbind s₁ (.ref a)) (.cons rfl .nil) (hsp H hO hS)) fun r s' h=>?_;cases r with
  | error e=>exact (hCX H e s' h).elim
  | ok fl =>
    cases fl with
    | next=>exact False.elim h
    | brk=>exact False.elim h
    | cont=>exact False.elim h
    | ret u =>
      obtain ⟨v,H',os,bare,un,hok',r',q⟩:=h;have q':v=.bl true:=q;subst q';obtain rfl:u=Value.bool true:=r';refine ⟨rfl,OldK.of_keep fun b o e=>?_,os,bare⟩;cases q:H b with
      | none=>exact un.keep b o e q (by intro z;exact absurd (show b∈([]:List Addr) from z) (by simp)) (by simp)
      | some u =>
        rcases hO b with z|⟨ob,xs,z⟩
        · rw [q] at z;cases z
        · have z2:=un.frzs b ob _ z;obtain ⟨e1,_⟩:=hok b _ z;obtain ⟨e2,_⟩:=hok' b _ z2;rw [e] at e1;cases e1;exact e2
 cases hk:K.lookup a with
 | some o =>
   have e:=KX a o hk;rw [ha] at e;cases e
   refine core (fun _=>none) (fun _=>.inl rfl) (.inr ⟨_,vs.toArray,_,hk,rfl,rfl,rfl,by rw [n9_,lenV];exact hl,by simpa using rv⟩) (fun b u z=>by have z':(none:Option HO)=some u:=z;cases z') (fun b z=>absurd rfl z) fun z=>absurd rfl z
 | none =>
   refine core (fun b=>if b=a then some (.frz { cls:=.type "list",data:=.seq vs.toArray } (.lst (ns.map V.int))) else none) (fun b=>?_) (.inl (.inr ⟨{ cls:=.type "list",data:=.seq vs.toArray },if_pos rfl⟩)) (fun b u z=>?_) (fun b z=>?_) fun _=>hk
   · by_cases hb:b=a
     · exact .inr ⟨_,_,if_pos hb⟩
     · exact .inl (if_neg hb)
   · by_cases hb:b=a
     · have z':=(if_pos hb).symm.trans z;cases z'
       subst hb;exact ⟨ha,by rw [n5_];exact hl,vs,_,rv,ha⟩
     · have z':=(if_neg hb).symm.trans z;cases z'
   · by_cases hb:b=a
     · exact hb
     · exact absurd (if_neg hb) z
theorem Zrk {l:PySem.W.OpenLaw} {q:Program} {loose:List Str} {XP:(Str→Option Value)→Heap→Prop} {YP:World→Heap→Prop} {d:DefRec} {K:Params→PySem.W.Frag} {CX:World→CXT} {sp:World→Sp}
 (hn:l.most=some n) (hn2:n≤sizeLine) (hdf:d.params.defaults=[]) (hr:Room k callerA)
 (hY:∀ (w:World) (h:Heap),YP w h→(K w.params).In h)
 (F:∀ (w:World) (mg:Str→Option Value) (fa:Addr) (h:Heap),(K w.params).In h→h.Ns mainGlobals mg→mg d.name=some (.ref fa) →
   ∃ fd:FuncData,(∀ (s:Shared) (u:Value),BindsTo s fd ⟨[u],[]⟩ [(x,u)]) ∧
     ∀ base:Heap,(K w.params).In base→base.Ns mainGlobals mg→FnOk l.prog w (K w.params) mg base (CX w) k fa fd [x] (sp w))
 (hsp:∀ (w:World) (H:Hp) (a:Addr) (ns:List Int),ns.length≤n→Only H→SqL (K w.params) H a (ns.map V.int)→sp w [.ref a] H (fun v _=>v=.bl true) fun _ _ _=>False)
 (hCX:∀ (w:World) (H:Hp) (s:Shared) (e:Value) (s':Shared),CX w [] H s (fun _ _ _=>False) e s'→False) :
 PySem.W.WalkO q loose XP YP l.row.toRowW d [] (fun f vs=>PySem.call f vs):=by
 refine Att.attach_call hn hdf fun w s₀ s₁ mg mb fa o pm cd doc a vs ns G Y ho hd hcd hmg hobj hints hlen hg=>?_;have KX:=hY w _ Y;obtain ⟨fd,hb,hF⟩:=F w mg fa _ KX G.T.g hmg;exact Zob KX G.T.g G.T.b G.T.builtins G.T.nolimit hg hobj hints (n33_ hlen hn2) hr hF hb (fun H hO hS=>hsp w H a ns hlen hO hS) fun H e s'=>hCX w H s₁ e s'
noncomputable def X6 (s:Stmt):Arguments:=match s with
 | .FunctionDef _ a _ _ _ _ _ _ _ _=>a
 | _=>{ posonlyargs:=[],args:=[],vararg:=none,kwonlyargs:=[],kw_defaults:=[],kwarg:=none,defaults:=[] }
def Xv (s:Stmt):List Stmt:=match s with
 | .FunctionDef _ _ b _ _ _ _ _ _ _=>b
 | _=>[]
noncomputable def Zf (s:Stmt):Scope:=match s with
 | .FunctionDef _ _ _ _ _ _ sc _ _ _=>sc
 | _=>{ kind:=.function,names:=[],isGenerator:=false,isCoroutine:=false }
abbrev CX0:CXT:=fun _ _ _ _ _ _=>False
abbrev E0:XK:=fun _ _ _=>False
theorem Zut:Zi7 CX0 X E0:=fun _ _ _ _ _ _ _ h=>h.elim
structure Fun (K:PySem.W.Frag) (x qual:Str) (st:Stmt) (f:Addr) (fd:FuncData):Prop where
 ex:∃ (oc:Value) (od:Option Addr) (kV doc pm:Value) (an:Option Addr) (cdv ct:Value) (osl:Array (Option Value)),
  fd=PySem.W.fnOf x qual (X6 st) (Xv st) (Zf st) .none kV doc pm an cdv ct∧K.lookup f=some ⟨oc,od,.func fd,osl⟩∧PySem.W.codeIn K cdv qual=true
 kp:PySem.W.keepIn K (.ref f)=true
section
variable {P:Program} {w:World} {K:PySem.W.Frag} {mg:Str→Option Value} {base:Heap}
theorem Fun.ok {st:Stmt} {sp:Sp} (F:Fun K x qual st f fd) (S:FnScope N ps (Zf st))
 (hbody:∀ (cdv:Value) (A:Around) (outer:List Env) (s:Shared) (H:Hp) (vs:List V) (Q:VK) (E:XK),Room k (A.deeper (envOfC qual (Zf st) s.z f cdv))→sp vs H Q E →
   ∃ t,PSs (cxOf CX0 P w K mg base N qual (Zf st) f cdv A outer s H E).nox (Xv st) t∧t { nx:=fun _ H'=>Q .non H',rt:=Q } (start N vs) H) (len:∀ vs H Q E,sp vs H Q E→vs.length=ps.length:=by intro _ _ _ _ h;repeat first|(subst_vars;rfl)|obtain ⟨_,h⟩:=h):FnOk P w K mg base CX0 (k+1) f fd ps sp:=by
 obtain ⟨oc,od,kV,doc,pm,an,cdv,ct,osl,rfl,lk,hcd⟩:=F.ex;refine Zu6 lk hcd S len fun A outer s H vs Q E hr hsp=>?_;obtain ⟨t,h,q⟩:=hbody cdv A outer s H vs Q E hr hsp;exact ⟨t,h.nox,q⟩
theorem Fun.binds {st:Stmt} (F:Fun K x qual st f fd)
 (h:∀ (kV doc pm:Value) (an:Option Addr) (cdv ct:Value) (us:List Value),us.length=ps.length→bindArgs (PySem.W.fnOf x qual (X6 st) (Xv st) (Zf st) .none kV doc pm an cdv ct) ⟨us,[]⟩=pure (ps.zip us)):Binds K fd ps []:=by
 obtain ⟨oc,od,kV,doc,pm,an,cdv,ct,osl,rfl,lk,hcd⟩:=F.ex;exact .all (h kV doc pm an cdv ct)
theorem Zp6 {st:Stmt} {oc:Value} {od an:Option Addr} {osl:Array (Option Value)} {kV doc pm cdv ct:Value} (l:K.lookup f=some ⟨oc,od,.func (PySem.W.fnOf x qual (X6 st) (Xv st) (Zf st) .none kV doc pm an cdv ct),osl⟩)
 (c:PySem.W.codeIn K cdv qual=true) (k:PySem.W.keepIn K (.ref f)=true):Fun K x qual st f (PySem.W.fnOf x qual (X6 st) (Xv st) (Zf st) .none kV doc pm an cdv ct):=⟨⟨oc,od,kV,doc,pm,an,cdv,ct,osl,rfl,l,c⟩,k⟩
end
theorem Zk9 (hr:Room k A):A.units+1<cLine:=n76_ (Nat.add_le_add_left (by decide:1≤64) _) hr.units
section
variable {X:Cx}
theorem pv (i:Nat) (hN:X.N[i]? = some x:=by rfl) (hv:Vis X.env.scope x:=by first|exact Or.inl rfl|exact Or.inr (Or.inl rfl)|exact Or.inr (Or.inr rfl)) (hd:(x == ("__debug__" : Str))=false:=by decide)
 (hcd:(x == ("__classdict__" : Str))=false:=by decide):PE X (.Name x pos) (tVar i):=Zui hN hv hd hcd
end
theorem iteF {A B:Prop} (h:B):if false=true then A else B:=by
 rw [if_neg n23_];exact h
theorem iteT {A B:Prop} (h:A):if true=true then A else B:=by
 rw [if_pos rfl];exact h
theorem ite2 {c A B:Prop} [Decidable c] (h1:c→A) (h2:¬ c→B):if c then A else B:=by
 by_cases h:c
 · rw [if_pos h];exact h1 h
 · rw [if_neg h];exact h2 h
def Same (H H':Hp):Prop:=∀ b o,H b=some o→H' b=some o
theorem Same.refl (H:Hp):Same H H:=fun _ _ h=>h
theorem Same.trans (a:Same H H1) (b:Same H1 H2):Same H H2:=fun c o h=>b c o (a c o h)
theorem Same.free (e:Same H H') (h:H' l=Option.none):H l=Option.none:=by
 cases q:H l with
 | none=>rfl
 | some o =>
   rw [e l o q] at h;cases h
theorem Same.seq {K:PySem.W.Frag} (e:Same H H') (h:SqL K H a xs):SqL K H' a xs:=by
 rcases h with (h|⟨o,h⟩)|h
 · exact .inl (.inl (e _ _ h))
 · exact .inl (.inr ⟨o,e _ _ h⟩)
 · exact .inr h
end L2
namespace FM
end FM
namespace L2
open PySem PySem.Spec PyProof.Rows
variable {C D a it l:Addr} {A:Around} {X:Cx} {env:Env} {elt iter tg:Expr} {h h':Heap} {H H' H1 H2:Hp} {pins:List (Addr×Obj)} {fr:List (Option Nat)} {cl:List (Str×Addr)} {fp:List Addr} {N:List Str} {i k n:Nat} {o:Obj} {pos:Pos} {P prog:Program} {R:Result→Shared→Prop} {scope:Scope} {s s3:Shared} {σ:St} {qual x:Str} {ta:TA} {te:TE} {g:TG} {tt:TT} {E:Value→Shared→Prop} {w:World}
theorem Zcf {target:Expr} {ifs:List Expr} {it acc:Value} (I:Nat→Shared→Prop)
 (turn:∀ n s,I n s→wpAny (model prog w) A (pyNext it) (fun r s₁=>match r with
   | none=>R (.ok .next) s₁
   | some v=>wpAny (model prog w) A (letOwnedTupleGo target it v) (fun _ s₀=>wpAny (model prog w) A (assign target env v) (fun _ s₂ =>
      wpAny (model prog w) A (forIn ifs true fun c r=>if r=true then do let ok ← isTrue c env (eval c env);pure (ForInStep.yield ok) else pure (ForInStep.yield r)) (fun ok s₃ =>
       if ok=true then wpAny (model prog w) A (eval elt env) (fun x s₄ =>
        wpAny (model prog w) A (call (.builtin "list.append") [acc,x]) (fun _ s₅=>∃ m,m<n∧I m s₅) (fun _ _=>False) s₄) (fun _ _=>False) s₃
       else ∃ m,m<n∧I m s₃) (fun _ _=>False) s₂) (fun _ _=>False) s₀) (fun _ _=>False) s₁) (fun _ _=>False) s)
 (n:Nat) (h:I n s) :
 codeAny (model prog w) A (.compLoop (.ListComp elt [⟨target,iter,ifs,0⟩] scope pos) 0 it acc env) R s:=by
 refine codeAny_loop rfl I (fun n s hI=>?_) n h;show wpAny _ A ((compTurn (.ListComp elt [⟨target,iter,ifs,0⟩] scope pos) 0 it acc env).onRaise (fun x=>do noteFrame x env;theTreesLotGoes x)) _ _ s
 refine wpAny_noted ?_;rw [compTurn_list];refine n0_ (wpAny_standAt (n0_ (n45_ (turn n s hI) (fun r s₁ h₁=>?_) fun _ _ h'=>h'.elim)));cases r with
 | none=>exact n3_ h₁
 | some v =>
   refine n0_ (n45_ h₁ (fun _ s₀ h₀=>?_) fun _ _ h'=>h'.elim);refine n0_ (n45_ h₀ (fun _ s₂ h₂=>n0_ (n45_ h₂ (fun ok s₃ h₃=>?_) fun _ _ h'=>h'.elim)) fun _ _ h'=>h'.elim);cases ok with
   | false=>exact n3_ ⟨rfl,h₃⟩
   | true =>
     exact n0_ (n0_ (n45_ h₃ (fun x s₄ h₄=>n0_ (n45_ h₄ (fun _ s₅ h₅=>n3_ (n3_ ⟨rfl,h₅⟩)) fun _ _ h'=>h'.elim)) fun _ _ h'=>h'.elim))
theorem Ym:∀ (names:List (Str×NameKind)) (n:Nat) (acc:List (Str×Addr)),cellsFrom n names acc=cellsFrom n names []++acc
 | [],_,_=>rfl
 | (x,k) :: r,n,acc=>by
   unfold cellsFrom;split
   · rw [Ym r (n+1) ((x,n) :: acc),Ym r (n+1) [(x,n)],n28_];rfl
   · exact Ym r n acc
theorem Zam {c:Addr}:∀ (names:List (Str×NameKind)) (n:Nat),(x,c)∈cellsFrom n names []→(x,NameKind.cell)∈names
 | [],_,h=>by simp [cellsFrom] at h
 | (y,k) :: r,n,h=>by
   unfold cellsFrom at h;split at h
   · rename_i hk
     rw [Ym] at h
     rcases List.mem_append.mp h with h|h
     · exact n17_ _ (Zam r _ h)
     · cases n39_.mp h
       rw [show k=.cell by simpa using hk];exact n49_
   · exact n17_ _ (Zam r _ h)
theorem Zbz {names:List (Str×NameKind)} {c:Addr} (h:(cellsFrom n names cl).lookup x=some c):(cellsFrom n names []).lookup x=some c∨cl.lookup x=some c:=by
 rw [Ym,List.lookup_append] at h;cases e:(cellsFrom n names []).lookup x with
 | none=>rw [e] at h;exact .inr h
 | some c'=>rw [e] at h;exact .inl h
theorem Zld {M:Model} {globals:Addr} {Q:Env→Shared→Prop}
 (hQ:∀ h',h'.Ns s.z (fun _=>none)→(∀ b o,s.heap.get? b=some o→h'.get? b=some o)→CellsOk h' (s.z+1) (cellsFrom (s.z+1) scope.names []) →
   Q (newEnv scope s.z globals (cellsFrom (s.z+1) scope.names cl) qual none .none (some env) builtinsNs) { s with heap:=h' }) :
 wpAny M A (newFunctionEnv scope globals cl [] qual none .none (some env)) Q E s:=by
 simp only [newFunctionEnv,Option.isSome_some,if_true];refine n0_ (wpAny_alloc ?_);refine n0_ (wpAny_layCells _ (fun name kind cells=>by cases hkc:kind == NameKind.cell<;>simp [hkc]) _ _ _ _ ?_);have ok:=cellsFrom_ok scope.names (s.heap.push { cls:=.type "dict",data:=.dict #[] }) (s.z+1) [] ⟨fun _ _ hm=>(nomatch hm),List.Pairwise.nil⟩ (by rw [n54_];exact n7_ _);rw [n54_] at ok;rw [show ({ s with heap:=s.heap.push { cls:=.type "dict",data:=.dict #[] } }:Shared).heap.objs.size=s.z+1 from n54_ ..];rw [List.forIn_nil];exact n0_ (n3_ (n3_ (hQ _ ((Heap.Ns.new s.heap (.type "dict")).keeps (pushCells_keeps _ _)) (fun b o e=>pushCells_keeps _ _ b o (n2_ _ e)) ok)))
noncomputable def blk (X:Cx) (scope:Scope) (cl:List (Str×Addr)) (C:Addr) (N:List Str) (s3:Shared) (H3:Hp) (fp:List Addr):Cx where
 prog:=X.prog
 w:=X.w
 K:=X.K
 mg:=X.mg
 base:=X.base
 A:=X.A
 N:=N
 s₀:=s3
 H₀:=H3
 env:=compEnvC scope (cellsFrom (C+1) scope.names cl) C X.env
 outer:=X.stack
 stack:=X.stack
 ex:=fp
 fn:=fun x=>scope.names.lookup x == some .cell
 calm:=X.calm
 pn:=[]
 xe:=fun _ _=>False
structure LcO (X:Cx) (scope:Scope) (cl:List (Str×Addr)) (N:List Str) (fr:List (Option Nat)):Prop where
 clos:closureFor scope X.env=pure cl
 sub:∀ x c,cl.lookup x=some c→X.env.cells.lookup x=some c
 has:∀ x,((relabel scope X.env).names.lookup x=some .cell∨(relabel scope X.env).names.lookup x=some .free)→scope.names.lookup x=some .cell∨∃ c,cl.lookup x=some c
 kind:scope.kind=.function
 names:∀ y∈scope.names,y.2=.local→scope.names.lookup y.1=some .local
 len:fr.length=N.length
 from':∀ (i j:Nat),fr[i]? = some (some j)→∃ x,N[i]? = some x∧X.N[j]? = some x∧(X.env.scope.names.lookup x=some .cell∨X.env.scope.names.lookup x=some .free)∧((relabel scope X.env).names.lookup x=some .cell∨(relabel scope X.env).names.lookup x=some .free)∧(∃ c,cl.lookup x=some c)∧(x,NameKind.cell)∉scope.names
noncomputable def Zah (fr:List (Option Nat)) (σ:St):St:=fr.map fun o=>match o with
 | some j=>match σ[j]? with
   | some v=>v
   | none=>none
 | none=>none
theorem pgB {H3:Hp} (i:Nat) (hN:N.Nodup:=by decide) (hi:N[i]? = some x:=by rfl) (hf:(blk X scope cl C N s3 H3 fp).env.scope.names.lookup x=some .local:=by rfl):PG (blk X scope cl C N s3 H3 fp) (.Name x pos) (Yr i):=Zl hN hi (.inl hf) (.inr hf)
theorem Zqm (ok:HOk P w H h) (hfree:H a=none) (hs:Heap.SameBut a h h'):HOk P w H h':=fun b ob e=>by
 refine (ok b ob e).stay (fun c w' hc q=>(hs.2 c ?_).trans q) (fun _ q=>q) fun _ _ q=>q;rintro rfl
 rcases hc with rfl|hc
 · rw [hfree] at e;cases e
 · rw [hfree] at hc;cases hc
theorem Zls {h1:Heap} (L:LcO X scope cl N fr) (I:Inv X pins σ H s3) (co:CellsOk h1 (s3.z+1) (cellsFrom (s3.z+1) scope.names []))
 (hf:∀ b∈fp,FpOk X pins H b) (hlt:∀ b∈fp,b<s3.z):(blk X scope cl s3.z N s3 H fp).Ok where
 mod:=I.ok.mod
 kind:=L.kind
 glob:=I.ok.glob
 blt:=I.ok.blt
 above:=n7_ _
 inj:=fun x y c h1 h2=>by
  have old:∀ z,cl.lookup z=some c→c<s3.z:=fun z e=>let ⟨_,k⟩:=I.cell z c (L.sub z c e);k.lt;have new:∀ z,(cellsFrom (s3.z+1) scope.names []).lookup z=some c→s3.z+1≤c:=fun z e=>(co.empty z c (n36_ e)).2
  rcases Zbz h1 with a|a<;>rcases Zbz h2 with b|b
  · exact name_of_addr co.apart (n36_ a) (n36_ b)
  · exact absurd (n14_ (old y b) (Nat.le_of_succ_le (new x a))) (n78_ _)
  · exact absurd (n14_ (old x a) (Nat.le_of_succ_le (new y b))) (n78_ _)
  · exact I.ok.inj x y c (L.sub x c a) (L.sub y c b)
 has:=fun x h=>by
  refine Option.isSome_iff_exists.mp (PySem.W.cellsFrom_some scope.names (s3.z+1) cl ?_)
  rcases L.has x h with z|⟨c,z⟩
  · exact .inl z
  · exact .inr (by rw [z];rfl)
 cab:=fun x c h e=>by
  obtain ⟨c',e'⟩:=Zx (sc:=scope) (n:=s3.z+1) (beq_iff_eq.mp (show (scope.names.lookup x == some .cell)=true from h));have e2:(cellsFrom (s3.z+1) scope.names cl).lookup x=some c:=e;rw [Ym,List.lookup_append,e'] at e2;have e3:c'=c:=Option.some.inj e2;subst e3;exact Nat.le_of_succ_le (co.empty x c' (n36_ e')).2
 hd:=I.ok.hd
 frames:=I.ok.frames
 stk:=.inl rfl
 exf:=fun b hb=>⟨n22_ (hlt b hb),fun x c h=>by
  rcases Zbz h with a|a
  · exact n59_ (n14_ (hlt b hb) (Nat.le_of_succ_le (co.empty x c (n36_ a)).2))
  · exact (hf b hb).2.2.2.2.1 x c (L.sub x c a)⟩
 bs:=I.bs
 bsz:=n33_ I.ok.bsz I.sz
 noex:=fun b o e hb=>by
  rcases (hf b hb).2.2.2.1 with z|z
  · exact I.ok.noex b o e z
  · exact absurd (n14_ (n11_ e) (n33_ I.ok.bsz z)) (n78_ _)
 exfs:=fun b hb z=>by
  rcases n12_.mp (I.stkSub b z) with e|e
  · exact (hf b hb).2.1 e
  · exact (hf b hb).2.2.1 e
 funs:=I.stack
 frf:=I.stkFree
theorem Zl9 {h1:Heap} {t:Nat} (L:LcO X scope cl N fr) (I:Inv X pins σ H s3) (co:CellsOk h1 (s3.z+1) (cellsFrom (s3.z+1) scope.names []))
 (hf:∀ b∈fp,FpOk X pins H b) (hlt:∀ b∈fp,b<s3.z) {m0:Str→Option Value} (hns:h1.Ns s3.z m0) (hk:∀ b o,s3.heap.get? b=some o→h1.get? b=some o) :
 Inv (blk X scope cl s3.z N s3 H fp) [] (Zah fr σ) H { s3 with heap:=h1,toks:=t } where
 ok:=Zls L I co hf hlt
 os:=rfl
 bare:=I.bare
 base:=Un.kept hk
 loc:=⟨m0,hns,fun i x v e1 e2 e3=>by
  unfold Zah at e2;rw [n6_] at e2;cases q:fr[i]? with
  | none=>rw [q] at e2;cases e2
  | some o =>
    rw [q] at e2;cases o with
    | none=>cases e2
    | some j =>
      obtain ⟨y,n1,n2,n3,n4,⟨c,hc⟩,n6⟩:=L.from' i j q;have e1':N[i]? = some x:=e1;rw [n1] at e1';cases e1'
      have e2':(match σ[j]? with|some v=>v|none=>none)=some v:=Option.some.inj e2
      have e2'':σ[j]? = some (some v):=by
       cases z:σ[j]? with
       | none=>rw [z] at e2';cases e2'
       | some w'=>rw [z] at e2';rw [show w'=some v from e2']
      obtain ⟨m,_,hl⟩:=I.loc;obtain ⟨u,r,lk⟩:=hl j x v n2 e2'' (.inr n3);refine ⟨u,r,.inr ⟨n4,c,?_,?_⟩⟩
      · show (cellsFrom (s3.z+1) scope.names cl).lookup x=some c
        rw [Ym,List.lookup_append];cases z:(cellsFrom (s3.z+1) scope.names []).lookup x with
        | none=>exact hc
        | some c'=>exact absurd (Zam _ _ (n36_ z)) n6
      rcases lk with ⟨k,_⟩|⟨k,c',hc',z⟩
      · exfalso
        have k':X.env.scope.names.lookup x=some .local:=k
        rcases n3 with z|z<;>rw [k'] at z<;>cases z
      · rw [L.sub x c hc] at hc';cases hc'
        obtain ⟨o,ho,hd⟩:=z;exact ⟨o,hk _ _ ho,hd⟩⟩
 cell:=fun x c e=>by
  rcases Zbz e with a|a
  · exact ⟨none,(co.empty x c (n36_ a)).1⟩
  · obtain ⟨v,o,ho,hd⟩:=I.cell x c (L.sub x c a);exact ⟨v,o,hk _ _ ho,hd⟩
 free:=I.hok.fresh (n7_ _)
 freeC:=fun x c e=>by
  rcases Zbz e with a|a
  · exact I.hok.fresh (Nat.le_of_succ_le (co.empty x c (n36_ a)).2)
  · exact I.freeC x c (L.sub x c a)
 pin:=fun p hp=>absurd (show p∈([]:List (Addr×Obj)) from hp) (by simp)
 hok:=I.hok.kept hk
 len:=by
  unfold Zah;rw [n5_];exact L.len
def PIfs (X:Cx) (ifs:List Expr) (t:TT):Prop :=
 ∀ (pins:List (Addr×Obj)) (s:Shared) (σ:St) (H:Hp) (Q:Bool→Hp→Prop),Inv X pins σ H s→t σ H Q →
   wpAny (model X.prog X.w) X.A (forIn ifs true fun c r=>if r=true then do let ok ← isTrue c X.env (eval c X.env);pure (ForInStep.yield ok) else pure (ForInStep.yield r)) (TP X pins σ Q) X.xe s
def tYes:TT:=fun _ H Q=>Q true H
theorem Zs:PIfs X [] tYes:=fun _ _ _ H _ I h=>wpAny_tests_nil ⟨H,I,h⟩
theorem Zju {c:Expr} {t:TT} (h:PT X c t):PIfs X [c] t:=fun pins s σ H Q I hw=>wpAny_tests_one (h pins s σ H Q I hw)
def LcGo (J:It) (g:TG) (tt:TT) (te:TE) (σ0:St) (H1:Hp) (D:Addr) (Q:VK):Prop:=∃ W:Nat→Nat→St→Hp→Prop,(∃ m,W 0 m σ0 (upd H1 D (.lst []))) ∧
 ∀ i m σ2 H2,W i m σ2 H2→(J.stop i H2∧Q (.ref D) H2)∨(J.go i H2∧∀ x H3,J.yld i H2 x H3→g x σ2 H3 fun σ4 H4=>tt σ4 H4 fun b H5=>if b=true then te σ4 H5 fun y H6=>∃ ys,H6 D=some (.lst ys)∧ys.length<sizeLine ∧
   ∃ m',m'<m∧W (i+1) m' σ4 (upd H6 D (.lst (ys++[y]))) else ∃ m',m'<m∧W (i+1) m' σ4 H5)
def tLC (wi:TI) (g:TG) (tt:TT) (te:TE) (fr:List (Option Nat)):TE:=fun σ H Q=>wi σ H fun J H1=>∀ D,H1 D=none→LcGo J g tt te (Zah fr σ) H1 D Q
abbrev NoX:Value→Shared→Prop:=fun _ _=>False
theorem Zle {σ7:St} {H3 H7:Hp} {s7:Shared} (I3:Inv X pins σ H3 s3) (f3:∀ b∈fp,FpOk X pins H3 b) (I7:Inv (blk X scope cl s3.z N s3 H3 fp) [] σ7 H7 s7) :
 ∃ m7,s7.heap.Ns s3.z m7∧∀ h8,Heap.SameBut s3.z s7.heap h8→Inv X pins σ H7 { s7 with heap:=h8 }:=by
 obtain ⟨m7,hn7,_⟩:=I7.loc;refine ⟨m7,hn7,fun h8 sb8=>?_⟩;have un:=I7.base;have neC:∀ b o,s3.heap.get? b=some o→b≠s3.z:=fun b o e=>n22_ (n11_ e);refine I3.call' (s':={ s7 with heap:=h8 }) (ch:=fp) I7.os ?_ (Zqm I7.hok I7.free sb8) I7.bare (fun b hb=>⟨(f3 b hb).2.2.2.1,(f3 b hb).2.1,(f3 b hb).2.2.2.2.1,(f3 b hb).2.2.2.2.2⟩);refine ⟨fun b o e n' hb hx=>?_,fun b o e n' hb hx=>?_,un.free,fun b o e hx=>?_,un.tups,un.frzs,un.tbls⟩
 · exact sb8.extBut b o (neC b o e) (un.keep b o e n' hb hx)
 · obtain ⟨sl,q⟩:=un.slot b o e n' hb hx;exact ⟨sl,sb8.extBut b _ (neC b o e) q⟩
 · obtain ⟨o',q⟩:=un.there b o e hx;exact ⟨o',sb8.extBut b _ (neC b o e) q⟩
def Zlo (M:Model) (A:Around) (tg:Expr) (it:Value) (env:Env) (R:Result→Shared→Prop) (B:Nat→Shared→Prop) (n:Nat) (s:Shared):Prop :=
 wpAny M A (pyNext it) (fun r s1=>match r with
  | none=>R (.ok .next) s1
  | some v=>wpAny M A (letOwnedTupleGo tg it v) (fun _ s0=>wpAny M A (assign tg env v) (fun _ s2=>B n s2) NoX s0) NoX s1) NoX s
theorem Zcv {s2:Shared} {J:It} {tn:Nat→Heap→Prop} {ac:HO} {o0:Obj} {W:Nat→Nat→St→Hp→Prop} {m0:Nat} {Qn:Hp→Prop} {Kn:Nat→Nat→St→Hp→Prop} {c:Expr} {R:Addr→Result→Shared→Prop} {B:(Nat→Shared→Prop)→Nat→Shared→Prop}
 (hs3:s3={ s2 with heap:=s2.heap.push o0 }) (hc:X.calm=true) (L:LcO X scope cl N fr) (hg:∀ C s3 H3 fp,PG (blk X scope cl C N s3 H3 fp) tg g)
 (I2:Inv X pins σ H2 s2) (T:Turn X.prog X.w X.K tg J fp it tn) (st2:tn 0 s2.heap) (f2:∀ b∈fp,FpOk X pins H2 b)
 (ok0:ObjOk X.prog X.w (upd H2 s2.z ac) (s2.heap.push o0) s2.z ac) (w0:W 0 m0 (Zah fr σ) (upd H2 s2.z ac))
 (turn:∀ i m σ2 H2,W i m σ2 H2→(J.stop i H2∧Qn H2)∨(J.go i H2∧∀ x H3,J.yld i H2 x H3→g x σ2 H3 (Kn i m)))
 (start:∀ env s4,codeAny (model X.prog X.w) X.A (.compLoop c 0 (.ref it) (.ref s2.z) env) (R s3.z) s4→(∀ E,wpAny (model X.prog X.w) X.A (pyIter (.ref it)) (fun it' s'=>codeAny (model X.prog X.w) X.A (.compLoop c 0 it' (.ref s2.z) env) (R s3.z) s') E s4)→codeAny (model X.prog X.w) X.A (.compStart c 0 (.ref it) (.ref s2.z) env) (R s3.z) s4)
 (loop:∀ (LI:Nat→Shared→Prop) s4,(∀ n s,LI n s→Zlo (model X.prog X.w) X.A tg (.ref it) (blk X scope cl s3.z N s3 (upd H2 s2.z ac) fp).env (R s3.z) (B LI) n s)→∀ n,LI n s4→codeAny (model X.prog X.w) X.A (.compLoop c 0 (.ref it) (.ref s2.z) (blk X scope cl s3.z N s3 (upd H2 s2.z ac) fp).env) (R s3.z) s4)
 (stop:∀ H7 s7,Qn H7→Inv X pins σ (upd H2 s2.z ac) s3→H7 s3.z=none→(∃ m7,s7.heap.Ns s3.z m7∧∀ h8,Heap.SameBut s3.z s7.heap h8→Inv X pins σ H7 { s7 with heap:=h8 })→R s3.z (.ok .next) s7)
 (body:∀ (LI:Nat→Shared→Prop) n i σ9 H9 s9 ps,Inv (blk X scope cl s3.z N s3 (upd H2 s2.z ac) fp) ps σ9 H9 s9→Kn i n σ9 H9→(∀ {s11:Shared} {σ11:St} {H11:Hp} {m':Nat},Inv (blk X scope cl s3.z N s3 (upd H2 s2.z ac) fp) ps σ11 H11 s11→m'<n→W (i+1) m' σ11 H11→∃ m,m<n∧LI m s11)→B LI n s9) :
 wpAny (model X.prog X.w) X.A (newFunctionEnv scope X.env.globals cl [] X.env.qual none .none (some X.env)) (fun cenv s4=>codeAny (model X.prog X.w) X.A (.compStart c 0 (.ref it) (.ref s2.z) { cenv with scope:=relabel scope X.env }) (R cenv.locals) s4) X.xe s3:=by
 have fplt:∀ b∈fp,b<s2.z:=fun b hb=>by
  obtain ⟨o,q,_⟩:=T.obj _ _ st2 b hb;exact n11_ q
 have k3:∀ b o,s2.heap.get? b=some o→s3.heap.get? b=some o:=fun b o e=>by rw [hs3];exact n2_ _ e
 have I3:Inv X pins σ (upd H2 s2.z ac) s3:=by rw [hs3];exact I2.laid (t':=s2.toks) (fun b o e=>n2_ _ e) (n7_ _) ok0
 have f3:∀ b∈fp,FpOk X pins (upd H2 s2.z ac) b:=fun b hb=>⟨by rw [Zj (n22_ (fplt b hb))];exact (f2 b hb).1,(f2 b hb).2⟩;have st3:tn 0 s3.heap:=T.keep _ _ _ st2 fun b hb o e=>k3 b o e
 have fplt3:∀ b∈fp,b<s3.z:=fun b hb=>by
  obtain ⟨o,q,_⟩:=T.obj _ _ st2 b hb;exact n11_ (k3 _ _ q)
 generalize upd H2 s2.z ac=H3 at *;refine Zld fun h1 hns1 k4 ok3=>?_;have I4:=Zl9 (t:=s3.toks) L I3 ok3 f3 fplt3 hns1 k4;have st4:tn 0 h1:=T.keep _ _ _ st3 fun b hb o e=>k4 b o e
 have fpB:∀ {H':Hp} (b:Addr),b∈fp→H' b=none→FpOk (blk X scope cl s3.z N s3 H3 fp) [] H' b:=fun b hb hn =>
  ⟨hn,n22_ (fplt3 b hb),fun z=>(Zls L I3 ok3 f3 fplt3).exfs b hb z,.inl hb,fun x c e=>((Zls L I3 ok3 f3 fplt3).exf b hb).2 x c e,fun p hp=>absurd (show p∈([]:List (Addr×Obj)) from hp) (by simp)⟩
 have lp:=loop (fun n s'=>∃ i σ' H',Inv (blk X scope cl s3.z N s3 H3 fp) [] σ' H' s'∧tn i s'.heap∧(∀ b∈fp,H' b=none)∧W i n σ' H') { s3 with heap:=h1 } (fun n s6=>?_) m0 ⟨0,_,_,I4,st4,fun b hb=>(f3 b hb).1,w0⟩
 · exact start _ _ lp fun E=>T.self _ 0 _ _ _ st4 lp
 · rintro ⟨i,σ6,H6,I6,st6,fr6,w6⟩
   unfold Zlo
   rcases turn i n σ6 H6 w6 with ⟨sp,qn⟩|⟨go,step⟩
   · refine thn (T.done (blk X scope cl s3.z N s3 H3 fp) rfl rfl rfl hc i [] s6 σ6 H6 (fun _ _=>False) I6 (fun b hb=>fpB b hb (fr6 b hb)) st6 sp) fun r s7 ⟨hr,I7⟩=>?_;subst hr;exact stop _ _ qn I3 I7.free (Zle I3 f3 I7)
   · refine thn (T.item (blk X scope cl s3.z N s3 H3 fp) rfl rfl rfl hc i [] s6 σ6 H6 (fun _ _=>False) I6 (fun b hb=>fpB b hb (fr6 b hb)) st6 go) fun r s7 ⟨u,hr,h7⟩=>?_;subst hr;refine thn h7 fun _ s8 ⟨x,H8,I8,r8,y8,st8,fr8⟩=>?_;have I8':=I8.pinned (fun b hb=>fpB b hb (fr8 b hb)) (T.obj _ _ st8);refine thn (hg _ _ _ _ _ s8 σ6 H8 x u _ I8' r8 (step x H8 y8)) fun _ s9 ⟨σ9,H9,I9,q9⟩=>?_;refine body _ n i σ9 H9 s9 _ I9 q9 fun {s11 σ11 H11 m'} I11 hm w11=>?_;refine ⟨m',hm,i+1,σ11,H11,I11.unpinned,T.keep _ _ _ st8 fun b hb o e=>(I11.pin (b,o) (n27_ _ (n27_ _ (Y5 hb e)))).1,fun b hb=>?_,w11⟩;obtain ⟨o,e,d⟩:=T.obj _ _ st8 b hb;exact (I11.pin (b,o) (n27_ _ (n27_ _ (Y5 hb e)))).2.1
theorem Zm2 {ifs:List Expr} {W:Nat→Nat→St→Hp→Prop} {C0:Addr} {s30:Shared} {H30:Hp} {fp0:List Addr}
 (ht:∀ C s3 H3 fp,PIfs (blk X scope cl C N s3 H3 fp) ifs tt) (he:∀ C s3 H3 fp,PE (blk X scope cl C N s3 H3 fp) elt te) (LI:Nat→Shared→Prop) (n i:Nat) (σ9:St) (H9:Hp) (s9:Shared) (ps:List (Addr×Obj)) (I9:Inv (blk X scope cl C0 N s30 H30 fp0) ps σ9 H9 s9)
 (q9:tt σ9 H9 fun b H5=>if b=true then te σ9 H5 fun y H6=>∃ ys,H6 D=some (.lst ys)∧ys.length<sizeLine∧∃ m',m'<n∧W (i+1) m' σ9 (upd H6 D (.lst (ys++[y]))) else ∃ m',m'<n∧W (i+1) m' σ9 H5)
 (again:∀ {s11:Shared} {σ11:St} {H11:Hp} {m':Nat},Inv (blk X scope cl C0 N s30 H30 fp0) ps σ11 H11 s11→m'<n→W (i+1) m' σ11 H11→∃ m,m<n∧LI m s11) :
 wpAny (model X.prog X.w) X.A (forIn ifs true fun c r=>if r=true then do let ok ← isTrue c (blk X scope cl C0 N s30 H30 fp0).env (eval c (blk X scope cl C0 N s30 H30 fp0).env);pure (ForInStep.yield ok) else pure (ForInStep.yield r)) (fun ok s₃ =>
  if ok=true then wpAny (model X.prog X.w) X.A (eval elt (blk X scope cl C0 N s30 H30 fp0).env) (fun x s₄ =>
   wpAny (model X.prog X.w) X.A (call (.builtin "list.append") [.ref D,x]) (fun _ s₅=>∃ m,m<n∧LI m s₅) (fun _ _=>False) s₄) (fun _ _=>False) s₃
  else ∃ m,m<n∧LI m s₃) (fun _ _=>False) s9:=by
 refine thn (ht _ _ _ _ ps s9 σ9 H9 _ I9 q9) fun b s10 ⟨H10,I10,q10⟩=>?_;cases b with
 | false =>
   obtain ⟨m',hm,w11⟩:=q10;exact again I10 hm w11
 | true =>
   refine thn (he _ _ _ _ ps s10 σ9 H10 _ I10 q10) fun y s11 ⟨yv,H11,I11,r11,ys,hys,hz,m',hm,w11⟩=>?_
   have ap:=Y8 (X:=blk X scope cl C0 N s30 H30 fp0) _ s11 σ9 H11 (.ref D) [yv] (.ref D) [y] (fun _ H'=>W (i+1) m' σ9 H') I11 rfl (.cons r11 .nil)
    ⟨_,ys,yv,rfl,rfl,hys,hz,w11⟩
   exact thn ap fun _ s12 ⟨_,H12,I12,_,q12⟩=>again I12 hm q12
theorem Ziv {Q:VK} {H7:Hp} {s7:Shared} (qn:Q (.ref D) H7) (c:∃ m7,s7.heap.Ns C m7∧∀ h8,Heap.SameBut C s7.heap h8→Inv X pins σ H7 { s7 with heap:=h8 }):compPost (model X.prog X.w) X.A X.xe none (EP X pins σ Q) (.ref D) C (.ok .next) s7 :=
 let ⟨m7,hn7,c7⟩:=c
 ⟨m7,hn7,fun h8 sb8=>⟨.ref _,H7,c7 h8 sb8,rfl,qn⟩⟩
theorem Xh {X:Cx} {tg elt iter:Expr} {ifs:List Expr} {scope:Scope} {cl:List (Str×Addr)} {N:List Str} {fr:List (Option Nat)} {pos:Pos} {wi:TI} {g:TG} {tt:TT} {te:TE}
 (hc:X.calm=true) (L:LcO X scope cl N fr) (hi:PI X tg iter wi) (hg:∀ C s3 H3 fp,PG (blk X scope cl C N s3 H3 fp) tg g)
 (ht:∀ C s3 H3 fp,PIfs (blk X scope cl C N s3 H3 fp) ifs tt) (he:∀ C s3 H3 fp,PE (blk X scope cl C N s3 H3 fp) elt te)
 (hs:∀ x,foldedSetIterable iter X.env x=pure x:=by intro _;rfl):PE X (.ListComp elt [⟨tg,iter,ifs,0⟩] scope pos) (tLC wi g tt te fr):=by
 intro pins s σ H Q I h;rw [eval_ListComp];refine wpAny_comprehension_free (use:=none) rfl hs L.clos L.kind L.names (thn (hi pins s σ H _ I h) fun v s1 h1=>thn h1 fun itv s2 h2=>?_);obtain ⟨it,fp,tn,J,H2,e,I2,T,st2,f2,h⟩:=h2;subst e;obtain ⟨W,⟨m0,w0⟩,turn⟩:=h s2.z (I2.hok.fresh (n7_ _));refine wpAny_newObj_type ?_;refine Zcv (ac:=.lst []) rfl hc L hg I2 T st2 f2 ⟨n42_ _,[],_,.nil,n8_ _ rfl⟩ w0 turn (fun _ _ a b=>codeAny_compStart_list a (b _)) (fun LI s4 t n h=>Zcf LI t n h) (fun H7 s7 qn _ _ c=>Ziv qn c) (Zm2 ht he)
def LcN (n:Nat) (Pv:Nat→St→Hp→Prop) (i m:Nat) (σ:St) (H:Hp):Prop:=i≤n∧m=n-i∧Pv i σ H
section
variable {X:Cx}
def Zvs (i j:Int):Prop:=j≠0∧j.natAbs<2^8999
theorem Zpx {a:Nat} (h:a<2^n) (hn:0<n):a.log2<n:=by
 rcases Nat.eq_zero_or_pos a with rfl|hp
 · simpa using hn
 · exact (Nat.log2_lt (n59_ hp)).mpr h
theorem Zjj:OpR X (binaryOp .FloorDiv) (rI Zvs fun i j=>.int (i.fdiv j)):=opI fun _ _ _ _ _ _ _ hc q=>floordiv_int hc.1 q (.inl (PyProof.noPylong_of_log2 (Nat.lt_trans (Zpx hc.2 (by decide)) (by decide))))
def CMulB (i j:Int):Prop:=i.natAbs<2^1000000∧j.natAbs<2^1000000
theorem Zn2 {i:Int} (h:i.natAbs<2^n) (hn:0<n):Builtin.Int.intBits i≤n:=by
 unfold Builtin.Int.intBits;split
 · exact n42_ _
 · exact Zpx h hn
theorem CMulB.ok {i j:Int} (h:CMulB i j):IntMulOk i j:=by
 unfold IntMulOk;have h1:=Zn2 h.1 (by decide);have h2:=Zn2 h.2 (by decide)
 have:Builtin.Int.intTooBig (Builtin.Int.intBits i+Builtin.Int.intBits j:Nat)=false:=by
  unfold Builtin.Int.intTooBig bitsLine;refine n25_ ?_;omega
 intro z;rw [n30_] at z;rw [show ((Builtin.Int.intBits i:Int)+(Builtin.Int.intBits j:Int))=((Builtin.Int.intBits i+Builtin.Int.intBits j:Nat):Int) by omega,this] at z;exact absurd z.2 (by decide)
theorem Z6:OpR X (binaryOp .Mult) (rI CMulB fun i j=>.int (i*j)):=opI fun _ _ _ _ _ _ _ hc q=>mul_int q hc.ok
theorem Y9:Xn X (.builtin "isinstance") (fun xs H Q=>∃ x T t b,xs=[x,.ty T]∧TyOf X.K H x t∧PySem.W.kitOne X.K t (.type T)=some b∧Q (.bl b) H):=by
 intro pins s σ H xs us Q I r h;obtain ⟨x,T,t,b,rfl,ty,e,q⟩:=h;cases r with
 | cons rx r =>
   cases r with
   | cons ry r =>
     cases r
     cases (show _=Value.type T from ry)
     exact Zmc I rx ty e fun tk=>⟨.bl b,H,I.tok _,rfl,q⟩
theorem Zca {bs:List Bool}:∀ {us:List Value} {i:Nat} {v:Value},Vals (bs.map V.bl) us→us[i]? = some v→∃ b,bs[i]? = some b∧v=Value.bool b:=by
 induction bs with
 | nil=>intro us i v h e;cases h;simp at e
 | cons b bs ih =>
  intro us i v h e;cases h with|cons r t=>cases i with
  | zero=>simp at e;subst e;exact ⟨b,rfl,r⟩
  | succ i=>obtain ⟨c,h1,h2⟩:=ih t (by simpa using e);exact ⟨c,by simpa using h1,h2⟩
theorem Zew:∀ (bs:List Bool),((List.range bs.length).all fun i=>(bs[i]?).getD true)=bs.all id
 | []=>rfl
 | b :: bs=>by
   rw [n15_,List.range_succ_eq_map,n60_,List.all_map,n60_,← Zew bs];rfl
theorem Zmm (hk:∀ b x,b∉[s.z]→(s.heap.push o).get? b=some x→h'.get? b=some x):∀ b x,s.heap.get? b=some x→h'.get? b=some x :=
 fun b x e=>hk b x (fun hm=>by rw [n39_.mp hm] at e;exact n78_ _ (n11_ e)) (n2_ _ e)
theorem Yo (hc:X.calm=true):Xn X (.builtin "all") (fun xs H Q=>∃ (p:Addr) (bs:List Bool),xs=[.ref p]∧SqL X.K H p (bs.map V.bl)∧Q (.bl (bs.all id)) H):=by
 intro pins s σ H xs us Q I r h;obtain ⟨p,bs,rfl,hq,q⟩:=h;cases r with
 | cons rx r =>
   cases r
   cases (show _=Value.ref p from rx)
   obtain ⟨its,rv,pl,hz⟩:=I.list hq;have hl:=pl.isList;have hlt:p<s.z:=by obtain ⟨_,e,_⟩:=hl;exact n11_ e
   have hh:X.A.handled=none:=I.ok.hd hc;refine call_all_walk (wpAny_pyIter_list hl ?_)
   refine ⟨s.z,[s.z,p],[s.z],its.toArray.size,_,_,fun i=>(bs[i]?).getD true,rfl,Walks.list (A:=X.A.in1) hh _ p (n22_ hlt) its.toArray,
    ⟨⟨_,n8_ _ rfl,rfl,rfl⟩,hl.push _⟩,fun i v s' Q' E' hP hQ=>?_,fun h' tk hk=>?_⟩
   · obtain ⟨b,e,rfl⟩:=Zca rv (show its[i]? = some v by simpa using hP);simp only [e,Option.getD_some] at hQ;exact wpAny_truthy_bool hQ
   · have e:((List.range its.toArray.size).all fun i=>(bs[i]?).getD true)=bs.all id:=by
      rw [n9_,← rv.length,n5_];exact Zew bs
     rw [e];exact ⟨.bl _,H,I.kept (Zmm hk),rfl,q⟩
end
structure Cal (P:Program) (w:World) (K:PySem.W.Frag) (mg:Str→Option Value) (base:Heap) (x:Str) (k:Nat) (ps:List Str) (sp:Sp):Prop where
 ex:∃ (f:Addr) (fd:FuncData),FnOk P w K mg base CX0 k f fd ps sp∧mg x=some (.ref f)∧PySem.W.keepIn K (.ref f)=true∧Binds K fd ps []
theorem Zk {X:Cx} {x:Str} {k j:Nat} {ps:List Str} {sp:Sp} {p pos:Pos} {e:Expr} {es:List Expr} {t:TA} (C:Cal X.prog X.w X.K X.mg X.base x k ps sp) (hr:Room j X.A) (hj:k≤j) (hg:Gl X x) (ha:PA X (e :: es) t)
 (hdb:(x == ("__debug__" : Str))=false:=by decide) (he:starEach (e :: es) X.env=(false,eval e X.env) :: starEach es X.env:=by rfl) (hpl:(backTo pos (starEach es X.env)).any (·.1)=false:=by rfl) :
 PE X (.Call (.Name x p) (e :: es) [] pos) (fun σ H Q=>t σ H fun vs H1=>sp vs H1 Q E0):=by
 obtain ⟨f,fd,F,hm,hk,hb⟩:=C.ex;have h:=Zsi (dvs:=[]) (E:=E0) (p:=p) F (hr.mono hj) hg hm hk hb .nil Zut ha hdb he hpl;intro pins s σ H Q I hw;refine h pins s σ H Q I ?_;unfold Zq9
 simpa only [n71_] using hw
section
variable {P:Program} {w:World} {K:PySem.W.Frag} {mg:Str→Option Value} {base:Heap}
end
def Keep (l:Addr) (H H':Hp):Prop:=∀ b o,b≠l→H b=some o→H' b=some o
theorem Keep.refl (l:Addr) (H:Hp):Keep l H H:=fun _ _ _ h=>h
theorem Keep.trans (a:Keep l H H1) (b:Keep l H1 H2):Keep l H H2:=fun c o n h=>b c o n (a c o n h)
theorem Keep.new {p:Addr} {o:HO} (h:H p=none):Keep l H (upd H p o):=fun b u _ e=>by rw [Zj (Zm e h)];exact e
theorem Keep.upd {o:HO}:Keep l H (upd H l o):=fun b u n e=>by rw [Zj n];exact e
theorem Same.new {p:Addr} {o:HO} (h:H p=none):Same H (upd H p o):=fun b u e=>by rw [Zj (Zm e h)];exact e
theorem Same.keep (s:Same H H'):Keep l H H':=fun b o _ e=>s b o e
def Zvk (i j k:Nat) (ta:TA):TS:=fun D σ H=>ta σ H fun vs H1=>∃ v w x,vs=[v,w,x]∧D.nx (((σ.set i (some v)).set j (some w)).set k (some x)) H1
theorem Zm4 {j:Nat} {y z:Str} {a b c:Expr} {px py pz pt:Pos} {kt k2 pt2} (hc:X.calm=true) (hN:X.N.Nodup) (hi:X.N[i]? = some x) (hj:X.N[j]? = some y) (hk:X.N[k]? = some z) (hij:i≠j) (hik:i≠k) (hjk:j≠k)
 (hx:X.env.scope.names.lookup x=some .local) (hy:X.env.scope.names.lookup y=some .local) (hz:X.env.scope.names.lookup z=some .local) (ha:PA X [a,b,c] ta)
 (hw:swappedStores [.Tuple [.Name x px,.Name y py,.Name z pz] kt pt] (.Tuple [a,b,c] k2 pt2) X.env=pure (some [x,y,z]))
 (hs:swapsWithSole [.Tuple [.Name x px,.Name y py,.Name z pz] kt pt] (.Tuple [a,b,c] k2 pt2) pos.line X.env=pure false:=by rfl) :
 PS X (.Assign [.Tuple [.Name x px,.Name y py,.Name z pz] kt pt] (.Tuple [a,b,c] k2 pt2) pos) (Zvk i j k ta):=by
 intro pins s σ H D I h;rw [exec_Assign_arm];refine n0_ (wpAny_standAt ?_);rw [hs];refine n0_ (n3_ ?_);rw [if_neg (by decide)];refine n0_ (Tuple_ (thn (ha _ pins s σ H _ I h) fun us s1 ⟨vs,H1,I1,r1,q1⟩=>?_));obtain ⟨v,w,x',e1,q1⟩:=q1;subst e1
 obtain ⟨u1,u2,u3,rfl,rv,rw',rx⟩:∃ u1 u2 u3,us=[u1,u2,u3]∧RelV v u1∧RelV w u2∧RelV x' u3:=by
  cases r1 with
  | cons p q =>
    cases q with
    | cons p' q' =>
      cases q' with
      | cons p'' q'' =>
        cases q''
        exact ⟨_,_,_,rfl,p,p',p''⟩
 refine wpAny_newObj_type ?_ (z3_);have I2:Inv X pins σ H1 { s1 with heap:=s1.heap.push { cls:=.type "tuple",data:=.seq [u1,u2,u3].toArray } }:=I1.kept (t':=s1.toks) fun b o e=>n2_ _ e;rw [hw];refine n0_ (n3_ ?_);show wpAny (model X.prog X.w) X.A (do rule "assign.swapped-stores";let items ← unpackItems (.ref s1.z) 3 none;assignInOrder [fun v=>bindName X.env z v,fun v=>bindName X.env y v,fun v=>bindName X.env x v] items.reverse;pure Flow.next) _ _ _
 refine n0_ (wpAny_rule (n0_ (unpackItems_tuple (items:=#[u1,u2,u3]) (I.ok.hd hc) (IsTup.new s1.heap _) fun h' hx'=>?_)));have I3:=I2.kept (h':=h') (t':=s1.toks) fun b o e=>hx' b o (n22_ (n11_ e)) e;show wpAny _ _ (assignInOrder [fun v=>bindName X.env z v,fun v=>bindName X.env y v,fun v=>bindName X.env x v] [u3,u2,u1] >>= fun _=>pure Flow.next) _ _ _
 refine n0_ (assignInOrder_cons (wpAny_bindName (Zae I3 hN hk (.inl hz) rx (fun s2 I4=>?_) (.inr hz))));refine assignInOrder_cons (wpAny_bindName (Zae I4 hN hj (.inl hy) rw' (fun s3 I5=>?_) (.inr hy)));refine assignInOrder_cons (wpAny_bindName (Zae I5 hN hi (.inl hx) rv (fun s4 I6=>assignInOrder_nil (n3_ ?_)) (.inr hx)))
 have e:(((σ.set k (some x')).set j (some w)).set i (some v))=(((σ.set i (some v)).set j (some w)).set k (some x')):=by
  rw [List.set_comm _ _ (Ne.symm hij),List.set_comm _ _ (Ne.symm hik),List.set_comm _ _ (Ne.symm hjk)]
 rw [e] at I6;exact ⟨_,H1,I6,q1⟩
theorem Zdn:∀ (xs:List PyData),(PyData.shownAll xs).length=xs.length
 | []=>rfl
 | _ :: xs=>by simp only [PyData.shownAll,n15_,Zdn xs]
section
variable {X:Cx}
end
noncomputable def Y1 (cells:List (Str×Addr)) (names:List (Str×NameKind)):List (Str×Addr):=((names.filter (fun y=>y.2 == .free)).map fun y=>(y.1,(cells.lookup y.1).getD 0)).reverse
theorem Zcl:∀ (names:List (Str×NameKind)) (acc:List (Str×Addr)),(∀ y∈names,y.2=.free→∃ c,env.cells.lookup y.1=some c) →
 (forIn names acc (fun (x:Str×NameKind) (r:List (Str×Addr))=>do
   if x.2 == .free then do
    let a ← cellOf env x.1
    pure (ForInStep.yield ((x.1,a) :: r))
   else pure (ForInStep.yield r)):Sem (List (Str×Addr)))=pure (Y1 env.cells names++acc)
 | [],acc,_=>rfl
 | (n,k) :: rest,acc,h=>by
   have ih:=fun acc=>Zcl rest acc fun y hy=>h y (n17_ _ hy);rw [List.forIn_cons]
   by_cases hk:k=.free
   · subst hk;obtain ⟨c,hc⟩:=h (n,.free) n49_ rfl;have e:cellOf env n=pure c:=by unfold cellOf;rw [hc]
     have e2:Y1 env.cells ((n,.free) :: rest)=Y1 env.cells rest++[(n,c)]:=by
      unfold Y1;rw [List.filter_cons_of_pos (by rfl),n46_,List.reverse_cons,hc];rfl
     simp only [beq_self_eq_true,if_true,e,pure_bind];rw [ih,e2,n28_];rfl
   · have b:(k == NameKind.free)=false:=by simpa using hk
     have e2:Y1 env.cells ((n,k) :: rest)=Y1 env.cells rest:=by
      unfold Y1;rw [List.filter_cons_of_neg (by simpa using hk)]
     simp only [b,n21_,if_false,pure_bind];rw [ih,e2]
theorem Zcp (h:∀ y∈scope.names,y.2=.free→∃ c,env.cells.lookup y.1=some c):closureFor scope env=pure (Y1 env.cells scope.names):=by
 have e:=Zcl scope.names [] h;rw [n71_] at e;unfold closureFor
 first
  | (rw [← e];rfl)
  | (simp only [bind_pure];exact e)
  | simpa using e
mutual
inductive Dt (N:Addr→Prop) (H:Hp) (k:Nat):V→PyData→Prop
 | non:Dt N H k .non .none
 | bl (b:Bool):Dt N H k (.bl b) (.bool b)
 | int {i:Int}:i.natAbs<2^k→Dt N H k (.int i) (.int i)
 | str (x:Str):Dt N H k (.str x) (.str x)
 | tup {a:Addr} {xs:List V} {ds:List PyData}:H a=some (.tup xs)→Dts N H k xs ds→Dt N H k (.ref a) (.tuple ds)
 | lst {a:Addr} {xs:List V} {ds:List PyData}:H a=some (.lst xs)→¬ N a→a≠sysModules→Dts N H k xs ds→Dt N H k (.ref a) (.list ds)
 | dic {a:Addr}:H a=some (.dK [])→Dt N H k (.ref a) (.dict [])
inductive Dts (N:Addr→Prop) (H:Hp) (k:Nat):List V→List PyData→Prop
 | nil:Dts N H k [] []
 | cons {x:V} {xs:List V} {d:PyData} {ds:List PyData}:Dt N H k x d→Dts N H k xs ds→Dts N H k (x :: xs) (d :: ds)
end
variable {N:Addr→Prop} {k:Nat}
mutual
theorem Dt.reads {X:Cx} {pins:List (Addr×Obj)} {σ:St} {H:Hp} {s:Shared} (I:Inv X pins σ H s):∀ {v:V} {d:PyData} {u:Value},Dt N H k v d→RelV v u→∃ as,Reads s.heap u d as∧sysModules∉as
 | _,_,_,.non,r=>by cases r;exact ⟨_,.none,by simp⟩
 | _,_,_,.bl b,r=>by cases r;exact ⟨_,.bool b,by simp⟩
 | _,_,_,.int (i:=i) _,r=>by obtain ⟨t,rfl⟩:=r;exact ⟨_,.int i t,by simp⟩
 | _,_,_,.str x,r=>by obtain ⟨t,rfl⟩:=r;exact ⟨_,.str x t,by simp⟩
 | _,_,_,.tup (a:=a) (xs:=xs) h rs,r=>by
   cases r
   obtain ⟨_,its,rv,o,e,hc,n,hd⟩:=(show ObjOk X.prog X.w H s.heap a (.tup xs) from I.hok a _ h);obtain ⟨as,ra,na⟩:=Dts.reads I rs rv;exact ⟨_,.tuple e hc hd (by simpa using ra),na⟩
 | _,_,_,.lst (a:=a) (xs:=xs) h _ ns rs,r=>by
   cases r
   obtain ⟨_,its,n,rv,e⟩:=(show ObjOk X.prog X.w H s.heap a (.lst xs) from I.hok a _ h);obtain ⟨as,ra,na⟩:=Dts.reads I rs rv
   exact ⟨_,.list e rfl rfl (by simpa using ra),by
    intro hm
    rcases n12_.mp hm with e|e
    · exact ns e.symm
    · exact na e⟩
 | _,_,_,.dic (a:=a) h,r=>by
   cases r
   obtain ⟨_,hS,vs,rel,o,es,ep,e,ex,hd,_,he,_⟩:=(show ObjOk X.prog X.w H s.heap a (.dK []) from I.hok a _ h);cases rel
   have hes:es.toList=[]:=by
    generalize es.toList=z at he;cases he
    rfl
   refine ⟨_,.dict (kvs:=[]) (as:=[]) (bs:=[]) e ex.1 hd (by rw [hes];exact .nil) (by rw [hes];exact .nil),?_⟩;intro hm
   have:sysModules=a:=by simpa using hm
   rw [this] at hS;simp at hS
theorem Dts.reads {X:Cx} {pins:List (Addr×Obj)} {σ:St} {H:Hp} {s:Shared} (I:Inv X pins σ H s):∀ {vs:List V} {ds:List PyData} {us:List Value},Dts N H k vs ds→Vals vs us→∃ as,ReadsAll s.heap us ds as∧sysModules∉as
 | _,_,_,.nil,.nil=>⟨_,.nil,by simp⟩
 | _,_,_,.cons r rs,.cons q qs=>by
   obtain ⟨as,ra,na⟩:=Dt.reads I r q;obtain ⟨bs,rb,nb⟩:=Dts.reads I rs qs
   exact ⟨_,.cons ra rb,by
    intro hm
    rcases List.mem_append.mp hm with e|e
    · exact na e
    · exact nb e⟩
end
mutual
theorem Dt.same {H H':Hp} (s:Same H H'):∀ {v:V} {d:PyData},Dt N H k v d→Dt N H' k v d
 | _,_,.non=>.non
 | _,_,.bl b=>.bl b
 | _,_,.int h=>.int h
 | _,_,.str x=>.str x
 | _,_,.tup h r=>.tup (s _ _ h) (Dts.same s r)
 | _,_,.lst h n m r=>.lst (s _ _ h) n m (Dts.same s r)
 | _,_,.dic h=>.dic (s _ _ h)
theorem Dts.same {H H':Hp} (s:Same H H'):∀ {vs:List V} {ds:List PyData},Dts N H k vs ds→Dts N H' k vs ds
 | _,_,.nil=>.nil
 | _,_,.cons r rs=>.cons (Dt.same s r) (Dts.same s rs)
end
mutual
theorem Dt.keep {H H':Hp} {l:Addr} {ys:List V} (hN:N l) (hl:H l=some (.lst ys)) (s:Keep l H H'):∀ {v:V} {d:PyData},Dt N H k v d→Dt N H' k v d
 | _,_,.non=>.non
 | _,_,.bl b=>.bl b
 | _,_,.int h=>.int h
 | _,_,.str x=>.str x
 | _,_,.tup h r=>.tup (s _ _ (Zfk h hl (by intro z;cases z)) h) (Dts.keep hN hl s r)
 | _,_,.lst h n m r=>.lst (s _ _ (fun z=>n (z ▸ hN)) h) n m (Dts.keep hN hl s r)
 | _,_,.dic h=>.dic (s _ _ (Zfk h hl (by intro z;cases z)) h)
theorem Dts.keep {H H':Hp} {l:Addr} {ys:List V} (hN:N l) (hl:H l=some (.lst ys)) (s:Keep l H H'):∀ {vs:List V} {ds:List PyData},Dts N H k vs ds→Dts N H' k vs ds
 | _,_,.nil=>.nil
 | _,_,.cons r rs=>.cons (Dt.keep hN hl s r) (Dts.keep hN hl s rs)
end
mutual
theorem Dt.up {H:Hp} {k':Nat} (hk:k≤k'):∀ {v:V} {d:PyData},Dt N H k v d→Dt N H k' v d
 | _,_,.non=>.non
 | _,_,.bl b=>.bl b
 | _,_,.int h=>.int (n14_ h (n61_ (by decide) hk))
 | _,_,.str x=>.str x
 | _,_,.tup h r=>.tup h (Dts.up hk r)
 | _,_,.lst h n m r=>.lst h n m (Dts.up hk r)
 | _,_,.dic h=>.dic h
theorem Dts.up {H:Hp} {k':Nat} (hk:k≤k'):∀ {vs:List V} {ds:List PyData},Dts N H k vs ds→Dts N H k' vs ds
 | _,_,.nil=>.nil
 | _,_,.cons r rs=>.cons (Dt.up hk r) (Dts.up hk rs)
end
theorem Dts.app:∀ {xs ys:List V} {ds es:List PyData},Dts N H k xs ds→Dts N H k ys es→Dts N H k (xs++ys) (ds++es)
 | _,_,_,_,.nil,h=>h
 | _,_,_,_,.cons r rs,h=>.cons r (Dts.app rs h)
theorem Dts.len:∀ {xs:List V} {ds:List PyData},Dts N H k xs ds→xs.length=ds.length
 | _,_,.nil=>rfl
 | _,_,.cons _ rs=>by rw [n15_,n15_,Dts.len rs]
theorem Dts.take:∀ {xs:List V} {ds:List PyData} (n:Nat),Dts N H k xs ds→Dts N H k (xs.take n) (ds.take n)
 | _,_,0,_=>by rw [List.take_zero,List.take_zero];exact .nil
 | _,_,_+1,.nil=>.nil
 | _,_,n+1,.cons r rs=>by rw [List.take_succ_cons,List.take_succ_cons];exact .cons r (Dts.take n rs)
theorem Dts.drop:∀ {xs:List V} {ds:List PyData} (n:Nat),Dts N H k xs ds→Dts N H k (xs.drop n) (ds.drop n)
 | _,_,0,h=>h
 | _,_,_+1,.nil=>.nil
 | _,_,n+1,.cons r rs=>by rw [List.drop_succ_cons,List.drop_succ_cons];exact Dts.drop n rs
theorem Dts.rev:∀ {xs:List V} {ds:List PyData},Dts N H k xs ds→Dts N H k xs.reverse ds.reverse
 | _,_,.nil=>.nil
 | _,_,.cons r rs=>by rw [List.reverse_cons,List.reverse_cons];exact Dts.app (Dts.rev rs) (.cons r .nil)
theorem Dts.get:∀ {xs:List V} {ds:List PyData} {n:Nat} {v:V},Dts N H k xs ds→xs[n]? = some v→∃ d,ds[n]? = some d∧Dt N H k v d
 | _,_,_,_,.nil,h=>by simp at h
 | _,_,0,_,.cons r rs,h=>by simp at h;subst h;exact ⟨_,rfl,r⟩
 | _,_,n+1,_,.cons r rs,h=>by
   obtain ⟨d,e,q⟩:=Dts.get rs (by simpa using h);exact ⟨d,by simpa using e,q⟩
mutual
def nz:PyData→Nat
 | .none=>1
 | .bool _=>1
 | .int _=>1
 | .str x=>(reprText x).length
 | .list xs=>1+Zr xs
 | .tuple xs=>1+Zr xs
 | .dict _=>1
def Zr:List PyData→Nat
 | []=>0
 | x :: xs=>nz x+1+Zr xs
end
theorem Yv (xs ys:List PyData):Zr (xs++ys)=Zr xs+Zr ys:=by
 induction xs with
 | nil=>simp [Zr]
 | cons x xs ih=>simp only [n72_,Zr,ih];omega
theorem Zgn (xs:List PyData):Zr xs.reverse=Zr xs:=by
 induction xs with
 | nil=>rfl
 | cons x xs ih=>rw [List.reverse_cons,Yv,ih];simp only [Zr];omega
theorem Zkk (n:Nat) (xs:List PyData):Zr (xs.take n)≤Zr xs:=by
 have:=Yv (xs.take n) (xs.drop n)
 rw [List.take_append_drop] at this;omega
theorem Zk6 (n:Nat) (xs:List PyData):Zr (xs.drop n)≤Zr xs:=by
 have:=Yv (xs.take n) (xs.drop n)
 rw [List.take_append_drop] at this;omega
theorem Z2 (xs ys:List PyData):PyData.depthAll (xs++ys)=max (PyData.depthAll xs) (PyData.depthAll ys):=by
 induction xs with
 | nil=>simp [PyData.depthAll]
 | cons x xs ih=>simp only [n72_,PyData.depthAll,ih];omega
theorem Zci (xs:List PyData):PyData.depthAll xs.reverse=PyData.depthAll xs:=by
 induction xs with
 | nil=>rfl
 | cons x xs ih=>rw [List.reverse_cons,Z2,ih];simp only [PyData.depthAll];omega
theorem Zbq (n:Nat) (xs:List PyData):PyData.depthAll (xs.take n)≤PyData.depthAll xs:=by
 have:=Z2 (xs.take n) (xs.drop n)
 rw [List.take_append_drop] at this;omega
theorem Zbu (n:Nat) (xs:List PyData):PyData.depthAll (xs.drop n)≤PyData.depthAll xs:=by
 have:=Z2 (xs.take n) (xs.drop n)
 rw [List.take_append_drop] at this;omega
theorem Zb2 {i:Int} (h:i.natAbs<2^n) (hn:n<1920):i.natAbs.log2<1920:=by
 rcases Nat.eq_zero_or_pos n with rfl|hp
 · have:i.natAbs=0:=by simpa using h
   rw [this];decide
 · by_cases h0:i.natAbs=0
   · rw [h0];decide
   · exact Nat.lt_trans ((Nat.log2_lt h0).mpr h) hn
mutual
theorem Dt.showable {H:Hp} (hk:k<1920):∀ {v:V} {d:PyData},Dt N H k v d→d.showable=true
 | _,_,.non=>rfl
 | _,_,.bl b=>rfl
 | _,_,.int h=>n24_ (Zb2 h hk)
 | _,_,.str x=>rfl
 | _,_,.tup h r=>Dts.showable hk r
 | _,_,.lst h n m r=>Dts.showable hk r
 | _,_,.dic h=>rfl
theorem Dts.showable {H:Hp} (hk:k<1920):∀ {vs:List V} {ds:List PyData},Dts N H k vs ds→PyData.showableAll ds=true
 | _,_,.nil=>rfl
 | _,_,.cons r rs=>by
   show (_&&_)=true
   rw [Dt.showable hk r,Dts.showable hk rs];rfl
end
mutual
theorem Dt.shownLen {H:Hp} (hk:k<1920):∀ {v:V} {d:PyData},Dt N H k v d→d.shown.length≤2000*nz d
 | _,_,.non=>by decide +kernel
 | _,_,.bl true=>by decide +kernel
 | _,_,.bl false=>by decide +kernel
 | _,_,.int (i:=i) h=>by
   have:=int_text_length_le (by decide) (Zb2 h hk)
   show (Str.ofString (toString i)).length≤2000*1
   rw [PySem.ofString_length];omega
 | _,_,.str x=>by
   show (reprText x).length≤2000*(reprText x).length
   omega
 | _,_,.tup (ds:=ds) h r=>by
   have:=Dts.shownLen hk r
   have z:=tupleText_len_le (PyData.shownAll ds);rw [Zdn] at z;show (tupleText (PyData.shownAll ds)).length≤2000*(1+Zr ds)
   omega
 | _,_,.lst (ds:=ds) h n m r=>by
   have:=Dts.shownLen hk r
   have z:=listText_len_le (PyData.shownAll ds);rw [Zdn] at z;show (listText (PyData.shownAll ds)).length≤2000*(1+Zr ds)
   omega
 | _,_,.dic h=>by decide +kernel
theorem Dts.shownLen {H:Hp} (hk:k<1920):∀ {vs:List V} {ds:List PyData},Dts N H k vs ds→((PyData.shownAll ds).map (·.length)).sum+2*ds.length≤2000*Zr ds
 | _,_,.nil=>by simp [PyData.shownAll,Zr]
 | _,_,.cons r rs=>by
   have a:=Dt.shownLen hk r;have b:=Dts.shownLen hk rs;simp only [PyData.shownAll,Zr,n46_,List.sum_cons,n15_];omega
end
section
variable {X:Cx}
theorem Xq {j:Nat} (hr:Room j X.A):Xn X (.builtin "repr") (fun xs H Q=>∃ N k v d,xs=[v]∧Dt N H k v d∧k<1920∧d.depth≤20∧nz d≤8000∧Q (.str d.shown) H):=by
 intro pins s σ H xs us Q I r h;obtain ⟨N,k,v,d,rfl,rd,hk,h3,h4,q⟩:=h;have h1:=rd.showable hk
 have hz:d.shown.length≤sizeLine:=by
  have:=rd.shownLen hk
  have e:sizeLine=16777216:=sizeLine_eq;omega
 cases r with
 | cons rx r =>
   cases r
   have hu:=hr.un;have R:=Dt.reads I rd rx
   have go:∀ a,RelV v (Value.ref a)→wpAny (model X.prog X.w) X.A (call (.builtin "repr") [Value.ref a]) (EP X pins σ Q) X.xe s:=fun a rx=>by
    obtain ⟨as,ra,na⟩:=Dt.reads I rd rx;exact repr_of_reads' ra h1 (fun _=>na) hr.gd (by omega) (fun _ _ e=>e) (fun h' u tk hk=>⟨.str _,H,I.kept hk,⟨_,rfl⟩,q⟩) hz
   cases rd with
   | non=>cases (show _=Value.none from rx);exact PySem.P.repr_of_none ⟨.str _,H,I.tok _,⟨_,rfl⟩,q⟩
   | bl b=>cases (show _=Value.bool b from rx);exact PySem.P.repr_of_bool ⟨.str _,H,I.tok _,⟨_,rfl⟩,q⟩
   | int hi=>obtain ⟨t,rfl⟩:=(show ∃ t,_=Value.int _ t from rx);exact PySem.P.repr_of_int (Zb2 hi hk) ⟨.str _,H,I.tok _,⟨_,rfl⟩,q⟩
   | str x=>obtain ⟨t,rfl⟩:=(show ∃ t,_=Value.str x t from rx);exact PySem.P.repr_of_str ⟨.str _,H,I.tok _,⟨_,rfl⟩,q⟩ hz
   | tup h rs=>cases (show _=Value.ref _ from rx);exact go _ rx
   | lst h n m rs=>cases (show _=Value.ref _ from rx);exact go _ rx
   | dic h=>cases (show _=Value.ref _ from rx);exact go _ rx
end
end L2
namespace HT
open PySem PyProof.Rows
section
variable {prog:Program} {w:World} {A:Around} {E:Value→Shared→Prop} {s:Shared}
theorem Zhy (n:Nat):Builtin.Slice.sliceAdjust none none (-1) (n:Int)=((n:Int)-1,-1):=by
 unfold Builtin.Slice.sliceAdjust
 simp
theorem Zht (n:Nat):Builtin.Slice.slicePlaces ((n:Int)-1) (-1) (-1)=n:=by
 unfold Builtin.Slice.slicePlaces;have h1:¬ ((-1:Int)>0):=by omega
 simp only [h1,if_false];split
 · rw [show -(-1:Int)=1 by decide,Int.ediv_one];omega
 · omega
theorem Zb3 {sl:Addr} {n:Nat} {t:Tok} {Q:Int×Int×Nat→Shared→Prop} (hs:s.heap.IsSliceOf sl .none .none (.int (-1) t))
 (h:Q ((n:Int)-1,-1,n) s):wpAny (model prog w) A (Builtin.Slice.sliceApplied (.ref sl) (pure (n:Int))) Q E s:=by
 obtain ⟨os,hos,hcs,hds⟩:=id hs;unfold Builtin.Slice.sliceApplied Builtin.Slice.sliceFields;refine n0_ (n0_ (wpAny_field hos hds (x:=.none) rfl (n0_ (wpAny_field hos hds (x:=.none) rfl (n0_ (wpAny_field hos hds (x:=.int (-1) t) rfl (n3_ ?_)))))));refine n0_ (slicePart_int ?_);show wpAny _ _ (if ((-1:Int) == 0)=true then _ else _) _ _ s
 rw [if_neg (by decide)];refine n0_ (slicePart_none (n0_ (slicePart_none (n0_ (n3_ ?_)))));show wpAny _ _ (match Builtin.Slice.sliceAdjust none none (-1) (n:Int) with|(lo,hi)=>pure (lo,(-1:Int),Builtin.Slice.slicePlaces lo hi (-1))) _ _ s
 rw [Zhy n];show wpAny _ _ (pure ((n:Int)-1,(-1:Int),Builtin.Slice.slicePlaces ((n:Int)-1) (-1) (-1))) _ _ s
 rw [Zht];exact n3_ h
theorem Zpu {α β:Type} (f:α→Option β) (g:α→β):∀ (xs:List α),(∀ x∈xs,f x=some (g x))→xs.filterMap f=xs.map g
 | [],_=>rfl
 | x :: xs,h=>by
   rw [List.filterMap_cons,h x (n49_ ..),Zpu f g xs (fun y hy=>h y (n17_ _ hy))];rfl
theorem Zln (xs:Array Value):((List.range xs.size).filterMap fun (m:Nat)=>xs[(((xs.size:Int)-1)+(m:Int)*(-1)).toNat]?).toArray=xs.toList.reverse.toArray:=by
 congr 1
 refine List.ext_getElem? fun i=>?_
 have e:((List.range xs.size).filterMap fun (m:Nat)=>xs[(((xs.size:Int)-1)+(m:Int)*(-1)).toNat]?)=(List.range xs.size).map (fun m=>xs.getD (xs.size-1-m) .none):=by
  refine Zpu _ _ _ fun m hm=>?_;have hm':m<xs.size:=n34_.mp hm;have z:(((xs.size:Int)-1)+(m:Int)*(-1)).toNat=xs.size-1-m:=by omega
  have hlt:xs.size-1-m<xs.size:=by omega
  rw [z,Array.getElem?_eq_getElem hlt,Array.getD,dif_pos hlt];rfl
 rw [e,n6_]
 by_cases hi:i<xs.size
 · have hlt:xs.size-1-i<xs.size:=by omega
   rw [List.getElem?_range hi,List.getElem?_reverse (by simpa using hi),Array.length_toList,Array.getElem?_toList,Array.getElem?_eq_getElem hlt];show some (xs.getD (xs.size-1-i) .none)=_
   rw [Array.getD,dif_pos hlt];rfl
 · rw [List.getElem?_eq_none (by simpa using hi),List.getElem?_eq_none (by simpa using hi)];rfl
theorem getItem_tuple_back {t sl:Addr} {items:Array Value} {tk:Tok} {Q:Value→Shared→Prop} (ht:IsTup s.heap t items) (hs:s.heap.IsSliceOf sl .none .none (.int (-1) tk))
 (h:Q (.ref s.z) { s with heap:=s.heap.push { cls:=.type "tuple",data:=.seq items.toList.reverse.toArray } })
 (hsz:items.size≤sizeLine):wpAny (model prog w) A (getItem (.ref t) (.ref sl)) Q E s:=by
 have htake:sizeOk (.seq items.toList.reverse.toArray):=by
  show items.toList.reverse.toArray.size≤sizeLine
  rw [n9_,List.length_reverse,Array.length_toList];omega
 obtain ⟨os,hos,hcs,hds⟩:=id hs;have hTs:s.TypeIs (.ref sl) "slice" := ⟨os,hos,hcs⟩;unfold getItem
 try with_reducible refine n31_ ?_
 first|refine n0_ (n3_ ?_)|skip
 refine n0_ (wpAny_sequenceKey ht.typeIs (by decide) ?_)
 refine n0_ (wpAny_callSpecial?_slot (name:=Str.ofString "__getitem__") ht.typeIs PyProof.Rows.slot_tuple_getitem
  (wpAny_call_entry PyProof.Rows.slot_tuple_getitem ht.typeIs entry_tuple_getitem ?_ (args_tuple_getitem _ _)))
 show wpAny _ _ (Builtin.Tuple.tupleItemsOf (.ref t) >>= _) _ _ s
 refine n0_ (tupleItemsOf_ ht ?_);refine n0_ (wpAny_typeOf hTs ?_);rw [if_pos (by decide)];refine n0_ (Zb3 hs ?_)
 have hno:¬ (((items.size:Int)-1 == 0&&(-1:Int) == 1&&items.size == items.size)=true):=by
  intro q;rw [n30_,n30_] at q;exact absurd q.1.2 (by decide)
 show wpAny _ _ (if ((items.size:Int)-1 == 0&&(-1:Int) == 1&&items.size == items.size)=true then _ else _) _ _ s
 rw [if_neg hno,Zln]
 first
  | exact n0_ (m:=Builtin.Tuple.tupleExact _) (wpAny_newObj_type (n3_ ⟨_,rfl,n3_ h⟩) htake)
  | exact n0_ (m:=Builtin.Tuple.tupleExact _) (wpAny_newObj_type (n0_ (n3_ (n3_ ⟨_,rfl,n3_ h⟩))) htake)
  | exact n0_ (n0_ (m:=Builtin.Tuple.tupleExact _) (wpAny_newObj_type (n3_ (n3_ ⟨_,rfl,n3_ h⟩)) htake))
  | exact n0_ (n0_ (m:=Builtin.Tuple.tupleExact _) (wpAny_newObj_type (n3_ ⟨_,rfl,n3_ h⟩) htake))
theorem getItem_tuple_whole {t sl:Addr} {items:Array Value} {vl vu:Value} {lo hi:Option Int} {Q:Value→Shared→Prop} (ht:IsTup s.heap t items) (hs:s.heap.IsSliceOf sl vl vu .none) (pl:IsPart vl lo) (pu:IsPart vu hi)
 (hw:sIx items.size 0 lo=0∧sIx items.size items.size hi=items.size)
 (h:Q (.ref t) s):wpAny (model prog w) A (getItem (.ref t) (.ref sl)) Q E s:=by
 obtain ⟨os,hos,hcs,hds⟩:=id hs;have hTs:s.TypeIs (.ref sl) "slice" := ⟨os,hos,hcs⟩;unfold getItem
 try with_reducible refine n31_ ?_
 first|refine n0_ (n3_ ?_)|skip
 refine n0_ (wpAny_sequenceKey ht.typeIs (by decide) ?_)
 refine n0_ (wpAny_callSpecial?_slot (name:=Str.ofString "__getitem__") ht.typeIs PyProof.Rows.slot_tuple_getitem
  (wpAny_call_entry PyProof.Rows.slot_tuple_getitem ht.typeIs entry_tuple_getitem ?_ (args_tuple_getitem _ _)))
 show wpAny _ _ (Builtin.Tuple.tupleItemsOf (.ref t) >>= _) _ _ s
 refine n0_ (tupleItemsOf_ ht ?_);refine n0_ (wpAny_typeOf hTs ?_);rw [if_pos (by decide)];refine n0_ (Zao hs pl pu ?_);rw [hw.1,hw.2];have hyes:(((0:Nat):Int) == 0&&(1:Int) == 1&&(items.size-0) == items.size)=true:=by simp
 show wpAny _ _ (if (((0:Nat):Int) == 0&&(1:Int) == 1&&(items.size-0) == items.size)=true then _ else _) _ _ s
 rw [if_pos hyes];have hx:(Builtin.Tuple.tupleIsExact (.ref t))=(do pure ((← typeOf (.ref t)) == .type "tuple")):=by first|rfl|(unfold Builtin.Tuple.tupleIsExact;rfl)
 rw [hx];refine n0_ (n0_ (wpAny_typeOf ht.typeIs (n3_ ?_)));rw [if_pos (by decide)];exact n0_ (wpAny_rule (n3_ ⟨_,rfl,n3_ h⟩))
end
end HT
namespace L2
open PySem PySem.Spec PyProof.Rows
variable {D a b e it j l t z:Addr} {A:Around} {ys:Array Value} {X:Cx} {h h':Heap} {H H':Hp} {pins:List (Addr×Obj)} {ch fp:List Addr} {vs xs:List V} {i m n t' x1:Nat} {pos tp:Pos} {P prog:Program} {s:Shared} {σ:St} {x:Str} {ta:TA} {te:TE} {g:TG} {tt:TT} {v:V} {c d:Value} {Q:Value→Shared→Prop} {w:World}
section
variable {X:Cx} {e:Expr} {es:List Expr} {te:TE} {t:TA} {pos p2:Pos}
theorem vrev:∀ {xs:List V} {us:List Value},Vals xs us→Vals xs.reverse us.reverse:=by
 have app:∀ {xs ys:List V} {us ws:List Value},Vals xs us→Vals ys ws→Vals (xs++ys) (us++ws):=by
  intro xs ys us ws h1 h2
  induction h1 with
  | nil=>exact h2
  | cons r _ ih=>exact .cons r ih
 intro xs us h
 induction h with
 | nil=>exact .nil
 | cons r _ ih=>rw [List.reverse_cons,List.reverse_cons];exact app ih (.cons r .nil)
def Zqr (te:TE) (K:PySem.W.Frag):TE:=fun σ H Q=>te σ H fun x H1=>∃ a xs,x=.ref a∧SqT K H1 a xs∧∀ p,H1 p=none→Q (.ref p) (upd H1 p (.tup xs.reverse))
theorem Znn {st:Expr} (hst:PE X st (fun _ H Q=>Q (.int (-1)) H)) (he:PE X e te):PE X (.Subscript e (.Slice none none (some st) p2) pos) (Zqr te X.K):=by
 intro pins s σ H Q I h;refine Subscript_ (thn (he pins s σ H _ I h) fun v s1 ⟨x,H1,I1,r1,q1⟩=>?_);refine wpAny_Slice ?_;rw [evalPart_none,evalPart_some];refine n3_ (n3_ ?_);obtain ⟨a,xs,rfl,hx,q⟩:=q1;refine thn (hst pins s1 σ H1 (fun v H'=>v=.int (-1)∧H'=H1) I1 ⟨rfl,rfl⟩) fun u s3 ⟨y,H3,I3,ry,ey,eH⟩=>?_;subst ey eH;obtain ⟨tk,rfl⟩:=ry;cases r1
 have I4:Inv X pins σ H3 { s3 with heap:=s3.heap.push { cls:=.type "slice",data:=.fields #[.none,.none,.int (-1) tk] } }:=I3.kept (t':=s3.toks) fun b ob q=>n2_ _ q;obtain ⟨its,r,ht,hz⟩:=I4.tuple hx;have hlen:its.toArray.size=xs.length:=by rw [n9_];exact r.length.symm
 show wpAny (model X.prog X.w) X.A (subscriptTail e (.Slice none none (some st) p2) (.ref a) (.ref s3.z)) (EP X pins σ Q) X.xe { s3 with heap:=s3.heap.push { cls:=.type "slice",data:=.fields #[.none,.none,.int (-1) tk] } }
 refine tail_any (ops:=[.ref a,.ref s3.z]) ht.typeIs PyProof.Rows.slot_tuple_getitem.lookup ?_ (by with_unfolding_all rfl);refine HT.getItem_tuple_back ht (Heap.IsSliceOf.new ..) ?_ (by rw [hlen];exact hz);refine ⟨.ref _,_,I4.laid (t':=s3.toks) (o:=.tup xs.reverse) (fun b ob q=>n2_ _ q) (n7_ _) ?_,rfl,q _ (I4.hok.fresh (n7_ _))⟩;exact ⟨by rw [List.length_reverse];exact hz,_,vrev r,IsTup.new _ _⟩
def Zu8:R2:=fun x y H Q=>∃ a b xs ys,x=.ref a∧y=.ref b∧H a=some (.tup xs)∧H b=some (.tup ys)∧xs.length+ys.length≤sizeLine∧∀ p H',Same H H'→H' p=some (.tup (xs++ys))→Q (.ref p) H'
theorem Zc2:OpR X (binaryOp .Add) Zu8:=by
 intro pins s σ H x y v u Q I rx ry h;obtain ⟨a,b,xs,ys,rfl,rfl,ha,hb,hz,q⟩:=h;cases rx
 cases ry
 obtain ⟨its,r1,p1,_⟩:=I.tuple (SqT.of ha);obtain ⟨its2,r2,p2,_⟩:=I.tuple (SqT.of hb)
 by_cases hx:xs=[]
 · subst hx;have e:its=[]:=r1.nil_iff.mpr rfl;subst e;obtain ⟨⟨cls,dd,data,sl⟩,ho,hc,n,hd⟩:=id p1;obtain ⟨⟨cls2,dd2,data2,sl2⟩,ho2,hc2,n2,hd2⟩:=id p2;simp only at hc hd hc2 hd2;subst hc hd hc2 hd2
   exact concat_meets ⟨_,ho,rfl⟩ ⟨_,ho2,rfl⟩ noFill_tuple_add seq_tuple_add PySem.F.slot_tuple_add PySem.F.entry_tuple_add (PySem.F.args_tuple_add_2 _ _)
    (tuple_addW0 a b _ its2.toArray n n2 dd dd2 sl sl2 (by simp)) ⟨ho,ho2,⟨.ref b,H,I,rfl,q b H (Same.refl H) hb⟩⟩
 · refine Zrr pins s σ H (.ref a) (.ref b) _ _ Q I rfl rfl ⟨a,b,xs,ys,rfl,rfl,SqT.of ha,SqT.of hb,hx,hz,?_,?_⟩
   · rintro rfl
     exact q a H (Same.refl H) (by rw [n71_];exact ha)
   · intro _ p hp;exact q p _ (Same.new hp) Zc
def rSlU:V→Option Int→Option Int→Hp→VK→Prop:=fun x lo hi H Q=>∃ a xs,x=.ref a∧H a=some (.tup xs)∧∀ p H',Same H H'→H' p=some (.tup (cutV xs lo hi))→Q (.ref p) H'
theorem Zbf:SlR X rSlU:=by
 intro pins s σ H x v vl vu lo hi sl Q I rx hs pl pu h;obtain ⟨a,xs,rfl,hx,q⟩:=h
 by_cases hw:HT.sIx xs.length 0 lo=0∧HT.sIx xs.length xs.length hi=xs.length
 · cases rx
   obtain ⟨its,r,ht,hz⟩:=I.tuple (SqT.of hx);have hlen:its.toArray.size=xs.length:=by rw [n9_];exact r.length.symm
   refine ⟨"tuple",_,PyProof.Rows.slot_tuple_getitem.lookup,ht.typeIs,?_⟩;refine HT.getItem_tuple_whole ht hs pl pu (by rw [hlen];exact hw) ⟨.ref a,H,I,rfl,q a H (Same.refl H) ?_⟩;unfold cutV;rw [hw.1,hw.2,List.drop_zero,Nat.sub_zero,List.take_length];exact hx
 · exact Zub pins s σ H _ _ vl vu lo hi sl Q I rx hs pl pu ⟨a,xs,rfl,SqT.of hx,hw,fun p hp=>q p _ (Same.new hp) Zc⟩
def rNe0 (K:PySem.W.Frag):R2:=fun x y H Q=>∃ a b xs,x=.ref a∧y=.ref b∧SqT K H a xs∧SqT K H b []∧Q (.bl (!decide (xs=[]))) H
theorem Zuj (hu:X.A.units<cLine):OpR X (compareOp .NotEq) (rNe0 X.K):=by
 intro pins s σ H x y v u Q I rx ry h;obtain ⟨a,b,xs,rfl,rfl,h1,h2,q⟩:=h;cases rx;cases ry
 obtain ⟨us,r1,p1,_⟩:=I.tuple h1;obtain ⟨ws,r2,p2,_⟩:=I.tuple h2;have l1:=r1.length;have e:ws=[]:=r2.nil_iff.mpr rfl;subst e;refine SeqAt.RcNeAt.tuples (e:=fun j=>true) p1 p2 hu (fun j h1 h2=>absurd h2 (by simp)) _ _ _ _ ⟨.bl _,H,I,rfl,?_⟩
 have z:(!((List.range (min us.toArray.size (([]:List Value).toArray).size)).all (fun _=>true)&&us.toArray.size == (([]:List Value).toArray).size))=(!decide (xs=[])):=by
  rw [n9_,← l1];cases xs<;>simp
 rw [z];exact q
theorem Zvl {j:Nat} {pa pb:Pos}:PE X (.UnaryOp .USub (.Constant (.int 1) j pa) pb) (fun _ H Q=>Q (.int (-1)) H):=fun pins s σ H Q I h=>Zco Zap Zd pins s σ H Q I ⟨1,rfl,h⟩
theorem Zuv:PE X e (fun _ _ _=>False):=fun _ _ _ _ _ _ h=>h.elim
theorem Zhu (I:Inv X pins σ H s):sysModules<s.z:=by
 have h:mainGlobals<s.z:=(I.mod.glob.keeps I.bk).lt;exact Nat.lt_trans (by decide) h
def Zu4 (t:TA):TE:=fun σ H Q=>t σ H fun xs H1=>xs.length≤sizeLine∧∀ p,H1 p=none→p≠sysModules→Q (.ref p) (upd H1 p (.lst xs))
theorem Zdy (h:PA X es t):PE X (.List es pos) (Zu4 t):=by
 intro pins s σ H Q I hq;refine wpAny_List_spliced (thn (h pos pins s σ H _ I hq) fun us s1 ⟨xs,H1,I1,r,z,q⟩=>⟨by rw [← r.length];exact z,?_⟩);have hf:H1 s1.z=none:=I1.hok.fresh (n7_ _);refine ⟨.ref s1.z,upd H1 s1.z (.lst xs),I1.laid (t':=s1.toks) (fun b u e=>n2_ _ e) (n7_ _) ?_,rfl,q _ hf (n59_ (Zhu I1))⟩;exact ⟨z,us,0,r,n8_ _ rfl⟩
theorem Za8:Xn X (.type "list") (fun xs H Q=>∃ p ys,xs=[.ref p]∧(SqL X.K H p ys∨SqT X.K H p ys)∧∀ l,H l=none→l≠sysModules→Q (.ref l) (upd H l (.lst ys))):=by
 intro pins s σ H xs us Q I r h;obtain ⟨p,ys,rfl,hq,q⟩:=h;obtain ⟨u,rfl,rx⟩:=Ziy r;cases rx
 have fin:∀ (its:List Value),Vals ys its→ys.length≤sizeLine→∀ (h':Heap) (c':Nat),(∀ b o',s.heap.get? b=some o'→h'.get? b=some o') →
  h'.get? s.z=some { cls:=.type "list",dict:=none,data:=.seq its.toArray c',slots:=#[] }→EP X pins σ Q (.ref s.z) { s with heap:=h' }:=fun its r' hz h' c' kp e =>
  ⟨.ref s.z,_,I.laid (t':=s.toks) kp (n7_ _) (show ObjOk X.prog X.w _ h' _ (.lst ys) from ⟨hz,its,c',r',e⟩),rfl,q _ (I.hok.fresh (n7_ _)) (n59_ (Zhu I))⟩
 rcases hq with hq|hq
 · obtain ⟨its,r',pl,hz⟩:=I.list hq;have hlen:=r'.length;obtain ⟨o,ho,hc,n,hd⟩:=pl.isList;exact call_list_seq p (.inl rfl) ho hc hd (fun h' c' kp e=>fin its r' hz h' c' kp e) (by simp only [n9_]<;>omega)
 · obtain ⟨its,r',pl,hz⟩:=I.tuple hq;have hlen:=r'.length;obtain ⟨o,ho,hc,n,hd⟩:=pl;exact call_list_seq p (.inr rfl) ho hc hd (fun h' c' kp e=>fin its r' hz h' c' kp e) (by simp only [n9_]<;>omega)
def Zvo:TE:=fun _ H Q=>∀ p,H p=none→Q (.ref p) (upd H p (.dK []))
theorem Zrw:PE X (.Dict [] [] pos) Zvo:=fun pins s σ H Q I h =>
 wpAny_Dict_empty ⟨.ref s.z,_,I.laid (a:=s.z) (o:=.dK []) (t':=s.toks) (fun _ _ q=>n2_ _ q) (n7_ _)
  ⟨n42_ _,beq_eq_false_iff_ne.mpr (Ne.symm (n22_ (Zhu I))),[],.nil,Heap.DictOf.new s.heap⟩,rfl,h _ (I.hok.fresh (n7_ _))⟩
end
def isI:PyData→Bool
 | .int _=>true
 | _=>false
def isT:PyData→Bool
 | .tuple _=>true
 | _=>false
section
variable {K:PySem.W.Frag} {N:Addr→Prop} {k:Nat} {H:Hp} {v:V} {d:PyData}
theorem Dt.isI (h:Dt N H k v d):(∃ i,v=.int i∧d=.int i∧i.natAbs<2^k)∨L2.isI d=false:=by
 cases h with
 | int hi=>exact .inl ⟨_,rfl,rfl,hi⟩
 | _=>exact .inr rfl
theorem Dt.isT (h:Dt N H k v d):(∃ a xs ds,v=.ref a∧d=.tuple ds∧H a=some (.tup xs)∧Dts N H k xs ds)∨L2.isT d=false:=by
 cases h with
 | tup h r=>exact .inl ⟨_,_,_,rfl,rfl,h,r⟩
 | _=>exact .inr rfl
theorem Dt.ty (h:Dt N H k v d):∃ t,TyOf K H v t∧PySem.W.kitOne K t (.type "tuple")=some (L2.isT d):=by
 cases h with
 | non=>exact ⟨_,TyOf.non,rfl⟩
 | bl b=>exact ⟨_,TyOf.bl b,rfl⟩
 | int hi=>exact ⟨_,TyOf.int _,rfl⟩
 | str x=>exact ⟨_,TyOf.str x,rfl⟩
 | tup h r=>exact ⟨_,TyOf.tup h,rfl⟩
 | lst h n m r=>exact ⟨_,TyOf.lst h,rfl⟩
 | dic h=>exact ⟨_,TyOf.dK h,rfl⟩
theorem Zfx {r:Int} (h0:0≤r) (h1:r<xs.length):∃ v,atI xs r=some v∧v∈xs:=by
 obtain ⟨n,rfl⟩:=Int.eq_ofNat_of_zero_le h0;have hn:n<xs.length:=by omega
 exact ⟨xs[n],Xz (n1_ hn),n44_ hn⟩
def Dom (N:Addr→Prop) (H:Hp):Prop:=∀ b,N b→∃ o,H b=some o
theorem Dom.same (h:Dom N H) (s:Same H H'):Dom N H':=fun b z=>let ⟨o,e⟩:=h b z;⟨o,s b o e⟩
theorem Dom.keep {o:HO} (h:Dom N H) (s:Keep l H H') (hl:H' l=some o):Dom N H':=fun b z=>by
 by_cases e:b=l
 · subst e;exact ⟨_,hl⟩
 · obtain ⟨o,q⟩:=h b z;exact ⟨o,s b o e q⟩
theorem Dom.new {p:Addr} (h:Dom N H) (n:H p=none):¬ N p:=fun z=>by
 obtain ⟨o,e⟩:=h p z;rw [n] at e;cases e
def Tg (N:Addr→Prop) (H:Hp) (k n m:Nat) (v:V):Prop:=∃ d,Dt N H k v d∧d.depth≤n∧nz d≤m
def Tgs (N:Addr→Prop) (H:Hp) (k n m:Nat) (xs:List V):Prop:=∀ v∈xs,Tg N H k n m v
variable {n m:Nat}
theorem Tg.same (s:Same H H') (h:Tg N H k n m v):Tg N H' k n m v:=let ⟨d,a,b⟩:=h;⟨d,a.same s,b⟩
theorem Tg.keep {ys:List V} (hN:N l) (hl:H l=some (.lst ys)) (s:Keep l H H') (h:Tg N H k n m v):Tg N H' k n m v:=let ⟨d,a,b⟩:=h;⟨d,a.keep hN hl s,b⟩
theorem Tg.up {k' n' m':Nat} (h:Tg N H k n m v) (hk:k≤k') (hn:n≤n') (hm:m≤m'):Tg N H k' n' m' v:=let ⟨d,a,b,c⟩:=h;⟨d,a.up hk,n33_ b hn,n33_ c hm⟩
theorem Tgs.nil:Tgs N H k n m []:=fun v h=>by cases h
theorem Tgs.cons (h:Tg N H k n m v) (t:Tgs N H k n m xs):Tgs N H k n m (v :: xs):=fun w z=>by
 rcases n12_.mp z with rfl|z
 · exact h
 · exact t w z
theorem Tgs.app {ys:List V} (h:Tgs N H k n m xs) (t:Tgs N H k n m ys):Tgs N H k n m (xs++ys):=fun w z=>(List.mem_append.mp z).elim (h w) (t w)
theorem Tgs.same (s:Same H H') (h:Tgs N H k n m xs):Tgs N H' k n m xs:=fun v z=>(h v z).same s
theorem Tgs.keep {ys:List V} (hN:N l) (hl:H l=some (.lst ys)) (s:Keep l H H') (h:Tgs N H k n m xs):Tgs N H' k n m xs:=fun v z=>(h v z).keep hN hl s
theorem Zpb (xs:List V) (r:Nat):cutV xs none (some (r:Int))=xs.take r:=by
 unfold cutV;rw [HT.sIx_none,HT.sIx_nat,List.drop_zero,Nat.sub_zero]
 by_cases h:r≤xs.length
 · rw [Nat.min_eq_left h]
 · rw [Nat.min_eq_right (by omega),List.take_length,n52_ (by omega)]
theorem Zor (xs:List V) (r:Nat):cutV xs (some (r:Int)) none=xs.drop r:=by
 unfold cutV;rw [HT.sIx_none,HT.sIx_nat]
 by_cases h:r≤xs.length
 · rw [Nat.min_eq_left h,n52_ (by rw [List.length_drop];omega)]
 · rw [Nat.min_eq_right (by omega),List.drop_of_length_le (show xs.length≤r by omega)]
   simp
theorem Dts.cut {ds:List PyData} (h:Dts N H k xs ds) (lo hi:Option Int):∃ es,Dts N H k (cutV xs lo hi) es∧Zr es≤Zr ds∧PyData.depthAll es≤PyData.depthAll ds:=by
 refine ⟨_,(h.drop _).take _,?_,?_⟩
 · exact n33_ (Zkk _ _) (Zk6 _ _)
 · exact n33_ (Zbq _ _) (Zbu _ _)
theorem Zhf:∀ {ds:List PyData} {r:Nat} {d:PyData},ds[r]? = some d→Zr ds=Zr (ds.take r)+(nz d+1)+Zr (ds.drop (r+1))∧d.depth≤PyData.depthAll ds
 | [],_,_,h=>by simp at h
 | x :: xs,0,d,h=>by
   simp at h;subst h;refine ⟨by simp [Zr],?_⟩;simp only [PyData.depthAll];omega
 | x :: xs,r+1,d,h=>by
   obtain ⟨a,b⟩:=Zhf (ds:=xs) (r:=r) (d:=d) (by simpa using h);refine ⟨?_,?_⟩
   · simp only [List.take_succ_cons,List.drop_succ_cons,Zr];omega
   · simp only [PyData.depthAll];omega
theorem Zqh:∀ (ds:List PyData),ds.length≤Zr ds
 | []=>n7_ _
 | x :: xs=>by have:=Zqh xs;simp only [n15_,Zr];omega
end
section
variable {N:Addr→Prop} {k n m:Nat} {H:Hp} {p:Addr}
mutual
theorem Dt.more (hp:H p=none):∀ {v:V} {d:PyData},Dt N H k v d→Dt (fun b=>N b∨b=p) H k v d
 | _,_,.non=>.non
 | _,_,.bl b=>.bl b
 | _,_,.int h=>.int h
 | _,_,.str x=>.str x
 | _,_,.tup h r=>.tup h (Dts.more hp r)
 | _,_,.lst h n m r=>.lst h (fun z=>z.elim n (fun e=>Zm h hp e)) m (Dts.more hp r)
 | _,_,.dic h=>.dic h
theorem Dts.more (hp:H p=none):∀ {vs:List V} {ds:List PyData},Dts N H k vs ds→Dts (fun b=>N b∨b=p) H k vs ds
 | _,_,.nil=>.nil
 | _,_,.cons r rs=>.cons (Dt.more hp r) (Dts.more hp rs)
end
theorem Tg.more (hp:H p=none) (h:Tg N H k n m v):Tg (fun b=>N b∨b=p) H k n m v:=let ⟨d,a,b⟩:=h;⟨d,a.more hp,b⟩
theorem Tgs.more (hp:H p=none) (h:Tgs N H k n m vs):Tgs (fun b=>N b∨b=p) H k n m vs:=fun v z=>(h v z).more hp
theorem Dom.more {o:HO} (h:Dom N H) (e:H p=some o):Dom (fun b=>N b∨b=p) H:=fun b z=>z.elim (h b) (fun q=>⟨o,by rw [q];exact e⟩)
end
section
variable {X:Cx}
theorem Zaz {i:Int} (h:∃ t,X.mg x=some (.int i t)) (hg:Gl X x) (hd:(x == ("__debug__" : Str))=false:=by decide):PE X (.Name x pos) (tC (.int i)):=by
 obtain ⟨t,h⟩:=h;exact Zl6 hg h ⟨t,rfl⟩ hd
end
section
variable {X:Cx} {pins:List (Addr×Obj)} {σ:List (Option V)} {H:Hp} {s:Shared} {h':Heap}
theorem Inv.turnNew {o:HO} (I:Inv X pins σ H s) (k:∀ b u,b∉ch→s.heap.get? b=some u→h'.get? b=some u) (hf:∀ b∈ch,FpOk X pins H b)
 (ha:s.z≤a) (new:ObjOk X.prog X.w (upd H a o) h' a o):Inv X pins σ (upd H a o) { s with heap:=h',toks:=t' }:=by
 have fa:H a=none:=I.hok.fresh ha;have na:∀ b u,H b=some u→b≠a:=fun b u e=>Zm e fa;have nc:∀ b u,H b=some u→b∉ch:=fun b u e z=>by rw [(hf b z).1] at e;cases e
 have la:∀ b u,s.heap.get? b=some u→b≠a:=fun b u e=>n22_ (n14_ (n11_ e) ha)
 refine I.step (g':=s.gens) (d':=s.drawn) (ch:=ch) (fun b hb=>?_) (fun b u _ _ hc e _=>k b u hc e) (fun b u _ _ hc e _=>⟨u.slots,k b u hc e⟩) (fun b u _ e n=>by rw [Zj (la b u e)];exact n)
  (fun b u hc e=>⟨u,k b u hc e⟩) (fun b xs e=>by rw [Zj (na b _ e)];exact e) (fun b u v e=>by rw [Zj (na b _ e)];exact e) (fun b ps e=>⟨#[],by rw [Zj (na b _ e),e];simp⟩) (fun m hm=>?_) (fun b u e=>?_) I.bare
 · obtain ⟨f0,f1,f2,f3,f4,f5⟩:=hf b hb;exact ⟨f3,f1,f4,f5⟩
 · obtain ⟨u,es,ep,hu,r⟩:=hm;exact ⟨u,es,ep,k _ u (fun z=>(hf _ z).2.1 rfl) hu,r⟩
 · by_cases hb:b=a
   · subst hb;rw [Zc] at e;cases e;exact new
   · rw [Zj hb] at e;refine (I.hok b u e).stay (fun c v hc q=>k c v ?_ q) (fun c q=>by rw [Zj (na c _ q)];exact q) fun c xs q=>by rw [Zj (na c _ q)];exact q
     rcases hc with z|z
     · rw [z];exact nc b u e
     · exact nc c _ z
theorem Inv.turnOnly (I:Inv X pins σ H s) (k:∀ b u,b∉ch→s.heap.get? b=some u→h'.get? b=some u) (hf:∀ b∈ch,FpOk X pins H b):Inv X pins σ H { s with heap:=h',toks:=t' }:=by
 have nc:∀ b u,H b=some u→b∉ch:=fun b u e z=>by rw [(hf b z).1] at e;cases e
 refine I.step (g':=s.gens) (d':=s.drawn) (ch:=ch) (fun b hb=>?_) (fun b u _ _ hc e _=>k b u hc e) (fun b u _ _ hc e _=>⟨u.slots,k b u hc e⟩) (fun _ _ _ _ n=>n)
  (fun b u hc e=>⟨u,k b u hc e⟩) (fun _ _ e=>e) (fun _ _ _ e=>e) (fun b ps e=>⟨#[],by rw [e];simp⟩) (fun m hm=>?_) (fun b u e=>?_) I.bare
 · obtain ⟨f0,f1,f2,f3,f4,f5⟩:=hf b hb;exact ⟨f3,f1,f4,f5⟩
 · obtain ⟨u,es,ep,hu,r⟩:=hm;exact ⟨u,es,ep,k _ u (fun z=>(hf _ z).2.1 rfl) hu,r⟩
 · refine (I.hok b u e).stay (fun c v hc q=>k c v ?_ q) (fun _ q=>q) fun _ _ q=>q
   rcases hc with z|z
   · rw [z];exact nc b u e
   · exact nc c _ z
end
inductive SK where
 | l
 | t
def SK.Sq (K:PySem.W.Frag) (H:Hp) (a:Addr) (xs:List V):SK→Prop
 | .l=>SqL K H a xs
 | .t=>SqT K H a xs
def SK.Is (h:Heap) (a:Addr) (vs:Array Value):SK→Prop
 | .l=>h.IsList a vs
 | .t=>h.IsTuple a vs
def SK.It (h:Heap) (it a:Addr) (i:Nat):SK→Prop
 | .l=>h.IsListIter it a i
 | .t=>h.IsTupleIter it a i
noncomputable def SK.name:SK→String
 | .l => "list_iterator"
 | .t => "tuple_iterator"
abbrev SK.obj (k:SK) (a:Addr):Obj:={ cls:=.type k.name,data:=.fields #[.ref a,.int 0 0] }
theorem SK.It.ex {k:SK} (x:k.It h it a i):∃ o,h.get? it=some o∧o.cls=.type k.name∧o.data=.fields #[.ref a,.int i 0]:=by
 cases k<;>exact x
theorem SK.It.of {k:SK} (x:∃ o,h.get? it=some o∧o.cls=.type k.name∧o.data=.fields #[.ref a,.int i 0]):k.It h it a i:=by
 cases k<;>exact x
theorem SK.It.at {k:SK} (x:k.It h it a i) (f:∀ o,h.get? it=some o→h'.get? it=some o):k.It h' it a i:=by
 obtain ⟨o,e,r⟩:=x.ex;exact .of ⟨o,f o e,r⟩
theorem SK.Is.ex {k:SK} {vs:Array Value} (x:k.Is h a vs):∃ o n,h.get? a=some o∧o.data=.seq vs n:=by
 cases k with
 | l=>obtain ⟨o,e,_,n,d⟩:=(show h.IsList a vs from x);exact ⟨o,n,e,d⟩
 | t=>obtain ⟨o,e,_,n,d⟩:=(show h.IsTuple a vs from x);exact ⟨o,n,e,d⟩
theorem SK.Is.at {k:SK} {vs:Array Value} (x:k.Is h a vs) (f:∀ o,h.get? a=some o→h'.get? a=some o):k.Is h' a vs:=by
 cases k with
 | l=>obtain ⟨o,e,r⟩:=(show h.IsList a vs from x);exact (⟨o,f o e,r⟩:h'.IsList a vs)
 | t=>obtain ⟨o,e,r⟩:=(show h.IsTuple a vs from x);exact (⟨o,f o e,r⟩:h'.IsTuple a vs)
theorem SK.Sq.is {k:SK} (q:k.Sq X.K H a xs) (I:Inv X pins σ H s):∃ its,Vals xs its∧k.Is s.heap a its.toArray:=by
 cases k with
 | l=>obtain ⟨its,rv,p,_⟩:=I.list (show SqL X.K H a xs from q);exact ⟨its,rv,p.isList⟩
 | t=>obtain ⟨its,rv,p,_⟩:=I.tuple (show SqT X.K H a xs from q);exact ⟨its,rv,p⟩
theorem SK.Sq.inj {k:SK} {ys:List V} (q:k.Sq X.K H a xs) (r:k.Sq X.K H a ys) (I:Inv X pins σ H s):xs=ys:=by
 cases k with
 | l=>exact I.list_inj q r
 | t=>exact I.tuple_inj q r
section
variable {prog:Program} {w:World} {A:Around} {E:Value→Shared→Prop} {s:Shared}
theorem SK.draw {k:SK} {vs:Array Value} {x:Value} (hi:k.It s.heap it a i) (ha:k.Is s.heap a vs) (hx:vs[i]? = some x)
 (q:∀ h1,k.It h1 it a (i+1)→Heap.SameBut it s.heap h1→Q x { s with heap:=h1 }):wpAny (model prog w) A (n20_ (.ref it)) Q E s:=by
 cases k with
 | l=>exact wpAny_nextOf_list_item hi ha hx q
 | t =>
   have hi':s.heap.IsTupleIter it a i:=hi;obtain ⟨o,e,c,d⟩:=id hi';obtain ⟨oa,ea,_,n,da⟩:=(show s.heap.IsTuple a vs from ha);unfold n20_;refine n0_ (wpAny_callSpecial?_slot (name:=Str.ofString "__next__") hi'.typeIs F.slot_tuple_iterator_next (wpAny_call_entry F.slot_tuple_iterator_next hi'.typeIs F.entry_tuple_iterator_next ?_ (F.args_tuple_iterator_next_1 _)));refine n0_ (m:=field (.ref it) 0) (wpAny_field e d (x:=.ref a) rfl ?_);show wpAny _ _ (if (Value.ref a == Value.none)=true then _ else _) _ _ s
   rw [if_neg (show ¬ ((Value.ref a == Value.none)=true) from n23_)];refine n0_ (m:=field (.ref it) 1) (wpAny_field e d (x:=.int i 0) rfl ?_);refine n0_ (m:=seqItems? (.ref a)) (wpAny_seqItems ea da ?_);simp only [n57_,hx];refine n0_ (wpAny_setField e d (by simp) (n3_ ⟨x,rfl,n3_ (q _ (SK.It.of ?_) (Heap.SameBut.update ..))⟩));exact ⟨_,n50_ _ e (Obj.isFreed_of_fields (Obj.data_mapFields d _)),(Obj.cls_mapFields ..).trans c,by rw [Obj.data_mapFields d];simp [rawInt]⟩
theorem SK.dry {k:SK} {vs:Array Value} (hh:A.handled=none) (hi:k.It s.heap it a i) (ha:k.Is s.heap a vs) (hx:vs[i]? = none)
 (q:∀ h1 e,Heap.ExtBut it s.heap h1→(∃ o,h1.get? e=some o∧o.cls=.type "StopIteration")→E (.ref e) { s with heap:=h1 }):wpAny (model prog w) A (n20_ (.ref it)) Q E s:=by
 cases k with
 | l=>exact wpAny_nextOf_list_end hh hi ha hx q
 | t =>
   have hi':s.heap.IsTupleIter it a i:=hi;obtain ⟨o,e,c,d⟩:=id hi';obtain ⟨oa,ea,_,n,da⟩:=(show s.heap.IsTuple a vs from ha);unfold n20_;refine n0_ (wpAny_callSpecial?_slot (name:=Str.ofString "__next__") hi'.typeIs F.slot_tuple_iterator_next (wpAny_call_entry F.slot_tuple_iterator_next hi'.typeIs F.entry_tuple_iterator_next ?_ (F.args_tuple_iterator_next_1 _)));refine n0_ (m:=field (.ref it) 0) (wpAny_field e d (x:=.ref a) rfl ?_);show wpAny _ _ (if (Value.ref a == Value.none)=true then _ else _) _ _ s
   rw [if_neg (show ¬ ((Value.ref a == Value.none)=true) from n23_)];refine n0_ (m:=field (.ref it) 1) (wpAny_field e d (x:=.int i 0) rfl ?_);refine n0_ (m:=seqItems? (.ref a)) (wpAny_seqItems ea da ?_);simp only [n57_,hx];refine n0_ (wpAny_rule (n0_ (wpAny_setField e d (by simp) ?_)));refine n0_ (m:=newExc (.type "StopIteration") []) ?_;simp only [newExc,newTuple];refine n0_ (wpAny_newObj_type (n0_ (m:=firstArgMember _ _) (wpAny_of_eq (a:=Value.none) (by first|rfl|(simp only [firstArgMember];rfl)) (wpAny_newObj_type ?_ (by size_fits)))) (by size_fits));simp only [raiseNew];refine n0_ (wpAny_handled ?_)
   first|rw [show A.in1.handled=none from hh]|rw [hh]
   refine n0_ (n3_ (wpAny_throw (q _ _ (((Heap.SameBut.update ..).extBut.push _).push _) ⟨_,n8_ _ rfl,rfl⟩)))
theorem SK.iter {k:SK} {vs:Array Value} (ha:k.Is s.heap a vs) (q:Q (.ref s.z) { s with heap:=s.heap.push (k.obj a) }):wpAny (model prog w) A (pyIter (.ref a)) Q E s:=by
 cases k with
 | l=>exact wpAny_pyIter_list ha q
 | t=>exact wpAny_pyIter_tuple ha q
end
structure ZP (z t o i j a b:Addr):Prop where
 tz:t≠z
 oz:o≠z
 iz:i≠z
 jz:j≠z
 to:t≠o
 ti:t≠i
 tj:t≠j
 oi:o≠i
 oj:o≠j
 ij:i≠j
 az:a≠z
 ao:a≠o
 ai:a≠i
 aj:a≠j
 bz:b≠z
 bo:b≠o
 bi:b≠i
 bj:b≠j
section
variable {prog:Program} {w:World} {A:Around} {E:Value→Shared→Prop} {s:Shared} {k l:SK}
theorem Zpg {o i:Addr} {xs:Array Value} {x y:Value} (D:ZP z t o i j a b)
 (hz:IsZip s.heap z t o .none) (ht:IsPair s.heap t (.ref i) (.ref j)) (ho:IsPair s.heap o c d)
 (hi:k.It s.heap i a m) (hj:l.It s.heap j b n) (ha:k.Is s.heap a xs) (hb:l.Is s.heap b ys) (hx:xs[m]? = some x) (hy:ys[n]? = some y)
 (q:∀ h1,IsZip h1 z t o (rawInt s.z)→IsPair h1 o x y→k.It h1 i a (m+1)→l.It h1 j b (n+1)→IsPair h1 s.z x y→h1.objs.size=s.z+1 →
   (∀ e u,e≠z→e≠o→e≠i→e≠j→s.heap.get? e=some u→h1.get? e=some u)→Q (.ref s.z) { s with heap:=h1 }) :
 wpAny (model prog w) A (Builtin.«zip.__next__» ⟨[.ref z],[]⟩) (fun fin s'=>∃ v,fin=.done (.ret v)∧Q v s') E s:=by
 refine n0_ (m:=field (.ref z) 2) (wpAny_field hz rfl (x:=.bool false) rfl ?_);refine n0_ (m:=field (.ref z) 3) (wpAny_field hz rfl (x:=.ref t) rfl (n0_ (wpAny_seqItems ht rfl ?_)));refine n0_ (m:=n29_ (.ref z)) ?_;unfold n29_;refine n0_ (wpAny_field hz rfl (x:=.none) rfl (n3_ ?_));simp only [if_true];refine n0_ (wpAny_rule (n0_ (wpAny_field hz rfl (x:=.ref o) rfl (n0_ (wpAny_setField_rec hz (by simp) fun h1 z1 s1=>?_)))));replace z1:IsZip h1 z t o .ellipsis:=z1;refine n0_ ?_;simp only [List.zipIdx_cons,List.zipIdx_nil,List.forIn_cons,List.forIn_nil];refine n0_ (n0_ (wpAny_onRaise (n0_ (m:=n20_ (.ref i)) ?_)));refine SK.draw (hi.at fun u e=>s1.extBut _ _ D.iz e) (ha.at fun u e=>s1.extBut _ _ D.az e) hx fun h2 i2 s2=>n3_ ?_;have o2:IsPair h2 o c d:=s2.extBut _ _ D.oi (s1.extBut _ _ D.oz ho);refine n0_ (wpAny_seqItems o2 rfl (n0_ (wpAny_updateSeq_pair o2 fun h3 o3 s3=>?_)));replace o3:IsPair h3 o x d:=o3;refine n0_ (wpAny_letGo (n3_ (n0_ (n0_ (wpAny_onRaise (n0_ (m:=n20_ (.ref j)) ?_))))));refine SK.draw (hj.at fun u e=>s3.extBut _ _ D.oj.symm (s2.extBut _ _ D.ij.symm (s1.extBut _ _ D.jz e))) (hb.at fun u e=>s3.extBut _ _ D.bo (s2.extBut _ _ D.bi (s1.extBut _ _ D.bz e))) hy fun h4 j4 s4=>n3_ ?_;have o4:IsPair h4 o x d:=s4.extBut _ _ D.oj o3;refine n0_ (wpAny_seqItems o4 rfl (n0_ (wpAny_updateSeq_pair o4 fun h5 o5 s5=>?_)));replace o5:IsPair h5 o x y:=o5;refine n0_ (wpAny_letGo (n3_ (n3_ (n0_ (wpAny_seqItems o5 rfl (n0_ (wpAny_newTuple ?_)))))));have sz:h5.objs.size=s.z:=by rw [s5.1,s4.1,s3.1,s2.1,s1.1]
 have z5:IsZip h5 z t o .ellipsis:=s5.extBut _ _ D.oz.symm (s4.extBut _ _ D.jz.symm (s3.extBut _ _ D.oz.symm (s2.extBut _ _ D.iz.symm z1)));have k5:∀ e u,e≠z→e≠o→e≠i→e≠j→s.heap.get? e=some u→h5.get? e=some u:=fun e u e1 e2 e3 e4 g=>s5.extBut _ _ e2 (s4.extBut _ _ e4 (s3.extBut _ _ e2 (s2.extBut _ _ e3 (s1.extBut _ _ e1 g))));have i5:k.It h5 i a (m+1):=i2.at fun u e=>s5.extBut _ _ D.oi.symm (s4.extBut _ _ D.ij (s3.extBut _ _ D.oi.symm e));have j5:l.It h5 j b (n+1):=j4.at fun u e=>s5.extBut _ _ D.oj.symm e;have zl:z<h5.objs.size:=n11_ z5;refine n0_ (m:=Builtin.SmallTypes.ownedTupleHandOut (.ref z) (.ref h5.objs.size)) ?_;unfold Builtin.SmallTypes.ownedTupleHandOut;have z6:IsZip (h5.push { cls:=.type "tuple",data:=.seq #[x,y] }) z t o .ellipsis:=n2_ _ z5;refine n0_ (wpAny_setField_rec z6 (by simp) fun h7 z7 s7=>?_);replace z7:IsZip h7 z t o (rawInt h5.objs.size):=z7;refine wpAny_setField_rec z7 (by simp) fun h8 z8 s8=>?_;replace z8:IsZip h8 z t o (rawInt h5.objs.size):=z8;have up:∀ e u,e≠z→h5.get? e=some u→h8.get? e=some u:=fun e u e1 g=>s8.extBut _ _ e1 (s7.extBut _ _ e1 (n2_ _ g));have T8:IsPair h8 h5.objs.size x y:=s8.extBut _ _ (n59_ zl) (s7.extBut _ _ (n59_ zl) (n8_ _ rfl));have l8:h8.objs.size=h5.objs.size+1:=by rw [s8.1,s7.1,n54_]
 rw [sz] at z8 T8 l8;refine n3_ ⟨_,rfl,?_⟩;show Q (.ref h5.objs.size) _
 rw [sz];exact q h8 z8 (up _ _ D.oz o5) (i5.at fun u e=>up _ u D.iz e) (j5.at fun u e=>up _ u D.jz e) T8 l8 fun e u e1 e2 e3 e4 g=>up e u e1 (k5 e u e1 e2 e3 e4 g)
theorem Zrq {o i:Addr} {xs:Array Value} {Q:Fin→Shared→Prop} (hh:A.handled=none) (D:ZP z t o i j a b)
 (hz:IsZip s.heap z t o .none) (ht:IsPair s.heap t (.ref i) (.ref j)) (ho:IsPair s.heap o c d)
 (hi:k.It s.heap i a m) (hj:l.It s.heap j b n) (ha:k.Is s.heap a xs) (hb:l.Is s.heap b ys) (hx:xs[m]? = none∨ys[n]? = none)
 (q:∀ h1 e,(∀ e u,e≠z→e≠o→e≠i→e≠j→s.heap.get? e=some u→h1.get? e=some u)→(∃ u,h1.get? e=some u∧u.cls=.type "StopIteration")→E (.ref e) { s with heap:=h1 }) :
 wpAny (model prog w) A (Builtin.«zip.__next__» ⟨[.ref z],[]⟩) Q E s:=by
 refine n0_ (m:=field (.ref z) 2) (wpAny_field hz rfl (x:=.bool false) rfl ?_);refine n0_ (m:=field (.ref z) 3) (wpAny_field hz rfl (x:=.ref t) rfl (n0_ (wpAny_seqItems ht rfl ?_)));refine n0_ (m:=n29_ (.ref z)) ?_;unfold n29_;refine n0_ (wpAny_field hz rfl (x:=.none) rfl (n3_ ?_));simp only [if_true];refine n0_ (wpAny_rule (n0_ (wpAny_field hz rfl (x:=.ref o) rfl (n0_ (wpAny_setField_rec hz (by simp) fun h1 z1 s1=>?_)))));replace z1:IsZip h1 z t o .ellipsis:=z1;refine n0_ ?_;simp only [List.zipIdx_cons,List.zipIdx_nil,List.forIn_cons,List.forIn_nil];refine n0_ (n0_ (wpAny_onRaise (n0_ (m:=n20_ (.ref i)) ?_)));cases hm:xs[m]? with
 | none =>
   refine SK.dry hh (hi.at fun u e=>s1.extBut _ _ D.iz e) (ha.at fun u e=>s1.extBut _ _ D.az e) hm fun h2 e s2 ⟨u,g,cu⟩=>?_;have z2:IsZip h2 z t o .ellipsis:=s2 _ _ D.iz.symm z1;have ez:e≠z:=fun r=>by subst r;rw [z2] at g;cases g;simp at cu
   exact wpAny_setField_rec z2 (by simp) fun h3 _ s3=>q h3 e (fun e' u' e1 _ e3 _ r=>s3.extBut _ _ e1 (s2 _ _ e3 (s1.extBut _ _ e1 r))) ⟨u,s3.extBut _ _ ez g,cu⟩
 | some x =>
   have hn:ys[n]? = none:=by rcases hx with r|r;(rw [hm] at r;cases r);exact r
   refine SK.draw (hi.at fun u e=>s1.extBut _ _ D.iz e) (ha.at fun u e=>s1.extBut _ _ D.az e) hm fun h2 i2 s2=>n3_ ?_;have o2:IsPair h2 o c d:=s2.extBut _ _ D.oi (s1.extBut _ _ D.oz ho);refine n0_ (wpAny_seqItems o2 rfl (n0_ (wpAny_updateSeq_pair o2 fun h3 o3 s3=>?_)));refine n0_ (wpAny_letGo (n3_ (n0_ (n0_ (wpAny_onRaise (n0_ (m:=n20_ (.ref j)) ?_))))));refine SK.dry hh (hj.at fun u e=>s3.extBut _ _ D.oj.symm (s2.extBut _ _ D.ij.symm (s1.extBut _ _ D.jz e))) (hb.at fun u e=>s3.extBut _ _ D.bo (s2.extBut _ _ D.bi (s1.extBut _ _ D.bz e))) hn fun h4 e s4 ⟨u,g,cu⟩=>?_;have z4:IsZip h4 z t o .ellipsis:=s4 _ _ D.jz.symm (s3.extBut _ _ D.oz.symm (s2.extBut _ _ D.iz.symm z1));have ez:e≠z:=fun r=>by subst r;rw [z4] at g;cases g;simp at cu
   exact wpAny_setField_rec z4 (by simp) fun h5 _ s5=>q h5 e (fun e' u' e1 e2 e3 e4 r=>s5.extBut _ _ e1 (s4 _ _ e4 (s3.extBut _ _ e2 (s2.extBut _ _ e3 (s1.extBut _ _ e1 r))))) ⟨u,s5.extBut _ _ ez g,cu⟩
theorem Zfd {o i:Addr} {xs:Array Value} {x y:Value} {Q:Option Value→Shared→Prop} (D:ZP z t o i j a b)
 (hz:IsZip s.heap z t o .none) (ht:IsPair s.heap t (.ref i) (.ref j)) (ho:IsPair s.heap o c d)
 (hi:k.It s.heap i a m) (hj:l.It s.heap j b n) (ha:k.Is s.heap a xs) (hb:l.Is s.heap b ys) (hx:xs[m]? = some x) (hy:ys[n]? = some y)
 (q:∀ h1,IsZip h1 z t o (rawInt s.z)→IsPair h1 o x y→k.It h1 i a (m+1)→l.It h1 j b (n+1)→IsPair h1 s.z x y→h1.objs.size=s.z+1 →
   (∀ e u,e≠z→e≠o→e≠i→e≠j→s.heap.get? e=some u→h1.get? e=some u)→Q (some (.ref s.z)) { s with heap:=h1 }) :
 wpAny (model prog w) A (pyNext (.ref z)) Q E s:=by
 have hT:s.TypeIs (.ref z) "zip" := ⟨_,hz,rfl⟩;unfold pyNext
 exact n0_ (wpAny_attempt (wpAny_callSpecial?_slot (name:=Str.ofString "__next__") hT F.slot_zip_next (wpAny_call_entry F.slot_zip_next hT F.entry_zip_next
  (Zpg D hz ht ho hi hj ha hb hx hy fun h1 r1 r2 r3 r4 r5 r6 r7=>n3_ (q h1 r1 r2 r3 r4 r5 r6 r7)) (F.args_zip_next_1 _))))
theorem Zgu {o i:Addr} {xs:Array Value} {Q:Option Value→Shared→Prop} (hh:A.handled=none) (D:ZP z t o i j a b)
 (hz:IsZip s.heap z t o .none) (ht:IsPair s.heap t (.ref i) (.ref j)) (ho:IsPair s.heap o c d)
 (hi:k.It s.heap i a m) (hj:l.It s.heap j b n) (ha:k.Is s.heap a xs) (hb:l.Is s.heap b ys) (hx:xs[m]? = none∨ys[n]? = none)
 (q:∀ h1,(∀ e u,e≠z→e≠o→e≠i→e≠j→s.heap.get? e=some u→h1.get? e=some u)→Q none { s with heap:=h1 }) :
 wpAny (model prog w) A (pyNext (.ref z)) Q E s:=by
 have hT:s.TypeIs (.ref z) "zip" := ⟨_,hz,rfl⟩;unfold pyNext
 refine n0_ (wpAny_attempt (wpAny_callSpecial?_slot (name:=Str.ofString "__next__") hT F.slot_zip_next (wpAny_call_entry F.slot_zip_next hT F.entry_zip_next
  (Zrq hh D hz ht ho hi hj ha hb hx fun h1 e r1 ⟨u,g,cu⟩=>?_) (F.args_zip_next_1 _))))
 exact n0_ (wpAny_isInstance (T := "StopIteration") (b:=true) ⟨u,g,cu⟩ isSubtype_stop (n3_ (q _ r1)))
abbrev zp1 (k:SK) (h:Heap) (a:Addr):Heap:=h.push (k.obj a)
abbrev zp2 (k l:SK) (h:Heap) (a b:Addr):Heap:=(zp1 k h a).push (l.obj b)
abbrev zp3 (k l:SK) (h:Heap) (a b:Addr):Heap:=(zp2 k l h a b).push { cls:=.type "tuple",data:=.seq #[.ref h.objs.size,.ref (zp1 k h a).objs.size] }
abbrev zp4 (k l:SK) (h:Heap) (a b:Addr):Heap:=(zp3 k l h a b).push { cls:=.type "tuple",data:=.seq #[.none,.none] }
abbrev zp5 (k l:SK) (h:Heap) (a b:Addr):Heap:=(zp4 k l h a b).push { cls:=.type "zip",data:=.fields #[.none,.bool false,.bool false,.ref (zp2 k l h a b).objs.size,.ref (zp3 k l h a b).objs.size] }
theorem Zl4 (k l:SK) (a b:Addr) (xs ys:Array Value):Meets (Builtin.«zip.__new__» ⟨[.type "zip",.ref a,.ref b],[]⟩) (fun _ R s=>k.Is s.heap a xs∧l.Is s.heap b ys∧R (.ok (.ret (.ref (zp4 k l s.heap a b).objs.size))) { s with heap:=zp5 k l s.heap a b }) :=
 .of_wp fun prog w A R s h=>by
  obtain ⟨hp,g,d,tk,os⟩:=s;obtain ⟨h1,h2,h⟩:=h;have hsub:=sub_zip;have r1:k.Is (Shared.heap ⟨hp,g,d,tk,os⟩) a xs:=h1;have r2:l.Is (Shared.heap ⟨hp.push (k.obj a),g,d,tk,os⟩) b ys:=SK.Is.at h2 fun o e=>n2_ _ e
  wp_walk using SK.iter r1,SK.iter r2
  exact ⟨_,rfl,h⟩
theorem Zfa {xs:Array Value} (ha:k.Is s.heap a xs) (hb:l.Is s.heap b ys)
 (q:∀ h1,IsZip h1 (s.z+4) (s.z+2) (s.z+3) .none→IsPair h1 (s.z+2) (.ref s.z) (.ref (s.z+1)) →
   IsPair h1 (s.z+3) .none .none→k.It h1 s.z a 0→l.It h1 (s.z+1) b 0→h1.objs.size=s.z+5 →
   (∀ c o,s.heap.get? c=some o→h1.get? c=some o)→Q (.ref (s.z+4)) { s with heap:=h1 }) :
 wpAny (model prog w) A (call (.type "zip") [.ref a,.ref b]) Q E s:=by
 refine callType_new F.called_zip (by decide) (F.typeCall_zip_2 _ _) (F.newCall_zip_2 _ _) (fun obj=>F.args_object_init_3 obj _ _) F.entry_zip_new (Zl4 k l a b xs ys) ⟨ha,hb,?_⟩;have n1:(zp1 k s.heap a).objs.size=s.z+1:=n54_ ..;have n2:(zp2 k l s.heap a b).objs.size=s.z+2:=by rw [n54_,n1]
 have n3:(zp3 k l s.heap a b).objs.size=s.z+3:=by rw [n54_,n2]
 have n4:(zp4 k l s.heap a b).objs.size=s.z+4:=by rw [n54_,n3]
 have n5:(zp5 k l s.heap a b).objs.size=s.z+5:=by rw [n54_,n4]
 have m5:(zp5 k l s.heap a b).get? (zp4 k l s.heap a b).objs.size=some _:=n8_ _ rfl;have m4:(zp5 k l s.heap a b).get? (zp3 k l s.heap a b).objs.size=some _:=n2_ _ (n8_ _ rfl);have m3:(zp5 k l s.heap a b).get? (zp2 k l s.heap a b).objs.size=some _:=n2_ _ (n2_ _ (n8_ _ rfl));have m2:(zp5 k l s.heap a b).get? (zp1 k s.heap a).objs.size=some _:=n2_ _ (n2_ _ (n2_ _ (n8_ _ rfl)));have m1:(zp5 k l s.heap a b).get? s.z=some _:=n2_ _ (n2_ _ (n2_ _ (n2_ _ (n8_ _ rfl))));show _∧_
 rw [n2,n3,n4] at m5;rw [n1,n2] at m3;rw [n3] at m4;rw [n1] at m2;rw [n4];exact ⟨⟨_,m5,rfl⟩,q _ m5 m3 m4 (.of ⟨_,m1,rfl,rfl⟩) (.of ⟨_,m2,rfl,rfl⟩) n5 fun c o e=>n2_ _ (n2_ _ (n2_ _ (n2_ _ (n2_ _ e))))⟩
end
noncomputable def Itz (k l:SK) (K:PySem.W.Frag) (a b:Addr):It :=
 ⟨fun i H=>∃ xs ys x y,k.Sq K H a xs∧l.Sq K H b ys∧xs[i]? = some x∧ys[i]? = some y,
  fun i H v H'=>∃ p x y,v=.ref p∧H p=none∧H'=upd H p (.tup [x,y])∧(∀ xs,k.Sq K H a xs→xs[i]? = some x)∧∀ ys,l.Sq K H b ys→ys[i]? = some y,
  fun i H=>∃ xs ys,k.Sq K H a xs∧l.Sq K H b ys∧(xs.length≤i∨ys.length≤i)⟩
theorem Zph {K:PySem.W.Frag} {es:List Expr} {k l:SK} {o i:Addr} (D:ZP z t o i j a b) :
 Turn P w K (.Tuple es x1 tp) (Itz k l K a b) [z,t,o,i,j] z (fun n h=>IsZip h z t o .none∧IsPair h t (.ref i) (.ref j)∧(∃ c d,IsPair h o c d)∧k.It h i a n∧l.It h j b n) where
 mem:=by simp
 obj:=fun n h st e he=>by
  obtain ⟨h1,h2,⟨c,d,h3⟩,h4,h5⟩:=st;simp only [n12_,n13_,or_false] at he
  rcases he with rfl|rfl|rfl|rfl|rfl
  · exact ⟨_,h1,fun v q=>by cases (show Data.fields _=Data.cell v from q)⟩
  · exact ⟨_,h2,fun v q=>by cases (show Data.seq _ _=Data.cell v from q)⟩
  · exact ⟨_,h3,fun v q=>by cases (show Data.seq _ _=Data.cell v from q)⟩
  · obtain ⟨u,e,_,q⟩:=h4.ex;exact ⟨u,e,fun v r=>by rw [q] at r;cases r⟩
  · obtain ⟨u,e,_,q⟩:=h5.ex;exact ⟨u,e,fun v r=>by rw [q] at r;cases r⟩
 keep:=fun n h h' st f=>by
  obtain ⟨h1,h2,⟨c,d,h3⟩,h4,h5⟩:=st;exact ⟨f z (by simp) _ h1,f t (by simp) _ h2,⟨c,d,f o (by simp) _ h3⟩,h4.at fun u e=>f i (by simp) u e,h5.at fun u e=>f j (by simp) u e⟩
 item:=by
  intro X hP hw hK hc n pins s σ H E I hf st hg;subst hP hw hK;obtain ⟨h1,h2,⟨c,d,h3⟩,h4,h5⟩:=st;obtain ⟨xs,ys,x,y,q1,q2,hx,hy⟩:=hg;obtain ⟨us,ru,pu⟩:=q1.is I;obtain ⟨vs,rv,pv⟩:=q2.is I;obtain ⟨u,hu,ux⟩:=ru.get hx;obtain ⟨v,hv,vy⟩:=rv.get hy;have lt:∀ {e o'},s.heap.get? e=some o'→e≠s.z:=fun e=>n22_ (n11_ e);refine Zfd D h1 h2 h3 h4 h5 pu pv (x:=u) (y:=v) (by simpa using hu) (by simpa using hv) fun g r1 r2 r3 r4 r5 r6 r7=>?_;refine ⟨_,rfl,wpAny_letOwnedTupleGo_zip r1 fun g2 z2 s2=>?_⟩;have hp:H s.z=none:=I.hok.fresh (n7_ _);have T2:IsPair g2 s.z u v:=s2.extBut _ _ (Ne.symm (lt h1)) r5
  have I2:Inv X pins σ (upd H s.z (.tup [x,y])) { s with heap:=g2,toks:=s.toks }:=by
   refine I.turnNew (ch:=[z,o,i,j]) (fun e o' ne q=>?_) (fun e he=>hf e ?_) (n7_ _) ⟨z2_,[u,v],.cons ux (.cons vy .nil),⟨_,T2,rfl,_,rfl⟩⟩
   · simp only [n12_,n13_,or_false,not_or] at ne;exact s2.extBut _ _ ne.1 (r7 e o' ne.1 ne.2.1 ne.2.2.1 ne.2.2.2 q)
   · simp only [n12_,n13_,or_false] at he ⊢
     rcases he with q|q|q|q<;>simp [q]
  refine ⟨.ref s.z,_,I2,rfl,⟨_,x,y,rfl,hp,rfl,fun xs' q=>by rw [q.inj q1 I];exact hx,fun ys' q=>by rw [q.inj q2 I];exact hy⟩,⟨z2,?_,⟨u,v,s2.extBut _ _ D.oz r2⟩,r3.at fun u' e=>s2.extBut _ _ D.iz e,r4.at fun u' e=>s2.extBut _ _ D.jz e⟩,fun e he=>?_⟩
  · exact s2.extBut _ _ D.tz (r7 _ _ D.tz D.to D.ti D.tj h2)
  · have ne:e≠s.z:=by
     simp only [n12_,n13_,or_false] at he
     rcases he with rfl|rfl|rfl|rfl|rfl
     · exact lt h1
     · exact lt h2
     · exact lt h3
     · obtain ⟨_,q,_⟩:=h4.ex;exact lt q
     · obtain ⟨_,q,_⟩:=h5.ex;exact lt q
    rw [Zj ne];exact (hf e he).1
 done:=by
  intro X hP hw hK hc n pins s σ H E I hf st hg;subst hP hw hK;obtain ⟨h1,h2,⟨c,d,h3⟩,h4,h5⟩:=st;obtain ⟨xs,ys,q1,q2,hl⟩:=hg;obtain ⟨us,ru,pu⟩:=q1.is I;obtain ⟨vs,rv,pv⟩:=q2.is I;have e1:=ru.length;have e2:=rv.length;refine Zgu (I.ok.hd hc) D h1 h2 h3 h4 h5 pu pv ?_ fun g r=>⟨rfl,?_⟩
  · rcases hl with q|q
    · left;simp;omega
    · right;simp;omega
  · refine I.turnOnly (t':=s.toks) (ch:=[z,o,i,j]) (fun e o' ne q=>?_) (fun e he=>hf e ?_)
    · simp only [n12_,n13_,or_false,not_or] at ne;exact r e o' ne.1 ne.2.1 ne.2.2.1 ne.2.2.2 q
    · simp only [n12_,n13_,or_false] at he ⊢
      rcases he with q|q|q|q<;>simp [q]
 self:=fun _ _ _ _ _ st h=>wpAny_pyIter_zip st.1 h
theorem Zm9 {n:Addr} (la:a<n) (lb:b<n):ZP (n+4) (n+2) (n+3) n (n+1) a b:=by
 constructor<;>(intro h;have h':@Eq Nat _ _:=h;have la':@LT.lt Nat _ _ _:=la;have lb':@LT.lt Nat _ _ _:=lb;clear h la lb;omega)
theorem Zdh:bootBuiltins "zip" = some (.type "zip"):=by decide +kernel
section
variable {X:Cx} {es:List Expr} {x1:Nat} {tp:Pos}
def iZip (k l:SK) (K:PySem.W.Frag) (ta:TA):TI:=fun σ H R=>ta σ H fun vs H1=>∃ a b,vs=[.ref a,.ref b]∧(∃ xs,k.Sq K H1 a xs)∧(∃ ys,l.Sq K H1 b ys)∧R (Itz k l K a b) H1
theorem Inv.fps (I:Inv X pins σ H s) (h:∀ b∈fp,s.z≤b):∀ b∈fp,FpOk X pins H b:=fun b hb=>I.fpOk (h b hb) (I.hok.fresh (h b hb))
theorem Zqe (k l:SK) {a b:Expr} {p:Pos} (hg:Gl X "zip") (hm:X.mg "zip" = none) (ha:PA X [a,b] ta) (hs:starEach [a,b] X.env=[(false,eval a X.env),(false,eval b X.env)]:=by rfl) (hs2:starEach [b] X.env=[(false,eval b X.env)]:=by rfl) :
 PI X (.Tuple es x1 tp) (.Call (.Name "zip" p) [a,b] [] pos) (iZip k l X.K ta):=by
 intro pins s σ H R I h;refine Call_ (Zas I hg hm Zdh (n43_ (thn (ha pos pins s σ H _ I h) fun us s1 ⟨vs,H1,I1,r1,q1⟩=>?_) (by rw [hs,hs2]) (by rw [hs2];rfl)));obtain ⟨a,b,e,⟨xs,hx⟩,⟨ys,hy⟩,q⟩:=q1;subst e;cases r1 with
 | cons r rr =>
   cases rr with
   | cons r' rr =>
     cases rr
     cases r
     cases r'
     obtain ⟨us,ru,pu⟩:=hx.is I1;obtain ⟨ws,rw',pw⟩:=hy.is I1;have la:a<s1.z:=by obtain ⟨_,_,e,_⟩:=pu.ex;exact n11_ e
     have lb:b<s1.z:=by obtain ⟨_,_,e,_⟩:=pw.ex;exact n11_ e
     refine Zfa pu pw fun h1 m1 m2 m3 m4 m5 m6 m7=>wpAny_pyIter_zip m1 ?_;have I2:Inv X pins σ H1 { s1 with heap:=h1,toks:=s1.toks }:=I1.kept m7;refine ⟨_,_,_,_,H1,rfl,I2,Zph (z:=s1.z+4) (t:=s1.z+2) (o:=s1.z+3) (i:=s1.z) (j:=s1.z+1) (k:=k) (l:=l) (a:=a) (b:=b) ?_,⟨m1,m2,⟨_,_,m3⟩,m4,m5⟩,?_,q⟩
     · exact Zm9 la lb
     · have f1:=I1.fps (fp:=[s1.z+4,s1.z+2,s1.z+3,s1.z,s1.z+1]) (by
        intro e he;simp only [n12_,n13_,or_false] at he
        rcases he with rfl|rfl|rfl|rfl|rfl<;>omega)
       exact f1
end
def Ite (k:SK) (K:PySem.W.Frag) (a:Addr):It :=
 ⟨fun i H=>∃ xs x,k.Sq K H a xs∧xs[i]? = some x,
  fun i H v H'=>∃ p x,v=.ref p∧H p=none∧H'=upd H p (.tup [.int i,x])∧∀ xs,k.Sq K H a xs→xs[i]? = some x,
  fun i H=>∃ xs,k.Sq K H a xs∧xs.length=i⟩
theorem SK.draws {k:SK} (hh:A.handled=none) (it a:Addr) (ne:a≠it) (vs:Array Value):Draws prog w A it [it,a] vs.size (fun i v=>vs[i]? = some v) (fun i h=>k.It h it a i∧k.Is h a vs) where
 live:=fun _ _ st=>let ⟨o,e,_⟩:=st.1.ex;⟨o,e⟩
 frame:=fun _ _ _ st f=>⟨st.1.at fun o e=>f it (by simp) o e,st.2.at fun o e=>f a (by simp) o e⟩
 item:=fun i s Q E hi st q=>SK.draw st.1 st.2 (x:=vs[i]) (by simp [hi]) fun h1 r1 r2=>q _ h1 s.toks (by simp [hi]) ⟨r1,st.2.at fun o e=>r2.extBut _ _ ne e⟩ r2
 done:=fun s Q E st q=>SK.dry hh st.1 st.2 (by simp) q
theorem Zlr {K:PySem.W.Frag} {es:List Expr} {k:SK} (n1:e≠it) (n2:a≠e) (n3:a≠it) :
 Turn P w K (.Tuple es x1 tp) (Ite k K a) [e,it] e (fun n h=>(∃ old,IsEnum h e it n old)∧k.It h it a n) where
 mem:=by simp
 obj:=fun n h st b hb=>by
  obtain ⟨⟨old,h1⟩,h2⟩:=st;simp only [n12_,n13_,or_false] at hb
  rcases hb with rfl|rfl
  · exact ⟨_,h1,fun v q=>by cases (show Data.fields _=Data.cell v from q)⟩
  · obtain ⟨u,e,_,q⟩:=h2.ex;exact ⟨u,e,fun v r=>by rw [q] at r;cases r⟩
 keep:=fun n h h' st f=>by
  obtain ⟨⟨old,h1⟩,h2⟩:=st;exact ⟨⟨old,f e (by simp) _ h1⟩,h2.at fun u q=>f it (by simp) u q⟩
 item:=by
  intro X hP hw hK hc n pins s σ H E I hf st hg;subst hP hw hK;obtain ⟨⟨old,h1⟩,h2⟩:=st;obtain ⟨xs,x,q1,hx⟩:=hg;obtain ⟨us,ru,pu⟩:=q1.is I;obtain ⟨u,hu,ux⟩:=ru.get hx;have lt:∀ {b o'},s.heap.get? b=some o'→b≠s.z:=fun e=>n22_ (n11_ e);have hlen:n<us.toArray.size:=by have:=(n19_.mp hu).1;simpa using this
  refine wpAny_pyNext_enum_itemD (SK.draws (k:=k) (show X.A.in1.handled=none from I.ok.hd hc) it a n3 us.toArray) h1 ⟨h2,pu⟩ hlen n1 (by simp [n1,n2.symm]) fun v g tk hv r1 r2 r3 r4 r5=>?_
  have ev:v=u:=by
   have:us[n]? = some v:=by simpa using hv
   rw [hu] at this;exact (Option.some.inj this).symm
  subst ev;refine ⟨_,rfl,wpAny_letOwnedTupleGo_enum r1 fun g2 z2 s2=>?_⟩;have hp:H s.z=none:=I.hok.fresh (n7_ _);have T2:g2.get? s.z=some { cls:=.type "tuple",data:=.seq #[.int n tk,v] }:=s2.extBut _ _ (Ne.symm (lt h1)) r3
  have I2:Inv X pins σ (upd H s.z (.tup [.int n,x])) { s with heap:=g2,toks:=tk+1 }:=by
   refine I.turnNew (ch:=[e,it]) (fun b o' ne q=>?_) (fun b hb=>hf b hb) (n7_ _) ⟨z2_,[.int n tk,v],.cons ⟨tk,rfl⟩ (.cons ux .nil),⟨_,T2,rfl,_,rfl⟩⟩;simp only [n12_,n13_,or_false,not_or] at ne;exact s2.extBut _ _ ne.1 (r5 b o' ne.1 ne.2 q)
  refine ⟨.ref s.z,_,I2,rfl,⟨_,x,rfl,hp,rfl,fun xs' q=>by rw [q.inj q1 I];exact hx⟩,⟨⟨v,by simpa using z2⟩,r2.1.at fun u' q=>s2.extBut _ _ n1.symm q⟩,fun b hb=>?_⟩
  have ne:b≠s.z:=by
   simp only [n12_,n13_,or_false] at hb
   rcases hb with rfl|rfl
   · exact lt h1
   · obtain ⟨_,q,_⟩:=h2.ex;exact lt q
  rw [Zj ne];exact (hf b hb).1
 done:=by
  intro X hP hw hK hc n pins s σ H E I hf st hg;subst hP hw hK;obtain ⟨⟨old,h1⟩,h2⟩:=st;obtain ⟨xs,q1,hl⟩:=hg;obtain ⟨us,ru,pu⟩:=q1.is I;have e1:=ru.length;have en:us.toArray.size=n:=by rw [n9_];omega
  subst en;have D:=SK.draws (prog:=X.prog) (w:=X.w) (k:=k) (show X.A.in1.handled=none from I.ok.hd hc) it a n3 us.toArray;refine wpAny_pyNext_enum_endD D h1 ⟨h2,pu⟩ fun g r=>⟨rfl,?_⟩;exact I.turnOnly (t':=s.toks) (ch:=[it]) (fun b o' ne q=>r b o' (by simpa using ne) q) (fun b hb=>hf b (by simp at hb;simp [hb]))
 self:=fun _ _ _ _ _ st h=>by obtain ⟨⟨old,h1⟩,_⟩:=st;exact wpAny_pyIter_enum h1 h
open AutoSeq1 (wpAny_loadPart')
abbrev Zaf (it:Addr):Obj:={ cls:=.type "enumerate",data:=.fields #[.none,.bool false,.ref it,rawInt 0,.none,.none] }
theorem Zkw (k:SK) (a:Addr) (vs:Array Value) (o:Obj):Meets (Builtin.«enumerate.__new__» ⟨[.type "enumerate",.ref a],[]⟩) (fun _ R s=>s.heap.get? a=some o∧k.Is s.heap a vs ∧
 R (.ok (.ret (.ref (s.heap.push (k.obj a)).objs.size))) { s with heap:=(s.heap.push (k.obj a)).push (Zaf s.z) }) :=
 .of_wp fun prog w A R s h=>by
  obtain ⟨hp,g,d,tk,os⟩:=s;obtain ⟨ho,hk,h⟩:=h;have hsub:=sub_enumerate;have r1:k.Is (Shared.heap ⟨hp,g,d,tk,os⟩) a vs:=hk
  wp_walk using wpAny_loadPart' ho
  refine wpAny_stack_any fun st=>n3_ ?_;split
  · rename_i c _ _ _ _ _
    cases (c == Value.type "enumerate")
    · (wp_walk using wpAny_loadPart' ho,SK.iter r1);exact ⟨_,rfl,h⟩
    · (wp_walk using wpAny_loadPart' ho,SK.iter r1);exact ⟨_,rfl,h⟩
  · (wp_walk using wpAny_loadPart' ho,SK.iter r1);exact ⟨_,rfl,h⟩
section
variable {prog:Program} {w:World} {A:Around} {E:Value→Shared→Prop} {s:Shared} {k:SK}
theorem Zlg {vs:Array Value} (ha:k.Is s.heap a vs)
 (q:∀ h1,IsEnum h1 (s.z+1) s.z 0 .none→k.It h1 s.z a 0→(∀ b o,s.heap.get? b=some o→h1.get? b=some o)→Q (.ref (s.z+1)) { s with heap:=h1 }) :
 wpAny (model prog w) A (call (.type "enumerate") [.ref a]) Q E s:=by
 obtain ⟨o,n,e,d⟩:=ha.ex;refine callType_new F.called_enumerate (by decide) (F.typeCall_enumerate_1 _) (F.newCall_enumerate_1 _) (fun obj=>F.args_object_init_2 obj _) F.entry_enumerate_new (Zkw k a vs o) ⟨e,ha,?_⟩;have n1:(s.heap.push (k.obj a)).objs.size=s.z+1:=n54_ ..;have m2:((s.heap.push (k.obj a)).push (Zaf s.z)).get? (s.heap.push (k.obj a)).objs.size=some (Zaf s.z):=n8_ _ rfl;have m1:((s.heap.push (k.obj a)).push (Zaf s.z)).get? s.z=some (k.obj a):=n2_ _ (n8_ _ rfl);show _∧_
 rw [n1] at m2;rw [n1];exact ⟨⟨_,m2,rfl⟩,q _ m2 (.of ⟨_,m1,rfl,rfl⟩) fun b o' r=>n2_ _ (n2_ _ r)⟩
end
theorem Zef:bootBuiltins "enumerate" = some (.type "enumerate"):=by decide +kernel
section
variable {X:Cx} {es:List Expr} {x1:Nat} {tp:Pos}
def Zvj (k:SK) (K:PySem.W.Frag) (ta:TA):TI:=fun σ H R=>ta σ H fun vs H1=>∃ a,vs=[.ref a]∧(∃ xs,k.Sq K H1 a xs)∧R (Ite k K a) H1
theorem ne3 {n:Addr} (la:a<n):n+1≠n∧a≠n+1∧a≠n:=by
 have la':@LT.lt Nat _ a n:=la;refine ⟨fun h=>?_,fun h=>?_,fun h=>?_⟩<;>(have h':@Eq Nat _ _:=h;clear h la;omega)
theorem Ze4 (k:SK) {a:Expr} {ta:TA} {p pos:Pos} (hg:Gl X "enumerate") (hm:X.mg "enumerate" = none) (ha:PA X [a] ta) (hs:starEach [a] X.env=[(false,eval a X.env)]:=by rfl) :
 PI X (.Tuple es x1 tp) (.Call (.Name "enumerate" p) [a] [] pos) (Zvj k X.K ta):=by
 intro pins s σ H R I h;refine Call_ (Zas I hg hm Zef (n43_ (thn (ha pos pins s σ H _ I h) fun us s1 ⟨vs,H1,I1,r1,q1⟩=>?_) hs rfl));obtain ⟨a,e,⟨xs,hx⟩,q⟩:=q1;subst e;cases r1 with
 | cons r rr =>
   cases rr
   cases r
   obtain ⟨us,ru,pu⟩:=hx.is I1;have la:a<s1.z:=by obtain ⟨_,_,e,_⟩:=pu.ex;exact n11_ e
   refine Zlg pu fun h1 m1 m4 m7=>wpAny_pyIter_enum m1 ?_;have I2:Inv X pins σ H1 { s1 with heap:=h1,toks:=s1.toks }:=I1.kept m7;obtain ⟨z1,z2,z3⟩:=ne3 la;refine ⟨_,_,_,_,H1,rfl,I2,Zlr (e:=s1.z+1) (it:=s1.z) (k:=k) (a:=a) z1 z2 z3,⟨⟨_,m1⟩,m4⟩,?_,q⟩
   exact I1.fps (fp:=[s1.z+1,s1.z]) (by
    intro e he;simp only [n12_,n13_,or_false] at he
    rcases he with rfl|rfl
    · exact Nat.le_succ _
    · exact n7_ _)
end
theorem Zjw {J:It} {σ0:St} {Q:VK} (Pv:Nat→St→Hp→Prop) (h0:Pv 0 σ0 (upd H D (.lst [])))
 (hx:∀ i σ H,i<n→Pv i σ H→J.go i H) (hz:∀ σ H,Pv n σ H→J.stop n H)
 (hs:∀ i x σ2 H2 H3,i<n→J.yld i H2 x H3→Pv i σ2 H2→g x σ2 H3 fun σ4 H4=>tt σ4 H4 fun b H5=>if b=true then te σ4 H5 fun y H6=>∃ ys,H6 D=some (.lst ys)∧ys.length<sizeLine ∧
   ∃ m',m'<n-i∧LcN n Pv (i+1) m' σ4 (upd H6 D (.lst (ys++[y]))) else ∃ m',m'<n-i∧LcN n Pv (i+1) m' σ4 H5)
 (hd:∀ σ2 H2,Pv n σ2 H2→Q (.ref D) H2):LcGo J g tt te σ0 H D Q:=by
 refine ⟨LcN n Pv,⟨_,n42_ _,rfl,h0⟩,?_⟩;rintro i m σ2 H2 ⟨hi,rfl,p⟩
 by_cases hlt:i<n
 · exact .inr ⟨hx i σ2 H2 hlt p,fun x H3 y=>hs i x σ2 H2 H3 hlt y p⟩
 · have e:i=n:=by omega
   subst e;exact .inl ⟨hz σ2 H2 p,hd σ2 H2 p⟩
theorem sq {t u:TS} {D:Ends} (h:∀ N:St→Hp→Prop,(∀ {σ H},u D σ H→N σ H)→t { D with nx:=N } σ H):tSeq t u D σ H:=h _ id
theorem sqE {t u:TS} {N B C:St→Hp→Prop} {R:VK} {x:V} (h:∀ (D:Ends) (M:St→Hp→Prop),(∀ {σ H},N σ H→D.nx σ H)→(∀ {σ H},u D σ H→M σ H)→t { D with nx:=M } (σ.set i (some x)) H):Yr i x σ H fun σ H=>tSeq t u ⟨N,R,B,C⟩ σ H:=h _ _ id id
theorem sqF {t:TS} {N B C:St→Hp→Prop} {R:VK} {x:V} (h:∀ D:Ends,(∀ {σ H},N σ H→D.nx σ H)→t D (σ.set i (some x)) H):Yr i x σ H fun σ H=>t ⟨N,R,B,C⟩ σ H:=h _ id
theorem Xy {J:It} {tb:TS} {D:Ends} (Pv:Nat→St→Hp→Prop) (h0:Pv 0 σ H)
 (hx:∀ i σ H,i<n→Pv i σ H→J.go i H) (hz:∀ σ H,Pv n σ H→J.stop n H)
 (hs:∀ i x σ H H',i<n→J.yld i H x H'→Pv i σ H→g x σ H' fun σ2 H2=>tb { D with nx:=Pv (i+1),ct:=Pv (i+1),bk:=D.nx } σ2 H2) (hd:∀ σ H,Pv n σ H→D.nx σ H) :
 ∃ W:Nat→Nat→St→Hp→Prop,(∃ m,W 0 m σ H)∧∀ i m σ H,W i m σ H →
   (J.stop i H∧D.nx σ H)∨(J.go i H∧∃ N:St→Hp→Prop,(∀ σ' H',N σ' H'→∃ m',m'<m∧W (i+1) m' σ' H')∧∀ x H',J.yld i H x H'→g x σ H' fun σ2 H2=>tb { D with nx:=N,ct:=N,bk:=D.nx } σ2 H2):=by
 refine ⟨fun i m σ H=>m=n-i∧i≤n∧Pv i σ H,⟨n,by simp,n42_ _,h0⟩,?_⟩;rintro i m σ H ⟨rfl,hi,p⟩
 by_cases hlt:i<n
 · exact .inr ⟨hx i σ H hlt p,Pv (i+1),fun σ' H' p'=>⟨n-(i+1),by omega,rfl,hlt,p'⟩,fun x H' y=>hs i x σ H H' hlt y p⟩
 · have e:i=n:=by omega
   subst e;exact .inl ⟨hz σ H p,hd σ H p⟩
end L2
namespace STb
open PySem
noncomputable def step (M:Nat) (q:Nat×Nat):Nat×Nat:=SetTable.leap M q.1 q.2
def nth (M:Nat):Nat→Nat×Nat→Nat×Nat
 | 0,q=>q
 | n+1,q=>nth M n (step M q)
theorem Zoa (M n:Nat) (q:Nat×Nat):nth M (n+1) q=step M (nth M n q):=by
 induction n generalizing q with
 | zero=>rfl
 | succ n ih=>exact ih (step M q)
theorem Zsl (M a b:Nat) (q:Nat×Nat):nth M (a+b) q=nth M b (nth M a q):=by
 induction a generalizing q with
 | zero=>rw [Nat.zero_add];rfl
 | succ a ih=>rw [Nat.succ_add];exact ih (step M q)
theorem Zsh (M n:Nat) (q:Nat×Nat):(nth M n q).2=q.2/32^n:=by
 induction n generalizing q with
 | zero=>simp [nth]
 | succ n ih =>
   show (nth M n (step M q)).2=_
   rw [ih];show q.2/32/32^n=_
   rw [Nat.div_div_eq_div_mul,Nat.pow_succ,Nat.mul_comm]
noncomputable def fz (M:Nat) (i:Nat):Nat:=(i*5+1) % (M+1)
def fzn (M:Nat):Nat→Nat→Nat
 | 0,i=>i
 | n+1,i=>fzn M n (fz M i)
theorem Zt9 (M n:Nat) (i:Nat):nth M n (i,0)=(fzn M n i,0):=by
 induction n generalizing i with
 | zero=>rfl
 | succ n ih =>
   show nth M n (step M (i,0))=_
   have e:step M (i,0)=(fz M i,0):=by
    unfold step SetTable.leap fz
    simp
   rw [e,ih];rfl
def masks (M:Nat):Prop:=M=7∨M=31∨M=127
def orb (M:Nat):List Nat:=(List.range (M+1)).map fun n=>fzn M n 0
theorem Ziq (M a b i:Nat):fzn M (a+b) i=fzn M b (fzn M a i):=by
 induction a generalizing i with
 | zero=>rw [Nat.zero_add];rfl
 | succ a ih=>rw [Nat.succ_add];exact ih (fz M i)
def good (M:Nat):Bool:=(List.range (M+1)).all (fun j=>(orb M).contains j)&&fzn M (M+1) 0 == 0
theorem Zvr:good 7=true:=by decide +kernel
theorem Ztc:good 31=true:=by decide +kernel
theorem Zrf:good 127=true:=by decide +kernel
theorem Zsn {M:Nat} (h:masks M):good M=true:=by
 rcases h with rfl|rfl|rfl
 · exact Zvr
 · exact Ztc
 · exact Zrf
theorem Zvn {M i j:Nat} (h:masks M) (hi:i≤M) (hj:j≤M):∃ n,n≤M∧fzn M n i=j:=by
 have g:=Zsn h;unfold good at g;rw [n30_,n32_] at g;obtain ⟨g1,g2⟩:=g;have g2':fzn M (M+1) 0=0:=by simpa using g2
 have mem:∀ j,j≤M→∃ a,a≤M∧fzn M a 0=j:=fun j hj=>by
  have:=g1 j (by simpa using Nat.lt_succ_of_le hj)
  have:j∈orb M:=by simpa using this
  unfold orb at this;obtain ⟨a,ha,e⟩:=n40_.mp this;exact ⟨a,Nat.le_of_lt_succ (n34_.mp ha),e⟩
 obtain ⟨a,ha,ea⟩:=mem i hi;obtain ⟨b,hb,eb⟩:=mem j hj
 by_cases hab:a≤b
 · refine ⟨b-a,by omega,?_⟩;rw [← ea,← Ziq,show a+(b-a)=b by omega];exact eb
 · refine ⟨M+1-a+b,by omega,?_⟩;rw [← ea,← Ziq,show a+(M+1-a+b)=(M+1)+b by omega,Ziq,g2'];exact eb
theorem Zr1 (M:Nat) (q:Nat×Nat):(step M q).1≤M:=Nat.le_of_lt_succ (Nat.mod_lt _ (Nat.succ_pos _))
theorem Ztn {M n:Nat} {q:Nat×Nat} (h:q.1≤M):(nth M n q).1≤M:=by
 cases n with
 | zero=>exact h
 | succ n=>rw [Zoa];exact Zr1 M _
theorem Zto {M i p j:Nat} (h:masks M) (hi:i≤M) (hp:p<2^64) (hj:j≤M):∃ n,n≤M+13∧(nth M n (i,p)).1=j:=by
 have z:(nth M 13 (i,p)).2=0:=by
  rw [Zsh];refine Nat.div_eq_of_lt (n14_ hp ?_);decide
 have e:nth M 13 (i,p)=((nth M 13 (i,p)).1,0):=by rw [← z]
 obtain ⟨n,hn,en⟩:=Zvn h (Ztn (n:=13) (q:=(i,p)) hi) hj;refine ⟨13+n,by omega,?_⟩;rw [Zsl,e,Zt9];exact en
theorem Zns (h:Int):SetTable.bits h<2^64:=by
 unfold SetTable.bits;have h1:(0:Int)≤h % 2^64:=Int.emod_nonneg _ (by decide);have h2:h % 2^64<2^64:=Int.emod_lt_of_pos _ (by decide);omega
theorem Zky {t:SetTable} {j:Nat} (hd:t.dummies=#[]) (hj:j∉t.place.toList):t.slot j=.empty:=by
 unfold SetTable.slot
 have h1:(t.place[SetTable.below t.place j]? == some j)=false:=by
  rw [beq_eq_false_iff_ne];intro e;exact hj (by simpa using Array.mem_of_getElem? e)
 have h2:SetTable.has t.dummies j=false:=by
  rw [hd];unfold SetTable.has
  simp
 simp only [h1,h2];rfl
theorem Zk7 {t:SetTable} {j:Nat} (hd:t.dummies=#[]):t.slot j=.empty∨∃ i,t.slot j=.live i∧t.place[i]? = some j:=by
 by_cases h:t.place[SetTable.below t.place j]? = some j
 · refine .inr ⟨_,?_,h⟩;unfold SetTable.slot;simp only [h,beq_self_eq_true,if_true]
 · left
   have h1:(t.place[SetTable.below t.place j]? == some j)=false:=beq_eq_false_iff_ne.mpr h
   have h2:SetTable.has t.dummies j=false:=by
    rw [hd];unfold SetTable.has
    simp
   unfold SetTable.slot;simp only [h1,h2];rfl
theorem Zif (l:List Nat) (n:Nat) (h:l.length<n):∃ j,j<n∧j∉l:=by
 induction n generalizing l with
 | zero=>omega
 | succ n ih =>
   by_cases hm:n∈l
   · obtain ⟨j,hj,hl⟩:=ih (l.filter (·≠n)) (by
      have:(l.filter (·≠n)).length<l.length:=by
       refine List.length_filter_lt_length_iff_exists.mpr ⟨n,hm,by simp⟩
      omega)
     refine ⟨j,by omega,fun z=>hl ?_⟩;rw [List.mem_filter];exact ⟨z,by simp;omega⟩
   · exact ⟨n,Nat.lt_succ_self n,hm⟩
noncomputable def adv (t:SetTable):Nat→SetTable.Probe→SetTable.Probe
 | 0,p=>p
 | n+1,p=>adv t n (t.advance p)
theorem Zri (t:SetTable) (a b:Nat) (p:SetTable.Probe):adv t (a+b) p=adv t b (adv t a p):=by
 induction a generalizing p with
 | zero=>rw [Nat.zero_add];rfl
 | succ a ih=>rw [Nat.succ_add];exact ih (t.advance p)
noncomputable def start (t:SetTable) (q:Nat×Nat) (d:Option Nat):SetTable.Probe:={ j:=q.1,more:=SetTable.runEnd t.mask q.1-q.1,i:=q.1,perturb:=q.2,dummy:=d }
theorem Zs6 (M i:Nat):SetTable.runEnd M i-i≤9:=by
 unfold SetTable.runEnd;split<;>omega
theorem Znv (t:SetTable):∀ (k:Nat) (p:SetTable.Probe),p.more=k→adv t (k+1) p=start t (step t.mask (p.i,p.perturb)) p.dummy
 | 0,p,h=>by
   show t.advance p=_
   unfold SetTable.advance;rw [if_neg (by omega)];rfl
 | k+1,p,h=>by
   show adv t (k+1) (t.advance p)=_
   have e:t.advance p={ p with j:=p.j+1,more:=p.more-1 }:=by
    unfold SetTable.advance;rw [if_pos (by omega)]
   rw [e]
   have:=Znv t k { p with j:=p.j+1,more:=p.more-1 } (by show p.more-1=k;omega)
   rw [this]
theorem Zll (t:SetTable) (n:Nat) (q:Nat×Nat) (d:Option Nat):∃ m,m≤10*n∧adv t m (start t q d)=start t (nth t.mask n q) d:=by
 induction n generalizing q with
 | zero=>exact ⟨0,n7_ _,rfl⟩
 | succ n ih =>
   obtain ⟨m,hm,e⟩:=ih (step t.mask q);refine ⟨(SetTable.runEnd t.mask q.1-q.1)+1+m,?_,?_⟩
   · have:=Zs6 t.mask q.1;omega
   · rw [Zri,Znv t (SetTable.runEnd t.mask q.1-q.1) (start t q d) rfl];exact e
def Near (t:SetTable) (n:Nat) (p:SetTable.Probe):Prop:=∃ m,m≤n∧t.slot (adv t m p).j=.empty
theorem near_start {t:SetTable} {h:Int} (hm:masks t.mask) (hd:t.dummies=#[]) (hl:t.place.size<t.mask+1):Near t (10*(t.mask+13)) (t.probeStart h):=by
 obtain ⟨j,hj,hn⟩:=Zif t.place.toList (t.mask+1) (by simpa using hl);have hi:SetTable.bits h % (t.mask+1)≤t.mask:=Nat.le_of_lt_succ (Nat.mod_lt _ (Nat.succ_pos _));obtain ⟨n,hn2,e⟩:=Zto hm hi (Zns h) (Nat.le_of_lt_succ hj);obtain ⟨m,hm2,e2⟩:=Zll t n (SetTable.bits h % (t.mask+1),SetTable.bits h) none;refine ⟨m,by omega,?_⟩
 have:t.probeStart h=start t (SetTable.bits h % (t.mask+1),SetTable.bits h) none:=rfl
 rw [this,e2];show t.slot (nth t.mask n _).1=.empty
 rw [e];exact Zky hd hn
theorem Zgg (t:SetTable):∀ (n:Nat) (p:SetTable.Probe),(adv t n p).dummy=p.dummy
 | 0,_=>rfl
 | n+1,p=>by
   show (adv t n (t.advance p)).dummy=_
   rw [Zgg t n];unfold SetTable.advance;split<;>rfl
theorem go_near {t:SetTable} {f:Nat→Int} {h:Int} (hd:t.dummies=#[]):∀ (n:Nat) (fuel:Nat) (p:SetTable.Probe),p.dummy=none→Near t n p→n<fuel →
 (∃ j,SetTable.probe.go t f h fuel p=some (.empty j none)∧t.slot j=.empty) ∨
 (∃ j i q,SetTable.probe.go t f h fuel p=some (.candidate j i q)∧t.slot j=.live i∧t.place[i]? = some j∧q.dummy=none∧∃ n',n'<n∧Near t n' q)
 | n,0,p,_,_,hf=>by omega
 | n,fuel+1,p,hp,⟨m,hm,e⟩,hf=>by
   rcases Zk7 (j:=p.j) hd with hs|⟨i,hs,hi⟩
   · left
     refine ⟨p.j,?_,hs⟩;unfold SetTable.probe.go;rw [hs,hp]
   · have hm0:m≠0:=by
      rintro rfl
      have:t.slot p.j=.empty:=e
      rw [hs] at this;cases this
     obtain ⟨k,rfl⟩:∃ k,m=k+1:=⟨m-1,by omega⟩;have e':t.slot (adv t k (t.advance p)).j=.empty:=e
     have hp':(t.advance p).dummy=none:=by
      have:=Zgg t 1 p
      exact this.trans hp
     by_cases hc:(f i == h)=true
     · right
       refine ⟨p.j,i,t.advance p,?_,hs,hi,hp',n-1,by omega,k,by omega,e'⟩;unfold SetTable.probe.go;rw [hs];simp only [hc,if_true]
     · have:=go_near (f:=f) (h:=h) hd (n-1) fuel (t.advance p) hp' ⟨k,by omega,e'⟩ (by omega)
       have eq:SetTable.probe.go t f h (fuel+1) p=SetTable.probe.go t f h fuel (t.advance p):=by
        conv=>lhs;unfold SetTable.probe.go
        rw [hs];simp only [hc,if_false];rfl
       rw [eq]
       rcases this with r|⟨j,i',q,r1,r2,r3,r4,n',r5,r6⟩
       · exact .inl r
       · exact .inr ⟨j,i',q,r1,r2,r3,r4,n',by omega,r6⟩
theorem Zg1 {M:Nat} {owner:Array (Option Nat)}:∀ (n fuel:Nat) (q:Nat×Nat),(∃ m,m≤n∧(owner.getD (nth M m q).1 (some 0)).isNone=true)→n<fuel →
 ∃ j,SetTable.layClean.free M owner fuel q.1 q.2=some j∧(owner.getD j (some 0)).isNone=true
 | n,0,_,_,hf=>by omega
 | n,fuel+1,q,⟨m,hm,e⟩,hf=>by
   unfold SetTable.layClean.free;cases hfi:(List.range (SetTable.runEnd M q.1+1-q.1)).find? fun k=>(owner.getD (q.1+k) (some 0)).isNone with
   | some k =>
     refine ⟨q.1+k,rfl,?_⟩;exact (List.find?_some (p:=fun k=>(owner.getD (q.1+k) (some 0)).isNone) hfi)
   | none =>
     have hm0:m≠0:=by
      rintro rfl
      have e0:(owner.getD q.1 (some 0)).isNone=true:=e
      have:=List.find?_eq_none.mp hfi 0 (by
       rw [n34_];unfold SetTable.runEnd;split<;>omega)
      rw [Nat.add_zero] at this;exact this e0
     obtain ⟨k,rfl⟩:∃ k,m=k+1:=⟨m-1,by omega⟩;exact Zg1 (n-1) fuel (step M q) ⟨k,by omega,e⟩ (by omega)
noncomputable def cnt (owner:Array (Option Nat)):Nat:=owner.toList.countP (·.isSome)
structure Own (M n:Nat) (owner:Array (Option Nat)):Prop where
 size:owner.size=M+1
 cnt:cnt owner=n
 lt:∀ (j k:Nat),owner[j]? = some (some k)→k<n
theorem Zar {α:Type} (p:α→Bool):∀ (l:List α),l.countP p<l.length→∃ (j:Nat) (x:α),l[j]? = some x∧p x=false
 | [],h=>by simp at h
 | x :: l,h=>by
   by_cases hx:p x=true
   · rw [List.countP_cons,if_pos hx,n15_] at h;obtain ⟨j,y,e,hy⟩:=Zar p l (by omega);exact ⟨j+1,y,by simpa using e,hy⟩
   · exact ⟨0,x,rfl,by simpa using hx⟩
theorem Zeg {α:Type} (p:α→Bool):∀ (l:List α) (j:Nat) (x y:α),l[j]? = some x→p x=false→p y=true→(l.set j y).countP p=l.countP p+1
 | [],j,x,y,h,_,_=>by simp at h
 | z :: l,0,x,y,h,hx,hy=>by
   have:z=x:=by simpa using h
   subst this;simp [List.countP_cons,hx,hy]
 | z :: l,j+1,x,y,h,hx,hy=>by
   have:=Zeg p l j x y (by simpa using h) hx hy
   simp only [List.set_cons_succ,List.countP_cons,this];omega
theorem Own.free {M n:Nat} {owner:Array (Option Nat)} (o:Own M n owner) (hm:masks M) (hn:n<M+1) (h:Int):∃ j,SetTable.layClean.free M owner (SetTable.turns M) (SetTable.bits h % (M+1)) (SetTable.bits h)=some j∧owner[j]? = some none:=by
 obtain ⟨j,x,e,hx⟩:=Zar (fun x:Option Nat=>x.isSome) owner.toList (by
  have:owner.toList.countP (fun x:Option Nat=>x.isSome)=n:=o.cnt
  rw [this,Array.length_toList,o.size];exact hn)
 have hj:j≤M:=by
  have:=(n19_.mp e).1
  rw [Array.length_toList,o.size] at this;omega
 have e':owner[j]? = some x:=by simpa using e
 obtain ⟨m,hm2,em⟩:=Zto hm (Nat.le_of_lt_succ (Nat.mod_lt (SetTable.bits h) (Nat.succ_pos M))) (Zns h) hj
 obtain ⟨j',r1,r2⟩:=Zg1 (M:=M) (owner:=owner) (M+13) (SetTable.turns M) (SetTable.bits h % (M+1),SetTable.bits h) ⟨m,hm2,by
  rw [em,Array.getD_eq_getD_getElem?,e'];cases x with
  | none=>rfl
  | some _=>cases hx⟩ (by unfold SetTable.turns;omega)
 refine ⟨j',r1,?_⟩;rw [Array.getD_eq_getD_getElem?] at r2;cases q:owner[j']? with
 | none=>rw [q] at r2;cases r2
 | some y =>
   rw [q] at r2;cases y with
   | none=>rfl
   | some _=>cases r2
theorem Own.put {M n:Nat} {owner:Array (Option Nat)} (o:Own M n owner) {j:Nat} (hj:owner[j]? = some none):Own M (n+1) (owner.setIfInBounds j (some n)) where
 size:=by rw [Array.size_setIfInBounds];exact o.size
 cnt:=by
  unfold STb.cnt;rw [Array.toList_setIfInBounds];rw [Zeg (fun x:Option Nat=>x.isSome) owner.toList j none (some n) (by simpa using hj) rfl rfl]
  have:owner.toList.countP (fun x:Option Nat=>x.isSome)=n:=o.cnt
  rw [this]
 lt:=fun i k e=>by
  rw [Array.getElem?_setIfInBounds] at e;split at e
  · split at e
    · have:n=k:=by simpa using e
      omega
    · cases e
  · have:=o.lt i k e;omega
noncomputable def Zdl (M:Nat) (acc:Option (Array (Option Nat)×Nat)) (h:Int):Option (Array (Option Nat)×Nat):=do
 let (owner,k) ← acc
 let j ← SetTable.layClean.free M owner (SetTable.turns M) (SetTable.bits h % (M+1)) (SetTable.bits h)
 pure (owner.setIfInBounds j (some k),k+1)
theorem Zja {M:Nat} (hm:masks M):∀ (hs:List Int) (n:Nat) (owner:Array (Option Nat)),Own M n owner→n+hs.length<M+1→∃ owner',hs.foldl (Zdl M) (some (owner,n))=some (owner',n+hs.length)∧Own M (n+hs.length) owner'
 | [],n,owner,o,_=>⟨owner,rfl,o⟩
 | h :: hs,n,owner,o,hl=>by
   rw [n15_] at hl;obtain ⟨j,r1,r2⟩:=o.free hm (by omega) h
   have e:Zdl M (some (owner,n)) h=some (owner.setIfInBounds j (some n),n+1):=by
    unfold Zdl;show (SetTable.layClean.free M owner (SetTable.turns M) (SetTable.bits h % (M+1)) (SetTable.bits h)).bind _=_
    rw [r1];rfl
   obtain ⟨owner',e2,o2⟩:=Zja hm hs (n+1) _ (o.put r2) (by omega);refine ⟨owner',?_,?_⟩
   · rw [List.foldl_cons,e,e2,n15_];congr 2;omega
   · rw [n15_,show n+(hs.length+1)=n+1+hs.length by omega];exact o2
theorem own0 (M:Nat):Own M 0 (Array.replicate (M+1) none) where
 size:=by simp
 cnt:=by
  unfold STb.cnt;rw [Array.toList_replicate,List.countP_replicate];rfl
 lt:=fun j k e=>by
  rw [Array.getElem?_replicate] at e;split at e<;>cases e
theorem Zis {M:Nat} (hm:masks M) (hs:Array Int) (hl:hs.size<M+1):∃ owner,SetTable.layClean M hs=some owner∧Own M hs.size owner:=by
 obtain ⟨owner,e,o⟩:=Zja hm hs.toList 0 _ (own0 M) (by simpa using hl);refine ⟨owner,?_,by simpa using o⟩;unfold SetTable.layClean;rw [← Array.foldl_toList]
 have:(hs.toList.foldl (Zdl M) (some (Array.replicate (M+1) none,0)))=some (owner,0+hs.toList.length):=e
 show (List.foldl (Zdl M) (some (Array.replicate (M+1) none,0)) hs.toList).map (·.1)=some owner
 rw [this];rfl
theorem Xp {α β:Type} (f:α→Option β):∀ l:List α,(l.filterMap f).length=l.countP (fun x=>(f x).isSome)
 | []=>rfl
 | x :: l=>by
   rw [List.countP_cons];cases h:f x with
   | none=>rw [List.filterMap_cons_none h,Xp f l];simp
   | some y=>rw [List.filterMap_cons_some h,n15_,Xp f l];simp
theorem Zkd {M n:Nat} {owner:Array (Option Nat)} (o:Own M n owner):((List.range (M+1)).filterMap fun j=>(owner.getD j none).map (j,·)).length=n:=by
 rw [Xp]
 have e:(List.range (M+1)).countP (fun j=>((owner.getD j none).map (j,·)).isSome)=(List.range owner.size).countP (fun j=>(owner.getD j none).isSome):=by
  rw [o.size];refine List.countP_congr fun j _=>?_;cases owner.getD j none<;>simp
 rw [e]
 have e2:owner.toList=(List.range owner.size).map (fun j=>owner.getD j none):=by
  refine List.ext_getElem (by simp) fun i h1 h2=>?_;have hi:i<owner.size:=by simpa using h1
  simp [Array.getD,hi]
 have:=o.cnt
 unfold STb.cnt at this;rw [e2,List.countP_map] at this;exact this
theorem Zsm {M n:Nat} {owner:Array (Option Nat)} (o:Own M n owner):∀ q∈((List.range (M+1)).filterMap fun j=>(owner.getD j none).map (j,·)),q.2<n:=fun q hq=>by
 obtain ⟨j,_,e⟩:=n62_.mp hq;cases h:owner.getD j none with
 | none=>rw [h] at e;cases e
 | some k =>
   rw [h] at e;have e':(j,k)=q:=by simpa using e
   rw [← e'];refine o.lt j k ?_;rw [Array.getD_eq_getD_getElem?] at h;cases g:owner[j]? with
   | none=>rw [g] at h;cases h
   | some y=>rw [g] at h;exact congrArg some h
theorem relaid_ok {t:SetTable} {hs:Array Int} {wanted M:Nat} (hM:SetTable.sizeAbove wanted-1=M) (hm:masks M) (hl:hs.size<M+1):∃ (t':SetTable) (order:Array Nat),t.relaid hs wanted=some (t',order) ∧
 t'.mask=M∧t'.dummies=#[]∧t'.place.size=hs.size∧order.size=hs.size∧∀ k∈order.toList,k<hs.size:=by
 obtain ⟨owner,e,o⟩:=Zis hm hs hl;unfold SetTable.relaid SetTable.laid;rw [hM,e];refine ⟨_,_,rfl,rfl,rfl,?_,?_,fun k hk=>?_⟩
 · simp only [n9_,n5_];exact Zkd o
 · simp only [n9_,n5_];exact Zkd o
 · have hk':k∈List.map (fun q:Nat×Nat=>q.2) ((List.range (M+1)).filterMap fun j=>(owner.getD j none).map (j,·)):=hk;obtain ⟨q,hq,rfl⟩:=n40_.mp hk';exact Zsm o q hq
theorem pick_size {α:Type} {es:Array α} {order:Array Nat} (h1:order.size=es.size) (h2:∀ k∈order.toList,k<es.size):(order.filterMap (es[·]?)).size=es.size∧∀ x∈(order.filterMap (es[·]?)).toList,x∈es.toList:=by
 constructor
 · rw [← Array.length_toList,Array.toList_filterMap,Xp,← h1,← Array.length_toList];rw [List.countP_eq_length];intro k hk
   have:k<es.size:=h2 k hk
   simp [this]
 · intro x hx;rw [Array.toList_filterMap] at hx;obtain ⟨k,_,e⟩:=n62_.mp hx;exact by simpa using Array.mem_of_getElem? e
theorem insertAt_size {α:Type} (xs:Array α) (p:Nat) (x:α):(SetTable.insertAt xs p x).size=xs.size+1:=by
 unfold SetTable.insertAt;simp only [Array.size_append,Array.size_push,Array.size_extract];omega
theorem insertAt_mem {α:Type} {xs:Array α} {p:Nat} {x y:α} (h:y∈(SetTable.insertAt xs p x).toList):y=x∨y∈xs.toList:=by
 unfold SetTable.insertAt at h;rw [Array.toList_append,Array.toList_push,List.mem_append,List.mem_append] at h
 rcases h with (h|h)|h
 · right;rw [Array.toList_extract] at h;exact List.mem_of_mem_drop (List.mem_of_mem_take h)
 · left;simpa using h
 · right;rw [Array.toList_extract] at h;exact List.mem_of_mem_drop (List.mem_of_mem_take h)
end STb
namespace L2
open PySem PySem.Spec PyProof.Rows
variable {S a it l t:Addr} {es:Array (Int×Value)} {items:Array Value} {X:Cx} {env:Env} {elt i0 i1 t0 t1:Expr} {h h':Heap} {H H2:Hp} {pins:List (Addr×Obj)} {fr:List (Option Nat)} {cl:List (Str×Addr)} {fp:List Addr} {N:List Str} {ep k n:Nat} {o:Obj} {p2 pos:Pos} {P prog:Program} {R:Result→Shared→Prop} {scope:Scope} {s3:Shared} {σ:St} {ta:TA} {te:TE} {wi:TI} {E Q:Value→Shared→Prop} {w:World}
section
variable {prog:Program} {w:World} {A:Around} {E:Value→Shared→Prop} {s:Shared} {K:Type} [DecidableEq K] {knd:KeyKind prog w K}
structure TupSet (knd:KeyKind prog w K) (h:Heap) (S:Addr) (ks:List (List K)) (es:Array (Int×Value)) (t:SetTable) (ep:Nat) (o:Obj):Prop where
 get:h.get? S=some o
 ex:o.ExactSet
 dat:o.data=.set es ep t
 mem:∀ e∈es.toList,∃ a k,e.2=.ref a∧k∈ks∧IsTupleKey knd h k a
 len:es.size=ks.length
 pl:t.place.size=es.size
 dum:t.dummies=#[]
 msk:STb.masks t.mask
 few:es.size*5<t.mask*3
theorem TupSet.fits {ks:List (List K)} {t:SetTable} (T:TupSet knd h S ks es t ep o):t.fits es.size=true:=by
 unfold SetTable.fits SetTable.fill;rw [T.dum,T.pl]
 have:=T.few
 have:es.size+(#[]:Array Nat).size≤t.mask:=by show es.size+0≤t.mask;omega
 simp
 show es.size≤t.mask
 exact this
theorem TupSet.way {ks:List (List K)} {t:SetTable} (T:TupSet knd h S ks es t ep o):t.gaveWay=false:=by
 unfold SetTable.gaveWay
 rcases T.msk with e|e|e<;>rw [e]<;>rfl
theorem Zdw {ks:List K} {Q:Bool→Shared→Prop} (hk:IsTupleKey knd s.heap ks a) (h:Q false s):wpAny (model prog w) A (ofAClassStatement (n+1) (.ref a)) Q E s:=by
 have hT:=hk.typeIs;obtain ⟨o,items,m,ho,_,hd,hi⟩:=hk;unfold ofAClassStatement;refine n0_ (wpAny_typeOf hT ?_);simp only [beq_self_eq_true,if_true];refine n0_ (n3_ ?_);simp only [Bool.not_true,n21_,if_false];refine n0_ (wpAny_seqItems ho hd ?_);refine n0_ ?_;show wpAny _ _ (forIn items _ _) _ _ s
 rw [← Array.forIn_toList];refine wpAny_forIn_list _ (fun rest r s'=>r.1=none∧s'=s∧∀ v∈rest,carriedByValue v=true) _ ?_ ?_ _ _ ⟨rfl,rfl,hi.byValue⟩
 · rintro v rest r s' ⟨hr,rfl,hall⟩
   have hv:=hall v n49_
   have e:ofAClassStatement n v=pure false:=by
    cases v<;>first|(unfold ofAClassStatement;rfl)|(cases hv)
   rw [e];refine n0_ (n3_ ?_);simp only [n21_,if_false];exact n3_ ⟨rfl,rfl,fun u hu'=>hall u (n17_ _ hu')⟩
 · rintro ⟨r1,r2⟩ s' ⟨hr,rfl,_⟩
   simp only at hr;subst hr;exact n3_ h
theorem Zsy {k:List K} {Q:Bool→Shared→Prop} (hk:IsTupleKey knd s.heap k a) (l:List Value) (hl:∀ y∈l,∃ b k',y=.ref b∧IsTupleKey knd s.heap k' b) (h:Q false s) :
 wpAny (model prog w) A (searchCouldBeSeen (.ref a) l) Q E s:=by
 unfold searchCouldBeSeen;refine n0_ ?_;refine wpAny_forIn_list _ (fun rest r s'=>r.1=none∧s'=s∧∀ y∈rest,∃ b k',y=.ref b∧IsTupleKey knd s.heap k' b) _ ?_ ?_ _ _ ⟨rfl,rfl,hl⟩
 · rintro y rest r s' ⟨hr,rfl,hall⟩
   obtain ⟨b,k',rfl,hb⟩:=hall y n49_;have rest':∀ y∈rest,∃ b k',y=.ref b∧IsTupleKey knd s'.heap k' b:=fun u hu=>hall u (n17_ _ hu);dsimp only;split
   · exact n3_ ⟨rfl,rfl,rest'⟩
   · refine n0_ (wpAny_eqIsQuiet_tuple hk ?_);simp only [Bool.not_true,n21_,if_false];refine n0_ (wpAny_eqIsQuiet_tuple hb ?_);simp only [Bool.not_true,n21_,if_false];refine n0_ (Zdw hk ?_);simp only [n21_,if_false];refine n0_ (Zdw hb ?_);simp only [n21_,if_false];exact n3_ ⟨rfl,rfl,rest'⟩
 · rintro ⟨r1,r2⟩ s' ⟨hr,rfl,_⟩
   simp only at hr;subst hr;exact n3_ h
theorem Zdg {F:Nat→Int} {t:SetTable} {h:Int} {p:SetTable.Probe} {met:Option SetTable.Met} (e:t.probe F h p=met) (hd:t.dummies=#[]) (hp:p.dummy=none) (hN:STb.Near t n p) (hn:n<10*SetTable.turns t.mask) :
 (∃ j,met=some (.empty j none)∧t.slot j=.empty)∨(∃ j i q,met=some (.candidate j i q)∧t.slot j=.live i∧t.place[i]? = some j∧q.dummy=none∧∃ n',n'<n∧STb.Near t n' q):=by
 subst e;exact STb.go_near hd n _ p hp hN hn
theorem Zs1 {ks:List (List K)} {t:SetTable} {k:List K} {h:Int} {Q:SetFound→Shared→Prop} (hu:A.units<cLine) (T:TupSet knd s.heap S ks es t ep o) (hk:IsTupleKey knd s.heap k a) (hn:k∉ks)
 (q:∀ j,t.slot j=.empty→Q (.free j false) s):∀ (n fuel:Nat) (stand:Option SetTable.Probe),n<fuel→n<10*SetTable.turns t.mask→(stand.getD (t.probeStart h)).dummy=none→STb.Near t n (stand.getD (t.probeStart h)) →
 wpAny (model prog w) A (setSearchFrom S (.ref a) h true fuel stand) Q E s:=by
 intro n
 induction n using Nat.strongRecOn with
 | ind n ih =>
   intro fuel stand hf hn2 hd hN;obtain ⟨f,rfl⟩:∃ f,fuel=f+1:=⟨fuel-1,by omega⟩;unfold setSearchFrom;refine n0_ (wpAny_setState_of T.get T.dat T.fits ?_);dsimp only;rw [T.way];simp only [n21_,if_false];split
   rotate_left
   · rename_i heq
     exact ((Zdg rfl T.dum hd hN hn2).elim (fun ⟨j,e,_⟩=>heq _ e) (fun ⟨j,i,p,e,_⟩=>heq _ e)).elim
   rename_i met heq
   rcases Zdg heq T.dum hd hN hn2 with ⟨j,e,hj⟩|⟨j,i,p,e,hs,hi,hp,n',hn',hN'⟩
   · cases e
     exact n3_ (q j hj)
   · cases e
     dsimp only;have hi2:i<es.size:=by rw [← T.pl];exact (Array.getElem?_eq_some_iff.mp hi).1
     obtain ⟨y,hy⟩:∃ y,es[i]? = some y:=⟨_,Array.getElem?_eq_getElem hi2⟩;obtain ⟨h0,y⟩:=y;obtain ⟨b,k',rfl,hk',hb⟩:=(by simpa using T.mem (h0,y) (by simpa using Array.mem_of_getElem? hy):∃ b k',y=.ref b∧k'∈ks∧IsTupleKey knd s.heap k' b)
     have core:wpAny (model prog w) A (do
      let some (_,y):=es[i]? | unsupported "internal:set-entry"
      let equal ← holding [y] (eqBool y (.ref a))
      let (es',_,t') ← setState S
      if true&&equal then return SetFound.there none
      let some same:=t'.sameMemory t.moves t.mask|unsupported "set.changed-during-lookup:is-the-new-block-at-the-old-address"
      let still ← match (if same then t'.slot j else .empty) with
       | .live i'=>match es'[i']? with
         | some (_,y')=>do pure (if ← isSame y' y then some i' else none)
         | none=>pure none
       | _=>pure none
      match still with
      | none=>rule "set.search.anew";setSearchFrom S (.ref a) h true f none
      | some i'=>if equal then return .there (some i') else setSearchFrom S (.ref a) h true f (some p)) Q E s:=by
      rw [hy];dsimp only;refine n0_ (n31_ (wpAny_eqBool_tuple hu hb hk ?_));have ne:decide (k'=k)=false:=n25_ (fun z=>hn (z ▸ hk'));rw [ne];refine n0_ (wpAny_setState_of T.get T.dat T.fits ?_);dsimp only;simp only [Bool.and_false,n21_,if_false];have sm:t.sameMemory t.moves t.mask=some true:=by unfold SetTable.sameMemory;simp
      rw [sm];dsimp only;simp only [if_true,hs,hy];refine n0_ (wpAny_isSame_ref_self ?_);simp only [if_true];refine n0_ (n3_ ?_);dsimp only;exact ih n' hn' f (some p) (by omega) (by omega) hp hN'
     by_cases hl:t.led=true
     · rw [hl];simp only [Bool.not_true,n21_,if_false];exact core
     · have hl':t.led=false:=by simpa using hl
       rw [hl'];simp only [Bool.not_false,if_true];refine n0_ (Zsy hk _ (fun y hy=>?_) ?_)
       · obtain ⟨z,hz,rfl⟩:=n40_.mp hy
         obtain ⟨b,k',e1,_,e3⟩:=T.mem z (by
          have hz':z∈es∧z.1=h:=by simpa using hz
          simpa using hz'.1)
         exact ⟨b,k',e1,e3⟩
       · simp only [n21_,if_false];exact core
end
section
variable {prog:Program} {w:World} {A:Around} {E:Value→Shared→Prop} {s:Shared} {K:Type} [DecidableEq K] {knd:KeyKind prog w K}
theorem Zij {ks:List K} {Q:Bool→Shared→Prop} (hk:IsTupleKey knd s.heap ks a) (h:∀ b,Q b s):wpAny (model prog w) A (hashByValue (n+1) (.ref a)) Q E s:=by
 have hT:=hk.typeIs;obtain ⟨o,items,m,ho,_,hd,hi⟩:=hk;unfold hashByValue;refine n0_ (wpAny_specialOf hT F.slot_tuple_hash.lookup ?_);dsimp only;refine n0_ (wpAny_seqItems ho hd ?_);refine n0_ ?_;show wpAny _ _ (forIn items _ _) _ _ s
 rw [← Array.forIn_toList];refine wpAny_forIn_list _ (fun rest r s'=>s'=s∧∀ v∈rest,carriedByValue v=true) _ ?_ ?_ _ _ ⟨rfl,hi.byValue⟩
 · rintro v rest r s' ⟨rfl,hall⟩
   have hv:=hall v n49_;have rest':∀ u∈rest,carriedByValue u=true:=fun u hu'=>hall u (n17_ _ hu')
   have e:∃ b,hashByValue n v=pure b:=by
    cases v<;>first|exact ⟨_,by unfold hashByValue;rfl⟩|(cases hv)
   obtain ⟨b,e⟩:=e;rw [e];refine n0_ (n3_ ?_);cases b
   · simp only [Bool.not_false,if_true];exact n3_ (n3_ (h _))
   · simp only [Bool.not_true,n21_,if_false];exact n3_ ⟨rfl,rest'⟩
 · rintro ⟨r1,r2⟩ s' ⟨rfl,_⟩
   cases r1 with
   | none=>exact n3_ (h _)
   | some b=>exact n3_ (h _)
theorem TupSet.store {ks':List (List K)} {es':Array (Int×Value)} {t t':SetTable} (get:h.get? S=some o) (ex:o.ExactSet) (dat:o.data=.set es ep t) (mem:∀ e∈es'.toList,∃ a k,e.2=.ref a∧k∈ks'∧IsTupleKey knd h k a)
 (len:es'.size=ks'.length) (pl:t'.place.size=es'.size) (dum:t'.dummies=#[]) (msk:STb.masks t'.mask) (few:es'.size*5<t'.mask*3) :
 TupSet knd (h.update S (Obj.putSet es' t')) S ks' es' t' (ep+1) { o with data:=.set es' (ep+1) t' }:=by
 have hg:(h.update S (Obj.putSet es' t')).get? S=some { o with data:=.set es' (ep+1) t' }:=by
  have:=n50_ (Obj.putSet es' t') get (by rw [putSet_of es' t' dat];rfl)
  rw [putSet_of es' t' dat] at this;exact this
 refine ⟨hg,ex,rfl,fun e he=>?_,len,pl,dum,msk,few⟩;obtain ⟨a,k,e1,e2,oa,items,n,e3,e4,e5,e6⟩:=mem e he
 have ne:a≠S:=by
  rintro rfl
  rw [get] at e3;cases e3;rw [dat] at e5;cases e5
 exact ⟨a,k,e1,e2,oa,items,n,((Heap.SameBut.update h S _).2 a ne).trans e3,e4,e5,e6⟩
theorem Zru {M:Nat} (hn:n≤30) (hm:STb.masks M) (h:n*5 ≥ M*3) (h2:(n-1)*5<M*3):STb.masks (SetTable.sizeAbove (SetTable.grown n)-1)∧n<SetTable.sizeAbove (SetTable.grown n)-1+1∧n*5<(SetTable.sizeAbove (SetTable.grown n)-1)*3∧¬ SetTable.sizeAbove (SetTable.grown n)>sizeLine:=by
 rcases hm with rfl|rfl|rfl
 · have:n=5:=by omega
   subst this;exact ⟨.inr (.inl (by decide +kernel)),by decide +kernel,by decide +kernel,by decide +kernel⟩
 · have:n=19:=by omega
   subst this;exact ⟨.inr (.inr (by decide +kernel)),by decide +kernel,by decide +kernel,by decide +kernel⟩
 · omega
theorem Zvh {ks:List (List K)} {t:SetTable} {Q:Unit→Shared→Prop}
 (get:s.heap.get? S=some o) (ex:o.ExactSet) (dat:o.data=.set es ep t) (mem:∀ e∈es.toList,∃ a k,e.2=.ref a∧k∈ks∧IsTupleKey knd s.heap k a) (len:es.size=ks.length) (pl:t.place.size=es.size) (dum:t.dummies=#[]) (msk:STb.masks t.mask)
 (hn:ks.length≤30) (full:es.size*5 ≥ t.mask*3) (h2:(es.size-1)*5<t.mask*3)
 (q:∀ h' es' t' ep' o',Heap.SameBut S s.heap h'→TupSet knd h' S ks es' t' ep' o'→Q () { s with heap:=h' }):wpAny (model prog w) A (setRelay S (SetTable.grown es.size)) Q E s:=by
 have fit:t.fits es.size=true:=by
  unfold SetTable.fits SetTable.fill;rw [dum,pl]
  simp
  show es.size≤t.mask
  rcases msk with e|e|e<;>rw [e] at h2 ⊢<;>omega
 obtain ⟨g1,g2,g3,g4⟩:=Zru (by omega) msk full h2;obtain ⟨t',order,e,r1,r2,r3,r4,r5⟩:=STb.relaid_ok (t:=t) (hs:=es.map (·.1)) (wanted:=SetTable.grown es.size) rfl g1 (by simpa using g2);have z:(es.map (·.1)).size=es.size:=by simp
 rw [z] at r3 r4 r5;obtain ⟨p1,p2⟩:=STb.pick_size r4 r5;unfold setRelay;refine n0_ (wpAny_setState_of get dat fit ?_);dsimp only;rw [if_neg g4];rw [e];have hb:((order.filterMap (es[·]?)).size != es.size)=false:=by rw [p1];simp
 refine n0_ ?_
 have red:wpAny (model prog w) A (if ((order.filterMap (es[·]?)).size != es.size)=true then (unsupported "internal:set-table-lost-an-element" : Sem (Array (Int×Value)×SetTable)) else pure (order.filterMap (es[·]?),t')) (fun r s'=>wpAny (model prog w) A (storeSet S r.1 r.2) Q E s') E s:=by
  rw [hb,if_neg (by decide)];refine n3_ ?_;refine wpAny_storeSet_of get dat (q _ _ _ _ _ (Heap.SameBut.update ..) (TupSet.store get ex dat (fun x hx=>mem x (p2 x hx)) (p1.trans len) (r3.trans p1.symm) r2 (by rw [r1];exact g1) (by rw [r1,p1];exact g3))) (by rw [p1,sizeLine_eq];omega)
 first
  | exact red
  | (refine n0_ ?_;exact red)
  | trace_state
theorem Zmk (t:SetTable) (j:Nat):(t.put j).1.place.size=t.place.size+1∧(t.dummies=#[]→(t.put j).1.dummies=#[])∧(t.put j).1.mask=t.mask:=by
 unfold SetTable.put;refine ⟨STb.insertAt_size _ _ _,fun hd=>?_,rfl⟩
 have h2:SetTable.has t.dummies j=false:=by
  rw [hd];unfold SetTable.has
  simp
 simp only [h2];exact hd
theorem Zlb {ks:List (List K)} {t:SetTable} {k:List K} {h:Int} {Q:Bool→Shared→Prop} (hu:A.units<cLine) (T:TupSet knd s.heap S ks es t ep o) (hk:IsTupleKey knd s.heap k a) (hn:k∉ks) (hl:ks.length<30)
 (q:∀ h' es' t' ep' o',Heap.SameBut S s.heap h'→TupSet knd h' S (k :: ks) es' t' ep' o'→Q true { s with heap:=h' }):wpAny (model prog w) A (setAddHashed S (.ref a) h) Q E s:=by
 unfold setAddHashed setAddHashedIn;refine n31_ (n0_ (wpAny_setState_of T.get T.dat T.fits ?_));dsimp only;rw [show byScan (.ref a) es=false from rfl];simp only [n21_,if_false];have few:=T.few;have lt:t.place.size<t.mask+1:=by rw [T.pl];omega
 refine n0_ (Zs1 hu T hk hn (fun j hj=>?_) (10*(t.mask+13)) 100000 none (by rcases T.msk with e|e|e<;>rw [e]<;>decide) (by unfold SetTable.turns;omega) rfl (STb.near_start T.msk T.dum lt));dsimp only;refine n0_ (wpAny_setState_of T.get T.dat T.fits ?_);dsimp only;obtain ⟨u1,u2,u3⟩:=Zmk t j;generalize hput:t.put j=tp at u1 u2 u3;obtain ⟨t1,p⟩:=tp;dsimp only at u1 u2 u3 ⊢;have u2:=u2 T.dum
 have mem1:∀ e∈(SetTable.insertAt es p (h,Value.ref a)).toList,∃ b k',e.2=.ref b∧k'∈k :: ks∧IsTupleKey knd s.heap k' b:=fun e he=>by
  rcases STb.insertAt_mem he with rfl|he
  · exact ⟨a,k,rfl,n49_,hk⟩
  · obtain ⟨b,k',e1,e2,e3⟩:=T.mem e he;exact ⟨b,k',e1,n17_ _ e2,e3⟩
 have sz1:(SetTable.insertAt es p (h,Value.ref a)).size=es.size+1:=STb.insertAt_size _ _ _
 have key:∀ t2:SetTable,t2.place=t1.place→t2.dummies=t1.dummies→t2.mask=t1.mask→wpAny (model prog w) A (do
  storeSet S (SetTable.insertAt es p (h,Value.ref a)) t2
  if (!false&&t2.tooFull)=true then setRelay S (SetTable.grown (es.size+1))
  return true) Q E s:=by
  intro t2 e1 e2 e3
  have full:t2.tooFull=decide ((es.size+1)*5 ≥ t.mask*3):=by
   unfold SetTable.tooFull SetTable.fill;rw [e1,e2,e3,u1,u2,u3,T.pl];rfl
  refine n0_ (wpAny_storeSet_of T.get T.dat ?_ (by rw [sz1,sizeLine_eq,T.len];omega))
  have hg:(s.heap.update S (Obj.putSet (SetTable.insertAt es p (h,Value.ref a)) t2)).get? S=some { o with data:=.set (SetTable.insertAt es p (h,Value.ref a)) (ep+1) t2 }:=by
   have:=n50_ (Obj.putSet (SetTable.insertAt es p (h,Value.ref a)) t2) T.get (by rw [putSet_of _ t2 T.dat];rfl)
   rw [putSet_of _ t2 T.dat] at this;exact this
  have sb:=Heap.SameBut.update s.heap S (Obj.putSet (SetTable.insertAt es p (h,Value.ref a)) t2)
  by_cases hf:(es.size+1)*5 ≥ t.mask*3
  · rw [full,n24_ hf];simp only [Bool.not_false,Bool.true_and,if_true]
    have mem2:∀ e∈(SetTable.insertAt es p (h,Value.ref a)).toList,∃ b k',e.2=.ref b∧k'∈k :: ks∧IsTupleKey knd (s.heap.update S (Obj.putSet (SetTable.insertAt es p (h,Value.ref a)) t2)) k' b:=fun e he=>by
     obtain ⟨b,k',f1,f2,ob,items,n,f3,f4,f5,f6⟩:=mem1 e he
     have ne:b≠S:=by
      rintro rfl
      rw [T.get] at f3;cases f3;rw [T.dat] at f5;cases f5
     exact ⟨b,k',f1,f2,ob,items,n,(sb.2 b ne).trans f3,f4,f5,f6⟩
    rw [show es.size+1=(SetTable.insertAt es p (h,Value.ref a)).size from sz1.symm];refine n0_ (Zvh (s:={ s with heap:=s.heap.update S (Obj.putSet (SetTable.insertAt es p (h,Value.ref a)) t2) }) hg T.ex rfl mem2 (by rw [sz1,T.len];rfl) (by rw [e1,u1,T.pl,sz1]) (by rw [e2];exact u2) (by rw [e3,u3];exact T.msk) (by simp;omega) (by rw [sz1,e3,u3];exact hf) (by rw [sz1,e3,u3];simpa using few) fun h' es' t' ep' o' r1 r2=>?_);exact n3_ (q h' es' t' ep' o' (sb.trans r1) r2)
  · rw [full,n25_ hf];simp only [Bool.not_false,Bool.true_and,n21_,if_false];have T2:=TupSet.store (es':=SetTable.insertAt es p (h,Value.ref a)) (t':=t2) (ks':=k :: ks) T.get T.ex T.dat mem1 (by rw [sz1,T.len];rfl) (by rw [e1,u1,T.pl,sz1]) (by rw [e2];exact u2) (by rw [e3,u3];exact T.msk) (by rw [sz1,e3,u3];omega);exact n3_ (q _ _ _ _ _ sb T2)
 cases hpl:t1.plain with
 | true =>
   simp only [if_true];refine n0_ (Zij hk fun b=>?_);cases b
   · exact key _ rfl rfl rfl
   · exact key _ rfl rfl rfl
 | false =>
   simp only [n21_,if_false];refine n0_ (n3_ ?_);exact key _ rfl rfl rfl
theorem Zmx {ks:List (List K)} {t:SetTable} {k:List K} {Q:Bool→Shared→Prop} (hu:A.units<cLine) (T:TupSet knd s.heap S ks es t ep o) (hk:IsTupleKey knd s.heap k a) (hn:k∉ks) (hl:ks.length<30)
 (q:∀ h' es' t' ep' o' tk,Heap.SameBut S s.heap h'→TupSet knd h' S (k :: ks) es' t' ep' o'→Q true { s with heap:=h',toks:=tk }):wpAny (model prog w) A (setAdd S (.ref a)) Q E s:=by
 unfold setAdd;refine n31_ (n0_ (wpAny_pyHash_tuple hu hk ?_));exact Zlb (s:={ s with toks:=s.toks+(k.length+1) }) hu T hk hn hl fun h' es' t' ep' o' r1 r2=>q h' es' t' ep' o' _ r1 r2
end
section
variable {prog:Program} {w:World} {A:Around} {s:Shared} {K:Type} [DecidableEq K] {knd:KeyKind prog w K}
def TupKeys (knd:KeyKind prog w K) (h:Heap) (items:Array Value) (kl:List (List K)):Prop:=∀ (j:Nat) (v:Value),items[j]? = some v→∃ a k,v=.ref a∧kl[j]? = some k∧IsTupleKey knd h k a
theorem TupKeys.keep {kl:List (List K)} {bad:List Addr} (t:TupKeys knd h items kl) (k:∀ b o,b∉bad→h.get? b=some o→h'.get? b=some o) (hb:∀ b∈bad,∀ o items n,h.get? b=some o→o.cls=.type "tuple" → o.data=.seq items n→False):TupKeys knd h' items kl:=fun j v e=>by
 obtain ⟨a,ke,e1,e2,o,its,n,e3,e4,e5,e6⟩:=t j v e;exact ⟨a,ke,e1,e2,o,its,n,k a o (fun z=>hb a z o its n e3 e4 e5) e3,e4,e5,e6⟩
theorem TupSet.kept {ks:List (List K)} {t:SetTable} {bad:List Addr} (T:TupSet knd h S ks es t ep o) (hS:S∉bad) (k:∀ b o,b∉bad→h.get? b=some o→h'.get? b=some o) (hb:∀ b∈bad,∀ o items n,h.get? b=some o→o.cls=.type "tuple" → o.data=.seq items n→False):TupSet knd h' S ks es t ep o :=
 ⟨k _ _ hS T.get,T.ex,T.dat,fun e he=>by
  obtain ⟨a,ke,e1,e2,o,its,n,e3,e4,e5,e6⟩:=T.mem e he;exact ⟨a,ke,e1,e2,o,its,n,k a o (fun z=>hb a z o its n e3 e4 e5) e3,e4,e5,e6⟩,T.len,T.pl,T.dum,T.msk,T.few⟩
theorem Zoy {I:Addr} {kl:List (List K)} (hh:A.in1.handled=none) (hu:A.in1.units<cLine) (hI:t≠I) (hSI:S≠I) (hSt:S≠t) (nd:kl.Nodup) (hl:kl.length=items.size) (h30:kl.length≤30) :
 ∀ (m i:Nat) (s:Shared) (es:Array (Int×Value)) (tb:SetTable) (ep:Nat) (o:Obj),items.size-i=m→i≤items.size→s.heap.IsTupleIter I t i→s.heap.IsTuple t items→TupKeys knd s.heap items kl→TupSet knd s.heap S (kl.take i).reverse es tb ep o →
   (∀ h' tk es' tb' ep' o',(∀ b u,b∉[S,I]→s.heap.get? b=some u→h'.get? b=some u)→TupSet knd h' S kl.reverse es' tb' ep' o'→R (.ok (.ret .none)) { s with heap:=h',toks:=tk }) →
   codeAny (model prog w) A (.builtin "set.update.loop" ⟨[.ref S,.ref I],[]⟩) R s:=by
 intro m
 induction m with
 | zero =>
   intro i s es tb ep o hm hi st ht tk T q;have e:i=items.size:=by omega
   subst e;refine codeAny_builtin F.entry_set_update_loop ?_;rw [Around.under_plainId F.plain_set_update_loop _];refine n0_ (m:=pyNext (.ref I)) (wpAny_pyNext_tuple_end hh st ht (by simp) fun h' k=>?_);obtain ⟨oi,gi,ci,di⟩:=st
   have T':TupSet knd h' S (kl.take items.size).reverse es tb ep o:=T.kept (bad:=[I]) (by simpa using hSI) (fun b u nb e=>k b u (by simpa using nb) e) (fun b hb u its n e c _=>by
    have:b=I:=by simpa using hb
    subst this;rw [gi] at e;cases e;rw [ci] at c;exact absurd c (by decide))
   rw [n52_ (by omega)] at T';exact n3_ (q h' s.toks es tb ep o (fun b u nb e=>k b u (fun z=>nb (by simp [z])) e) T')
 | succ m ih =>
   intro i s es tb ep o hm hi st ht tk T q;have hlt:i<items.size:=by omega
   refine codeAny_builtin F.entry_set_update_loop ?_;rw [Around.under_plainId F.plain_set_update_loop _];refine n0_ (m:=pyNext (.ref I)) (wpAny_pyNext_tuple_item st ht (x:=items[i]) (by simp [hlt]) fun h1 st1 sb1=>?_);obtain ⟨oi,gi,ci,di⟩:=st
   have badI:∀ b∈[I],∀ (u:Obj) (its:Array Value) (n:Nat),s.heap.get? b=some u→u.cls=.type "tuple" → u.data=.seq its n→False:=fun b hb u its n e c _=>by
    have:b=I:=by simpa using hb
    subst this;rw [gi] at e;cases e;rw [ci] at c;exact absurd c (by decide)
   have k1:∀ b u,b∉[I]→s.heap.get? b=some u→h1.get? b=some u:=fun b u nb e=>sb1.extBut b u (by simpa using nb) e;have T1:=T.kept (by simpa using hSI) k1 badI;have tk1:=tk.keep k1 badI;have ht1:h1.IsTuple t items:=ht.extBut sb1.extBut hI;obtain ⟨a,k,ea,ek,hk⟩:=tk1 i items[i] (by simp [hlt]);rw [ea];refine n0_ (m:=holding [Value.ref a] (setAdd S (.ref a))) (n31_ ?_);have hkl:i<kl.length:=by omega
   have ek':kl[i]=k:=by rw [n1_ hkl] at ek;exact Option.some.inj ek
   have hn:k∉(kl.take i).reverse:=by
    rw [List.mem_reverse,← ek'];intro z;obtain ⟨j,hj,e⟩:=n37_ z;rw [List.getElem_take] at e;have hj':j<i:=by rw [n47_] at hj;omega
    have:=(n66_ nd).mp e
    omega
   refine Zmx (s:={ s with heap:=h1 }) hu T1 hk hn (by rw [List.length_reverse,n47_];omega) fun h2 es' tb' ep' o' tk' sb2 T2=>?_;have oS:=T1.get
   have badS:∀ b∈[S],∀ (u:Obj) (its:Array Value) (n:Nat),h1.get? b=some u→u.cls=.type "tuple" → u.data=.seq its n→False:=fun b hb u its n e _ d=>by
    have:b=S:=by simpa using hb
    subst this;rw [oS] at e;cases e;rw [T1.dat] at d;cases d
   have k2:∀ b u,b∉[S]→h1.get? b=some u→h2.get? b=some u:=fun b u nb e=>(sb2.2 b (by simpa using nb)).trans e
   have T2':TupSet knd h2 S (kl.take (i+1)).reverse es' tb' ep' o':=by
    have:(kl.take (i+1)).reverse=k :: (kl.take i).reverse:=by
     rw [List.take_succ_eq_append_getElem hkl,List.reverse_append,ek'];rfl
    rw [this];exact T2
   refine n3_ ⟨plainId_quiet F.plain_set_update_loop _,ih (i+1) { s with heap:=h2,toks:=tk' } es' tb' ep' o' (by omega) hlt (st1.extBut sb2.extBut (Ne.symm hSI)) (ht1.extBut sb2.extBut (Ne.symm hSt)) (tk1.keep k2 badS) T2' fun h3 tk3 es3 tb3 ep3 o3 k3 T3=>?_⟩;refine q h3 tk3 es3 tb3 ep3 o3 (fun b u nb e=>k3 b u nb (k2 b u (fun z=>nb (by simp at z;simp [z])) (k1 b u (fun z=>nb (by simp at z;simp [z])) e))) T3
theorem Zf1 (led:Bool) (hS:h.get? S=some { cls:=.type "set",dict:=none,data:=.set #[] 0 (.fresh 0 0 led) }):TupSet knd h S [] #[] (.fresh 0 0 led) 0 { cls:=.type "set",dict:=none,data:=.set #[] 0 (.fresh 0 0 led) } :=
 ⟨hS,⟨rfl,rfl,rfl⟩,rfl,fun e he=>by simp at he,rfl,rfl,rfl,.inl rfl,by show 0*5<7*3;decide⟩
theorem Zfu:isSubtype (.type "tuple") (.type "set")=pure false:=by rw [isSubtype_type];kernel_rfl
theorem Zbl:isSubtype (.type "tuple") (.type "frozenset")=pure false:=by rw [isSubtype_type];kernel_rfl
noncomputable abbrev Xb (led:Bool):Obj:={ cls:=.type "set",dict:=none,data:=.set #[] 0 (.fresh 0 0 led) }
set_option maxHeartbeats 3200000 in
theorem Zgj {kl:List (List K)} (hh:A.handled=none) (hu:A.units+8<cLine) (ht:s.heap.IsTuple t items) (tk:TupKeys knd s.heap items kl) (nd:kl.Nodup) (hl:kl.length=items.size) (h30:kl.length≤30)
 (q:∀ h' tk es' tb' ep' o',TupSet knd h' s.z kl.reverse es' tb' ep' o'→(∀ b u,s.heap.get? b=some u→h'.get? b=some u)→Q (.ref s.z) { s with heap:=h',toks:=tk }) :
 wpAny (model prog w) A (call (.type "set") [.ref t]) Q E s:=by
 obtain ⟨c,tl,hmro⟩:=F.called_set.mro;have hmade:=F.called_set.made;have hsub:=F.called_set.sub;refine wpAny_call (codeAny_of_tree (n3_ (a:=_) ⟨Code.quiet_builtin _ (by decide +kernel),codeAny_builtin F.entry_type_call ?_⟩));rw [Around.under_plain (weight_type_call_type "set" [.ref t] []) rfl];have h1:=F.called_set.notType;have h2:=F.called_set.canCreate;have hct:=F.typeCall_set_1 (.ref t)
 repeat (any_goals (first|assumption|wp_step))
 refine codeAny_mono (code_set_new_1 (.ref t) (E:=E) (Q₁:=fun v s1=>∃ led:Bool,v=.ref s.z∧s1={ s with heap:=s.heap.push (Xb led) }) fun led=>⟨led,rfl,rfl⟩) fun r s1 hr=>?_;cases r with
 | error e=>exact hr
 | ok fl =>
   cases fl with
   | ret obj =>
     obtain ⟨led,rfl,rfl⟩:=hr;have hS:(s.heap.push (Xb led)).get? s.z=some (Xb led):=n8_ _ rfl;have hT:Shared.TypeIs { s with heap:=s.heap.push (Xb led) } (.ref s.z) "set" := ⟨_,hS,rfl⟩;have hli:=F.called_set.init.lookup;have hbi:=F.called_set.init.bind (.ref s.z)
     repeat (any_goals (first|assumption|wp_step))
     refine codeAny_mono (codeAny_call_builtin (R:=wants (fun r s2=>r=.none∧∃ h' tk es' tb' ep' o',s2={ s with heap:=h',toks:=tk }∧TupSet knd h' s.z kl.reverse es' tb' ep' o'∧(∀ b u,s.heap.get? b=some u→h'.get? b=some u)) E) F.called_set.init.plain F.entry_set_init (check_set_init_1 hT ?_)) fun r2 s2 hr2=>?_
     · obtain ⟨⟨c0,d0,dd,sl0⟩,hol,hcl,nl,hdl⟩:=ht;simp only at hcl hdl;subst hcl;subst hdl;have hol':(s.heap.push (Xb led)).get? t=some { cls:=.type "tuple",dict:=d0,data:=.seq items nl,slots:=sl0 }:=n2_ _ hol;have hsls:=Zfu;have hslf:=Zbl;have hne:(Value.type "tuple" == Value.type "dict")=false:=by decide
       have ht1:(s.heap.push (Xb led)).IsTuple t items:=⟨_,hol',rfl,nl,rfl⟩;unfold Builtin.«set.__init__» noKeywords Builtin.Frozenset.updateFrom;generalize hPI:pyIter=PI
       wp_walk
       subst hPI;refine wpAny_pyIter_tuple ht1 (n0_ (wpAny_runValue ?_));have tS:t<s.z:=n11_ hol;have n1:(s.heap.push (Xb led)).objs.size=s.z+1:=n54_ ..;have k1:∀ b u,s.heap.get? b=some u→((s.heap.push (Xb led)).push { cls:=.type "tuple_iterator",data:=.fields #[.ref t,.int 0 0] }).get? b=some u:=fun b u e=>n2_ _ (n2_ _ e);have e1:t≠(s.heap.push (Xb led)).objs.size:=by rw [n1];exact n22_ (n68_ tS)
       have e2:s.z≠(s.heap.push (Xb led)).objs.size:=by rw [n1];exact n22_ (Nat.lt_succ_self _)
       refine Zoy (knd:=knd) (S:=s.z) (I:=(s.heap.push (Xb led)).objs.size) (t:=t) (items:=items) (kl:=kl) (by first|exact hh|simp [hh]) (by simp;omega) e1 e2 (n59_ tS) nd hl h30 (items.size-0) 0 _ #[] (.fresh 0 0 led) 0 _ (by omega) (n42_ _) ⟨_,n8_ _ rfl,rfl,rfl⟩ (ht1.push _)
        (tk.keep (bad:=[]) (fun b u _ e=>k1 b u e) (fun b hb=>by simp at hb)) (Zf1 led (n2_ _ hS)) fun h' tk' es' tb' ep' o' k' T'=>?_
       show wpAny _ _ _ _ _ _
       refine n3_ ?_;show wpAny _ _ (ret Value.none) _ _ _
       refine n3_ ⟨rfl,h',tk',es',tb',ep',o',rfl,T',fun b u e=>k' b u ?_ (k1 b u e)⟩;have lb:b<s.z:=n11_ e;simp only [n12_,n13_,or_false,not_or,n1];exact ⟨n22_ lb,n22_ (n68_ lb)⟩
     · cases r2 with
       | error e=>exact hr2
       | ok fl2 =>
         cases fl2 with
         | ret r =>
           obtain ⟨rfl,h',tk',es',tb',ep',o',rfl,T',k'⟩:=hr2
           repeat (any_goals (first|assumption|wp_step))
           exact q _ _ _ _ _ _ T' k'
         | _=>exact hr2.elim
   | _=>exact hr.elim
end
def Zen (S:Addr) (n:Nat) (h:Heap):Prop:=∃ o es ep t,h.get? S=some o∧o.ExactSet∧o.data=.set es ep t∧t.fits es.size=true∧es.size=n
section
variable {X:Cx}
theorem Zmb (q:Zen S n h):ObjOk P w H h S (.ext (Zen S n)):=by
 refine ⟨q,?_,fun h1 h2 r k=>?_⟩
 · obtain ⟨o,_,_,_,e,_⟩:=q;exact ⟨o,e⟩
 · obtain ⟨o,es,ep,t,e,r⟩:=r;exact ⟨o,es,ep,t,k o e,r⟩
theorem items_int:∀ {ns:List Int} {us:List Value},Vals (ns.map V.int) us→ItemsAre (PySem.intKind prog w) ns us
 | [],_,.nil=>.nil
 | n :: ns,_,.cons r rs=>by
   obtain ⟨t,rfl⟩:=r;exact .cons (intKind_is _ _ _ _) (items_int rs)
theorem Zm8 {j:Nat} (hc:X.calm=true) (hr:Room j X.A):Xn X (.type "set") (fun xs H Q=>∃ (a:Addr) (vs:List V) (kl:List (List Int)),xs=[.ref a]∧SqT X.K H a vs∧vs.length=kl.length∧(∀ (i:Nat) (v:V),vs[i]? = some v→∃ (b:Addr) (k:List Int),v=.ref b∧kl[i]? = some k∧SqT X.K H b (k.map V.int))∧kl.Nodup∧kl.length≤30 ∧
 ∀ S,H S=none→Q (.ref S) (upd H S (.ext (Zen S kl.length)))):=by
 intro pins s σ H xs us Q I r h;obtain ⟨a,vs,kl,rfl,hq,hl,hk,nd,h30,q⟩:=h;cases r with
 | cons rx r =>
   cases r
   cases (show _=Value.ref a from rx)
   obtain ⟨its,rv,pl,hz⟩:=I.tuple hq;have hlen:=rv.length;have hs:H s.z=none:=I.hok.fresh (n7_ _);refine Zgj (knd:=PySem.intKind X.prog X.w) (kl:=kl) (items:=its.toArray) (I.ok.hd hc) (by have:=hr.un;omega) pl (fun i v e=>?_) nd (by simp;omega) h30 fun h' tk es' tb' ep' o' T k=>?_
   · have e':its[i]? = some v:=by simpa using e
     have hi:i<vs.length:=by rw [hlen];exact (n19_.mp e').1
     obtain ⟨x,hx⟩:∃ x,vs[i]? = some x:=⟨_,n1_ hi⟩;obtain ⟨b,k,rfl,ek,hb⟩:=hk i x hx;obtain ⟨u,eu,ru⟩:=rv.get hx;rw [eu] at e';cases e'
     cases ru
     obtain ⟨its2,rv2,⟨o2,g2,c2,n2,d2⟩,_⟩:=I.tuple hb;exact ⟨b,k,rfl,ek,o2,its2.toArray,n2,g2,c2,d2,by simpa using items_int rv2⟩
   · refine ⟨.ref s.z,_,I.laid (t':=tk) k (n7_ _) (Zmb (n:=kl.length) ⟨o',es',ep',tb',T.get,T.ex,T.dat,T.fits,by rw [T.len,List.length_reverse]⟩),rfl,q _ hs⟩
theorem Znt:Xn X (.builtin "len") (fun xs H Q=>∃ S n,xs=[.ref S]∧H S=some (.ext (Zen S n))∧n≤sizeLine∧Q (.int n) H):=by
 intro pins s σ H xs us Q I r h;obtain ⟨S,n,rfl,hS,hn,q⟩:=h;cases r with
 | cons rx r =>
   cases r
   cases (show _=Value.ref S from rx)
   obtain ⟨⟨o,es,ep,t,e,ex,d,f,en⟩,_,_⟩:=(show ObjOk X.prog X.w H s.heap S (.ext (Zen S n)) from I.hok S _ hS);have hl:=Zdu;have hz:sizeLine=16777216:=sizeLine_eq;refine call_len_set e ex d f (by omega) ⟨.int n,H,I.tok _,⟨_,by rw [en]⟩,q⟩
theorem Zep:∀ (bs:List Bool),((List.range bs.length).any fun i=>(bs[i]?).getD true)=bs.any id
 | []=>rfl
 | b :: bs=>by
   rw [n15_,List.range_succ_eq_map,List.any_cons,List.any_map,List.any_cons,← Zep bs];rfl
theorem Zma (hc:X.calm=true):Xn X (.builtin "any") (fun xs H Q=>∃ (p:Addr) (bs:List Bool),xs=[.ref p]∧SqL X.K H p (bs.map V.bl)∧Q (.bl (bs.any id)) H):=by
 intro pins s σ H xs us Q I r h;obtain ⟨p,bs,rfl,hq,q⟩:=h;cases r with
 | cons rx r =>
   cases r
   cases (show _=Value.ref p from rx)
   obtain ⟨its,rv,pl,hz⟩:=I.list hq;have hl:=pl.isList;have hlt:p<s.z:=by obtain ⟨_,e,_⟩:=hl;exact n11_ e
   have hh:X.A.handled=none:=I.ok.hd hc;refine call_any_walk (wpAny_pyIter_list hl ⟨s.z,[s.z,p],[s.z],its.toArray.size,_,_,fun i=>(bs[i]?).getD true,rfl,Walks.list (A:=X.A.in1) hh _ p (n22_ hlt) its.toArray,⟨⟨_,n8_ _ rfl,rfl,rfl⟩,hl.push _⟩,fun i v s' Q' E' hP hQ=>?_,fun h' tk hk=>?_⟩)
   · obtain ⟨b,e,rfl⟩:=Zca rv (show its[i]? = some v by simpa using hP);simp only [e,Option.getD_some] at hQ;exact wpAny_truthy_bool hQ
   · have e:((List.range its.toArray.size).any fun i=>(bs[i]?).getD true)=bs.any id:=by
      rw [n9_,← rv.length,n5_];exact Zep bs
     rw [e];exact ⟨.bl _,H,I.kept (Zmm hk),rfl,q⟩
end
section
variable {prog:Program} {w:World} {A:Around} {E:Value→Shared→Prop} {s:Shared}
theorem Zp8 (ne:l≠it):∀ (n i:Nat) (s:Shared) (Q:List Value→Shared→Prop),s.heap.IsListIter it l i→s.heap.IsList l items→i+n≤items.size →
 (∀ h',h'.IsListIter it l (i+n)→Heap.SameBut it s.heap h'→Q ((items.toList.drop i).take n) { s with heap:=h' })→wpAny (model prog w) A (draw (.ref it) n) Q E s
 | 0,i,s,Q,hit,_,_,q=>by
   show wpAny _ _ (pure []) Q E s
   exact n3_ (by simpa using q s.heap hit (Heap.SameBut.refl ..))
 | n+1,i,s,Q,hit,hl,hle,q=>by
   have hlt:i<items.size:=by omega
   refine n0_ (m:=pyNext (.ref it)) (wpAny_pyNext_list_item hit hl (x:=items[i]) (by simp [hlt]) fun h1 it1 s1=>?_);refine n0_ (n31_ (Zp8 ne n (i+1) _ _ it1 (hl.extBut s1.extBut ne) (by omega) fun h2 it2 s2=>n3_ ?_));have e:items.toList.drop i=items[i] :: items.toList.drop (i+1):=by simp [List.drop_eq_getElem_cons,hlt]
   have z:=q h2 (by rw [show i+(n+1)=i+1+n by omega];exact it2) (s1.trans s2);rw [e,List.take_succ_cons] at z;exact z
theorem Ze1 {Q:List Value→Shared→Prop} (hh:A.handled=none) (hl:s.heap.IsList l items)
 (q:∀ h',Heap.ExtBut s.z s.heap h'→Q items.toList { s with heap:=h' }):wpAny (model prog w) A (unpackItems (.ref l) items.size none) Q E s:=by
 have ne:l≠s.z:=by obtain ⟨o,ho,_⟩:=hl;exact n22_ (n11_ ho)
 unfold unpackItems;refine n0_ ?_
 · unfold notIterableAtAll;refine n0_ (wpAny_specialOf hl.typeIs F.slot_list_iter.lookup (n3_ ?_));simp only [n21_,if_false];refine n0_ (n31_ (wpAny_pyIter_list hl ?_));refine n0_ (n31_ (Zp8 ne items.size 0 _ _ ⟨_,n8_ _ rfl,rfl,rfl⟩ (hl.push _) (by omega) fun h1 it1 s1=>?_));rw [show List.take items.size (List.drop 0 items.toList)=items.toList by rw [List.drop_zero];exact n52_ (by simp),if_neg (by simp)];refine n0_ (n31_ (wpAny_pyNext_list_end hh it1 ((hl.push _).extBut s1.extBut ne) (by simp) fun h2 e2=>?_));simp only [Option.isSome_none,n21_,if_false];refine n3_ (q h2 fun b o hb e=>e2 b o hb (s1.extBut b o hb (n2_ _ e)))
theorem Zof {elts:List Expr} {x1} {Q:Unit→Shared→Prop} (hh:A.handled=none) (hl:s.heap.IsList l items)
 (hn:(assignEach elts env).length=items.size) (hs:(assignEach elts env).findIdx? (·.1)=none)
 (h:∀ h',Heap.ExtBut s.z s.heap h'→wpAny (model prog w) A (assignInOrder ((assignEach elts env).map (·.2)) items.toList) Q E { s with heap:=h' }) :
 wpAny (model prog w) A (assign (.Tuple elts x1 pos) env (.ref l)) Q E s:=by
 rw [assign_Tuple];refine n0_ (wpAny_standAt ?_);unfold unpack;rw [hn,hs];exact n0_ (n31_ (Ze1 hh hl h))
end
section
variable {X:Cx} {pos:Pos}
def gLst (K:PySem.W.Frag) (n:Nat) (t:TGs):TG:=fun v σ H Q=>∃ a xs,v=.ref a∧SqL K H a xs∧xs.length=n∧t xs σ H Q
theorem Ztp {es:List Expr} {t:TGs} (hc:X.calm=true) (h:PGs X es t) (hn:(assignEach es X.env).length=n:=by rfl) (hst:(assignEach es X.env).findIdx? (·.1)=none:=by rfl):PG X (.Tuple es k pos) (gLst X.K n t):=by
 intro pins s σ H v u Q I r hw;obtain ⟨a,xs,e1,hq,hl,hw⟩:=hw;subst e1;cases r
 obtain ⟨its,rv,pl,hz⟩:=I.list hq;refine Zof (I.ok.hd hc) pl.isList (by simp [hn,← hl,rv.length]) hst fun h' hx=>?_;have I1:Inv X pins σ H { s with heap:=h' }:=I.kept (t':=s.toks) fun b o e=>hx b o (n22_ (n11_ e)) e;exact h pins _ σ H xs _ Q I1 (by simpa using rv) hw
theorem Zck:∀ {us:List Value} {ns:List Int},IntsAre us ns→Vals (ns.map V.int) us
 | _,_,.nil=>.nil
 | _,_,.cons n t r=>.cons ⟨t,rfl⟩ (Zck r)
theorem Zch:Xn X (.builtin "sorted") (fun xs H Q=>∃ (p:Addr) (ns:List Int),xs=[.ref p]∧SqL X.K H p (ns.map V.int)∧ns.length<64∧∀ (l:Addr) (ns':List Int),H l=none→ns'.Perm ns→ns'.Pairwise (·≤·)→Q (.ref l) (upd H l (.lst (ns'.map V.int)))):=by
 intro pins s σ H xs us Q I r h;obtain ⟨p,ns,rfl,hq,h64,q⟩:=h;cases r with
 | cons rx r =>
   cases r
   cases (show _=Value.ref p from rx)
   obtain ⟨its,rv,pl,hz⟩:=I.list hq;have hlen:=rv.length;rw [n5_] at hlen;refine sorted_ints pl.isList (Yi rv) (by omega) fun out ns' a1 a2 a3=>?_;obtain ⟨e,he⟩:=sortedAll_at s.heap its out;have fr:H (s.z+1)=none:=I.hok.fresh (Nat.le_succ _);refine ⟨.ref (s.z+1),_,I.laid (o:=.lst (ns'.map V.int)) (t':=s.toks) (fun b u e=>sortedAll_old e) (Nat.le_succ _) ⟨?_,out.toList,e,Zck a1,by simpa using he⟩,rfl,q _ ns' fr a2 a3⟩;rw [n5_,a2.length_eq,sizeLine_eq];omega
theorem Zil:∀ {l:List Value} (k:Nat),l.length=n→(∀ (j:Nat) (v:Value),l[j]? = some v→∃ t,v=.int ((k:Int)+j) t)→Vals ((List.range' k n).map fun i:Nat=>V.int i) l:=by
 induction n with
 | zero=>intro l k hl _;cases l with
   | nil=>exact .nil
   | cons _ _=>simp at hl
 | succ n ih =>
   intro l k hl h;cases l with
   | nil=>simp at hl
   | cons x l =>
     obtain ⟨t,rfl⟩:=h 0 x rfl;refine .cons ⟨t,by simp⟩ (ih (k+1) (by simpa using hl) fun j v e=>?_);obtain ⟨t',e'⟩:=h (j+1) v (by simpa using e);exact ⟨t',by rw [e'];congr 1;omega⟩
theorem Zts {a:Expr} {q2:Pos} (hg2:Gl X "range") (hm2:X.mg "range" = none) (ha:PA X [a] ta) (he:starEach [a] X.env=[(false,eval a X.env)]:=by rfl) :
 PE X (.Call (.Name "range" p2) [a] [] q2) (fun σ H Q=>ta σ H fun vs H1=>∃ n:Nat,vs=[.int n]∧∀ r,H1 r=none→Q (.ref r) (upd H1 r (.rng 0 n))):=by
 intro pins s σ H Q I h;refine Call_ (Zas I hg2 hm2 boot_range (n43_ (thn (ha q2 pins s σ H _ I h) fun us s1 ⟨vs,H1,I1,r1,q1⟩=>?_) he rfl));obtain ⟨n,rfl,q⟩:=q1;cases r1 with
 | cons r rr =>
   cases rr
   obtain ⟨t,rfl⟩:=r;refine call_range_1 ?_;have fr:H1 s1.z=none:=I1.hok.fresh (n7_ _);exact ⟨.ref s1.z,_,I1.laid (o:=.rng 0 n) (fun b o e=>n2_ _ e) (n7_ _) ⟨_,_,_,n8_ _ rfl⟩,rfl,q _ fr⟩
theorem Zk2 (hc:X.calm=true):Xn X (.type "list") (fun xs H Q=>∃ (r:Addr) (n:Nat),xs=[.ref r]∧H r=some (.rng 0 n)∧n≤1000∧∀ l,H l=none→Q (.ref l) (upd H l (.lst ((List.range n).map fun i:Nat=>V.int i)))):=by
 intro pins s σ H xs us Q I r h;obtain ⟨a,n,rfl,hr,hn,q⟩:=h;cases r with
 | cons rx r =>
   cases r
   cases (show _=Value.ref a from rx)
   obtain ⟨t,u,v,e⟩:=(show ObjOk X.prog X.w H s.heap a (.rng 0 n) from I.hok a _ hr);have fr:H s.z=none:=I.hok.fresh (n7_ _);refine call_list_range (n:=n) (I.ok.hd hc) e (small_one (by omega) (by omega) (by omega) (by omega)) (by rw [rangeSize_one];split<;>omega) (by omega) fun h' tk acc c k hS it=>?_;refine ⟨.ref s.z,_,I.laid (o:=.lst ((List.range n).map fun i:Nat=>V.int i)) (t':=tk) k (n7_ _) ⟨?_,acc.toList,c,?_,by simpa using hS⟩,rfl,q _ fr⟩
   · rw [n5_,n73_,sizeLine_eq];omega
   · rw [List.range_eq_range'];refine Zil 0 (by rw [Array.length_toList];exact it.1) fun j v e=>?_;obtain ⟨t',e'⟩:=it.2 j v (by simpa using e);exact ⟨t',by rw [e'];congr 1;omega⟩
end
noncomputable def Ztm (c t0 i0 i1:Expr) (it acc:Value) (env:Env):Sem Fin:=do
 standAt i0.pos
 match ← pyNext it with
 | none=>pure (.done .next)
 | some v =>
   letOwnedTupleGo t0 it v
   assign t0 env v
   let mut ok:=true
   for c in ([]:List Expr) do
    if ok then ok ← isTrue c env (eval c env)
   if ok then do
    let x ← eval i1 env
    standAt i1.pos
    let x ← foldedSetIterable i1 env x
    let _ ← runOwn (.compStart c 1 (← holding [x] (pyIter x)) acc env) env
    again (.compLoop c 0 it acc env)
   else again (.compLoop c 0 it acc env)
noncomputable def Zt5 (c t1 i1 elt:Expr) (add:Value→Sem PUnit) (it acc:Value) (env:Env):Sem Fin:=do
 standAt i1.pos
 match ← pyNext it with
 | none=>pure (.done .next)
 | some v =>
   letOwnedTupleGo t1 it v
   assign t1 env v
   let mut ok:=true
   for c in ([]:List Expr) do
    if ok then ok ← isTrue c env (eval c env)
   if ok then
    (do let v ← eval elt env;add v)
   again (.compLoop c 1 it acc env)
structure C2Ok (prog:Program) (w:World) (c t0 i0 t1 i1 elt:Expr) (id:String) (add:Value→Value→Sem PUnit):Prop where
 un:∀ (A:Around) (k:Nat) (it acc:Value) (env:Env),A.under (.compLoop c k it acc env)=A
 den:∀ (k:Nat) (it acc:Value) (env:Env),(model prog w).den (.compLoop c k it acc env)=(compTurn c k it acc env).onRaise (fun x=>do noteFrame x env;theTreesLotGoes x)
 qu:∀ (k:Nat) (it acc:Value) (env:Env),(Code.compLoop c k it acc env).quiet=true
 e0:∀ it acc env,compTurn c 0 it acc env=Ztm c t0 i0 i1 it acc env
 e1:∀ it acc env,compTurn c 1 it acc env=Zt5 c t1 i1 elt (add acc) it acc env
 ha:∀ (A:Around) acc x s (P:Shared→Prop) E,wpAny (model prog w) A (call (.builtin id) [acc,x]) (fun _ s5=>P s5) NoX s→wpAny (model prog w) A (add acc x) (fun _ s5=>P s5) E s
 start:∀ (A:Around) k,k<2→∀ it acc env R s4,codeAny (model prog w) A (.compLoop c k it acc env) R s4→(∀ E,wpAny (model prog w) A (pyIter it) (fun it' s'=>codeAny (model prog w) A (.compLoop c k it' acc env) R s') E s4)→codeAny (model prog w) A (.compStart c k it acc env) R s4
section
variable {prog:Program} {w:World} {A:Around} {R:Result→Shared→Prop} {s:Shared} {c elt t0 i0 t1 i1:Expr} {it acc:Value} {env:Env} {add:Value→Value→Sem PUnit} {id:String} (c2:C2Ok prog w c t0 i0 t1 i1 elt id add)
include c2
theorem Zpm (I:Nat→Shared→Prop)
 (turn:∀ n s,I n s→Zlo (model prog w) A t1 it env R (fun n s3=>wpAny (model prog w) A (eval elt env) (fun x s4=>wpAny (model prog w) A (call (.builtin id) [acc,x]) (fun _ s5=>∃ m,m<n∧I m s5) NoX s4) NoX s3) n s)
 (n:Nat) (h:I n s):codeAny (model prog w) A (.compLoop c 1 it acc env) R s:=by
 refine codeAny_loop (c2.qu _ _ _ _) I (fun n s hI=>?_) n h;rw [c2.un,c2.den];refine wpAny_noted ?_;rw [c2.e1];unfold Zt5;refine n0_ (wpAny_standAt (n0_ (n45_ (turn n s hI) (fun r s1 h1=>?_) fun _ _ h'=>h'.elim)));cases r with
 | none=>exact n3_ h1
 | some v =>
   refine n0_ (n45_ h1 (fun _ s2 h2=>n0_ (n45_ h2 (fun _ s3 h3=>n0_ (n3_ ?_)) fun _ _ h'=>h'.elim)) fun _ _ h'=>h'.elim);simp only [if_true];exact n0_ (n0_ (n45_ h3 (fun x s4 h4=>n45_ (c2.ha _ _ x s4 _ _ h4) (fun _ s5 h5=>n3_ ⟨rfl,h5⟩) fun _ _ h'=>h') fun _ _ h'=>h'.elim))
theorem Zol (hs1:∀ x,foldedSetIterable i1 env x=pure x) (I:Nat→Shared→Prop)
 (turn:∀ n s,I n s→Zlo (model prog w) A t0 it env R (fun n s3=>wpAny (model prog w) A (eval i1 env) (fun x s4=>wpAny (model prog w) A (pyIter x) (fun itv s5 =>
   codeAny (model prog w) A (.compStart c 1 itv acc env) (fun r s6=>match r with|.ok _=>∃ m,m<n∧I m s6|.error _=>False) s5) NoX s4) NoX s3) n s)
 (n:Nat) (h:I n s):codeAny (model prog w) A (.compLoop c 0 it acc env) R s:=by
 refine codeAny_loop (c2.qu _ _ _ _) I (fun n s hI=>?_) n h;rw [c2.un,c2.den];refine wpAny_noted ?_;rw [c2.e0];unfold Ztm;refine n0_ (wpAny_standAt (n0_ (n45_ (turn n s hI) (fun r s1 h1=>?_) fun _ _ h'=>h'.elim)));cases r with
 | none=>exact n3_ h1
 | some v =>
   refine n0_ (n45_ h1 (fun _ s2 h2=>n0_ (n45_ h2 (fun _ s3 h3=>n0_ (n3_ ?_)) fun _ _ h'=>h'.elim)) fun _ _ h'=>h'.elim);simp only [if_true];refine n0_ (n45_ h3 (fun x s4 h4=>n0_ (wpAny_standAt (n0_ (wpAny_of_eq (hs1 x) (n0_ (n31_ (n45_ h4 (fun itv s5 h5=>n0_ (wpAny_runOwn ?_)) fun _ _ h'=>h'.elim))))))) fun _ _ h'=>h'.elim);refine codeAny_mono h5 fun r s6 h6=>?_;cases r with
   | ok f=>exact n3_ ⟨rfl,h6⟩
   | error e=>exact h6.elim
end
abbrev TAd:=V→Addr→Hp→(Hp→Prop)→Prop
abbrev adL:TAd:=fun v D H C=>∃ ys,H D=some (.lst ys)∧ys.length<sizeLine∧C (upd H D (.lst (ys++[v])))
abbrev adS:TAd:=fun v D H C=>∃ (k:Int) (S:Int→Bool) (n:Nat),v=.int k∧H D=some (.set S n)∧n+1<scanBound∧C (upd H D (.set (fun k'=>S k'||decide (k'=k)) (if S k then n else n+1)))
def PAd (id:String) (ad:TAd):Prop:=∀ (X:Cx) (pins:List (Addr×Obj)) (s:Shared) (σ:St) (H:Hp) (v:V) (u:Value) (D:Addr) (C:Hp→Prop),Inv X pins σ H s→RelV v u→ad v D H C→wpAny (model X.prog X.w) X.A (call (.builtin id) [.ref D,u]) (fun _ s'=>∃ H',Inv X pins σ H' s'∧C H') X.xe s
theorem Zvy:PAd "list.append" adL:=fun X pins s σ H v u D C I r ⟨ys,hys,hz,q⟩=>thn (Y8 (X:=X) pins s σ H (.ref D) [v] (.ref D) [u] (fun _ H'=>C H') I rfl (.cons r .nil) ⟨_,ys,v,rfl,rfl,hys,hz,q⟩) fun _ s' ⟨_,H',I',_,q'⟩=>⟨H',I',q'⟩
def C2In (ad:TAd) (J1:It) (g1:TG) (te:TE) (D:Addr) (σ4:St) (H5:Hp) (fin:St→Hp→Prop):Prop:=∃ W1:Nat→Nat→St→Hp→Prop,(∃ m1,W1 0 m1 σ4 H5)∧∀ i1 m1 σ6 H6,W1 i1 m1 σ6 H6 →
 (J1.stop i1 H6∧fin σ6 H6)∨(J1.go i1 H6∧∀ y H7,J1.yld i1 H6 y H7→g1 y σ6 H7 fun σ8 H8=>te σ8 H8 fun v H9=>ad v D H9 fun Hn=>∃ m1',m1'<m1∧W1 (i1+1) m1' σ8 Hn)
def C2Go (ad:TAd) (ac:HO) (J:It) (g0:TG) (wi1:TI) (g1:TG) (te:TE) (σ0:St) (H1:Hp) (D:Addr) (Q:VK):Prop:=∃ W:Nat→Nat→St→Hp→Prop,(∃ m,W 0 m σ0 (upd H1 D ac)) ∧
 ∀ i m σ2 H2,W i m σ2 H2→(J.stop i H2∧Q (.ref D) H2)∨(J.go i H2∧∀ x H3,J.yld i H2 x H3→g0 x σ2 H3 fun σ4 H4=>wi1 σ4 H4 fun J1 H5=>C2In ad J1 g1 te D σ4 H5 fun σ6 H6=>∃ m',m'<m∧W (i+1) m' σ6 H6)
theorem Zng {s2:Shared} {g0 g1:TG} {wi1:TI} {J:It} {tn:Nat→Heap→Prop} {ac:HO} {ad:TAd} {id:String} {o0:Obj} {c:Expr} {Q:VK} {add:Value→Value→Sem PUnit}
 (hs3:s3={ s2 with heap:=s2.heap.push o0 }) (hc:X.calm=true) (L:LcO X scope cl N fr) (hg:∀ C s3 H3 fp,PG (blk X scope cl C N s3 H3 fp) t0 g0) (hi1:∀ C s3 H3 fp,PI (blk X scope cl C N s3 H3 fp) t1 i1 wi1) (hg1:∀ C s3 H3 fp,PG (blk X scope cl C N s3 H3 fp) t1 g1) (he:∀ C s3 H3 fp,PE (blk X scope cl C N s3 H3 fp) elt te) (hA:PAd id ad)
 (I2:Inv X pins σ H2 s2) (T:Turn X.prog X.w X.K t0 J fp it tn) (st2:tn 0 s2.heap) (f2:∀ b∈fp,FpOk X pins H2 b)
 (ok0:ObjOk X.prog X.w (upd H2 s2.z ac) (s2.heap.push o0) s2.z ac) (h:C2Go ad ac J g0 wi1 g1 te (Zah fr σ) H2 s2.z Q) (hs1:∀ env x,foldedSetIterable i1 env x=pure x)
 (c2:C2Ok X.prog X.w c t0 i0 t1 i1 elt id add) :
 wpAny (model X.prog X.w) X.A (newFunctionEnv scope X.env.globals cl [] X.env.qual none .none (some X.env)) (fun cenv s4=>codeAny (model X.prog X.w) X.A (.compStart c 0 (.ref it) (.ref s2.z) { cenv with scope:=relabel scope X.env }) (compPost (model X.prog X.w) X.A X.xe none (EP X pins σ Q) (.ref s2.z) cenv.locals) s4) X.xe s3:=by
 obtain ⟨W,⟨m0,w0⟩,turn⟩:=h;refine Zcv (R:=fun C=>compPost (model X.prog X.w) X.A X.xe none (EP X pins σ Q) (.ref s2.z) C) hs3 hc L hg I2 T st2 f2 ok0 w0 turn (fun env s4 a b=>c2.start _ 0 (by decide) _ _ _ _ _ a b) (fun LI s4 t n h=>Zol c2 (hs1 _) LI t n h) (fun H7 s7 qn _ _ c=>Ziv qn c) fun LI n i σ9 H9 s9 ps I9 q9 again=>?_;refine thn (hi1 _ _ _ _ ps s9 σ9 H9 _ I9 q9) fun xv s10 h10=>thn h10 fun itv s11 h11=>?_;obtain ⟨it1,fp1,tn1,J1,H11,e,I11,T1,st11,f11,W1,⟨m1,w1⟩,turn1⟩:=h11;subst e;have fpC:∀ {H':Hp} (b:Addr),b∈fp1→H' b=none→FpOk (blk X scope cl s3.z N s3 (upd H2 s2.z ac) fp) ps H' b:=fun b hb hn=>⟨hn,(f11 b hb).2⟩
 have lp:codeAny (model X.prog X.w) X.A (.compLoop c 1 (.ref it1) (.ref s2.z) (blk X scope cl s3.z N s3 (upd H2 s2.z ac) fp).env) (fun r s6=>match r with|.ok _=>∃ m,m<n∧LI m s6|.error _=>False) s11:=by
  refine Zpm c2 (fun n1 s'=>∃ j σ' H',Inv (blk X scope cl s3.z N s3 (upd H2 s2.z ac) fp) ps σ' H' s'∧tn1 j s'.heap∧(∀ b∈fp1,H' b=none)∧W1 j n1 σ' H') ?_ m1 ⟨0,_,_,I11,st11,fun b hb=>(f11 b hb).1,w1⟩;rintro n1 s13 ⟨j,σ13,H13,I13,st13,fr13,w13⟩
  unfold Zlo
  rcases turn1 j n1 σ13 H13 w13 with ⟨stop,m',hm',qn⟩|⟨go1,step1⟩
  · refine thn (T1.done (blk X scope cl s3.z N s3 (upd H2 s2.z ac) fp) rfl rfl rfl hc j _ s13 σ13 H13 (fun _ _=>False) I13 (fun b hb=>fpC b hb (fr13 b hb)) st13 stop) fun r s14 ⟨hr,I14⟩=>?_;subst hr;exact again I14 hm' qn
  · refine thn (T1.item (blk X scope cl s3.z N s3 (upd H2 s2.z ac) fp) rfl rfl rfl hc j _ s13 σ13 H13 (fun _ _=>False) I13 (fun b hb=>fpC b hb (fr13 b hb)) st13 go1) fun r s14 ⟨u1,hr,h14⟩=>?_;subst hr;refine thn h14 fun _ s15 ⟨y,H15,I15,r15,y15,st15,fr15⟩=>?_;have I15':=I15.pinned (fun b hb=>fpC b hb (fr15 b hb)) (T1.obj _ _ st15);refine thn (hg1 _ _ _ _ _ s15 σ13 H15 y u1 _ I15' r15 (step1 y H15 y15)) fun _ s16 ⟨σ16,H16,I16,q16⟩=>?_;refine thn (he _ _ _ _ _ s16 σ16 H16 _ I16 q16) fun vv s17 ⟨vk,H17,I17,r17,q17⟩=>?_;refine thn (hA _ _ s17 σ16 H17 vk vv _ _ I17 r17 q17) fun _ s18 ⟨H18,I18,m',hm',w18⟩=>?_;refine ⟨m',hm',j+1,σ16,_,I18.unpinned,T1.keep _ _ _ st15 fun b hb o e=>(I18.pin (b,o) (n27_ _ (n27_ _ (Y5 hb e)))).1,fun b hb=>?_,w18⟩;obtain ⟨o,e,d⟩:=T1.obj _ _ st15 b hb;exact (I18.pin (b,o) (n27_ _ (n27_ _ (Y5 hb e)))).2.1
 exact c2.start _ 1 (by decide) _ _ _ _ _ lp fun E=>T1.self _ 0 _ _ _ st11 lp
abbrev sc2 (elt t0 i0 t1 i1:Expr) (scope:Scope) (pos:Pos):Expr:=.SetComp elt [⟨t0,i0,[],0⟩,⟨t1,i1,[],0⟩] scope pos
theorem Ztt:C2Ok prog w (sc2 elt t0 i0 t1 i1 scope pos) t0 i0 t1 i1 elt "set.add" (fun acc v=>do standAt elt.pos;let _ ← call (.builtin "set.add") [acc,v]):=by
 refine ⟨fun _ _ _ _ _=>rfl,fun _ _ _ _=>rfl,fun _ _ _ _=>rfl,fun _ _ _=>rfl,fun _ _ _=>rfl,fun A acc x s P E h=>n0_ (wpAny_standAt (n0_ (n45_ h (fun _ s5 h5=>n3_ h5) fun _ _ h'=>h'.elim))),fun A k hk it acc env R s4 h0 h=>?_⟩;refine codeAny_of_tree ?_;show wpAny _ _ ((compStart (sc2 elt t0 i0 t1 i1 scope pos) k it acc env).onRaise (fun x=>do noteFrame x env;standAt theWindowsPlace)) _ _ s4
 refine wpAny_notedAt ?_;have hk':k=0∨k=1:=by omega
 rcases hk' with rfl|rfl <;>
 · unfold compStart;show wpAny _ _ (ask >>= _) _ _ s4
   refine n0_ (wpAny_askSetting (wpAny_ite ?_));split
   · first
      | exact n0_ (n3_ (n3_ (And.intro rfl h0)))
      | exact n3_ (And.intro rfl h0)
   · first
      | exact n0_ (wpAny_rule (n0_ (wpAny_standAt (n0_ (n45_ (h NoX) (fun it' s' h'=>n3_ (And.intro rfl h')) fun _ _ x=>x.elim)))))
      | (refine n0_ (wpAny_rule ?_);show wpAny _ _ (standAt _ >>= _) _ _ s4;exact n0_ (wpAny_standAt (n0_ (n45_ (h NoX) (fun it' s' h'=>n3_ (And.intro rfl h')) fun _ _ x=>x.elim))))
theorem Zu3:PAd "set.add" adS:=fun X pins s σ H v u D C I r ⟨k,S,nn,e,hS,hroom,q⟩=>by
 subst e;obtain ⟨tk,rfl⟩:=r;have hset:s.heap.SetOf (PySem.intKind X.prog X.w) D S nn:=I.hok _ _ hS;refine call_set_add (knd:=PySem.intKind X.prog X.w) (k:=k) (intKind_is _ _ _ _) rfl hset hroom fun h18 sb18 hset'=>⟨_,?_,q⟩;refine I.write (e:=D) (by rw [hS];trivial) (.inl rfl) (fun b o hb e=>(sb18.2 b hb).trans e) ?_ hset';obtain ⟨o,_,_,_,e,_⟩:=hset';exact ⟨o,e⟩
abbrev ScGo:=C2Go adS (.set (fun _=>false) 0)
def tSC (wi:TI) (g0:TG) (wi1:TI) (g1:TG) (te:TE) (fr:List (Option Nat)):TE:=fun σ H Q=>wi σ H fun J H1=>∀ D,H1 D=none→ScGo J g0 wi1 g1 te (Zah fr σ) H1 D Q
theorem Ztl {wi1:TI} {g0 g1:TG}
 (hc:X.calm=true) (L:LcO X scope cl N fr) (hi:PI X t0 i0 wi) (hg:∀ C s3 H3 fp,PG (blk X scope cl C N s3 H3 fp) t0 g0) (hi1:∀ C s3 H3 fp,PI (blk X scope cl C N s3 H3 fp) t1 i1 wi1) (hg1:∀ C s3 H3 fp,PG (blk X scope cl C N s3 H3 fp) t1 g1)
 (he:∀ C s3 H3 fp,PE (blk X scope cl C N s3 H3 fp) elt te)
 (hs:∀ x,foldedSetIterable i0 X.env x=pure x:=by intro _;rfl) (hs1:∀ env x,foldedSetIterable i1 env x=pure x:=by intro _ _;rfl):PE X (sc2 elt t0 i0 t1 i1 scope pos) (tSC wi g0 wi1 g1 te fr):=by
 intro pins s σ H Q I h;rw [arm_eval_SetComp];dsimp only;refine wpAny_comprehension_free (use:=none) rfl hs L.clos L.kind L.names (thn (hi pins s σ H _ I h) fun v s1 h1=>thn h1 fun itv s2 h2=>?_);obtain ⟨it,fp,tn,J,H2,e,I2,T,st2,f2,h⟩:=h2;subst e;refine wpAny_newSet_of (knd:=PySem.intKind X.prog X.w) fun led setOf=>?_;exact Zng (ac:=.set (fun _=>false) 0) rfl hc L hg hi1 hg1 he Zu3 I2 T st2 f2 setOf (h _ (I2.hok.fresh (n7_ _))) hs1 Ztt
end L2
namespace L2
open PySem PySem.Spec PyProof.Rows PySem.W
noncomputable def krun {α:Type} (f:Nat→Nat→Bool):KasT α→α
 | .ret a=>a
 | .ask i j k=>krun f (k (f i j))
noncomputable def kin {α:Type} (n:Nat) (f:Nat→Nat→Bool):KasT α→Bool
 | .ret _=>true
 | .ask i j k=>decide (i<n)&&decide (j<n)&&kin n f (k (f i j))
variable {α:Type} {a l:Addr} {n:Nat} {s:Shared} {Q:Value→Shared→Prop}
theorem Zhv {f:Nat→Nat→Bool} {cmp:Nat→Nat→(Bool→Shared→Prop)→Shared→Prop} {Q:α→Shared→Prop} (hc:∀ i j C,i<n→j<n→C (f i j) s→cmp i j C s) :
 ∀ (t:KasT α),kin n f t=true→Q (krun f t) s→t.kasWp cmp Q s
 | .ret a,_,h=>h
 | .ask i j k,hk,h=>by
   unfold kin at hk;rw [n30_,n30_] at hk;exact hc i j _ (n35_ hk.1.1) (n35_ hk.1.2) (Zhv hc (k (f i j)) hk.2 h)
structure Ord (n:Nat) (f:Nat→Nat→Bool):Prop where
 irr:∀ i,i<n→f i i=false
 ant:∀ i j,i<n→j<n→i≠j→f j i = !f i j
 tr:∀ i j k,i<n→j<n→k<n→f i j=true→f j k=true→f i k=true
section
variable {prog:Program} {w:World} {A:Around} {E:Value→Shared→Prop} {s:Shared}
theorem Zrl {vs:List Value} {P:PySem.Fin→Shared→Prop} (good:List Nat→Prop) (g1:vs.length<2→good (List.range vs.length)) (ho:s.heap.get? a=some (seqObj "list" vs.toArray n)) (h64:vs.length<64)
 (ask:2≤vs.length→∀ h1,(∀ b u,b≠a→s.heap.get? b=some u→h1.get? b=some u)→wpAny (model prog w) A (keyKind' vs.toArray) (fun κ s1=>s1={ s with heap:=h1 }∧(kas_sort vs.length).kasWp (kas_ask prog w A κ vs) (fun p s2=>s2={ s with heap:=h1 }∧good p.toList) s1) (fun _ _=>False) { s with heap:=h1 })
 (h:∀ p:List Nat,good p→P (.done (.ret .none)) { s with heap:=sortedHeap s.heap a vs (p.map fun i=>vs.getD i Value.none).toArray }) :
 wpAny (model prog w) A (Builtin.«list.sort» ⟨[.ref a],[]⟩) P E s:=by
 have ha:a<s.z:=n11_ ho;obtain ⟨e1,o1⟩:∃ e1,(s.heap.update a (Obj.mapSeq fun _=>(#[]:Array Value))).get? a=some (seqObj "list" #[] e1):=⟨_,get?_update_seq ho fun _=>#[]⟩;have s1:=Heap.SameBut.update s.heap a (Obj.mapSeq fun _=>(#[]:Array Value));have k6:∀ b u,b≠a→s.heap.get? b=some u→(((s.heap.update a (Obj.mapSeq fun _=>#[])).push (seqObj "tuple" vs.toArray 0)).push (seqObj "list" #[] 0)).get? b=some u:=fun b u nb e=>n2_ _ (n2_ _ ((s1.2 b nb).trans e));have o6:(((s.heap.update a (Obj.mapSeq fun _=>#[])).push (seqObj "tuple" vs.toArray 0)).push (seqObj "list" #[] 0)).get? a=some (seqObj "list" #[] e1):=n2_ _ (n2_ _ o1);rw [list_sort_plain];refine n0_ (listItems_at ho rfl (n0_ (listUpdate_at ho rfl (n0_ (seqEpoch_at o1 rfl (n0_ (wpAny_newTuple (n0_ (wpAny_newList (n31_ ?_) (n42_ _))) (by show vs.length≤_;rw [sizeLine_eq];omega))))) (by rw [n9_,sizeLine_eq];omega) (n42_ _))));show wpAny (model prog w) A _ P E { s with heap:=((s.heap.update a (Obj.mapSeq fun _=>#[])).push (seqObj "tuple" vs.toArray 0)).push (seqObj "list" #[] 0) }
 dsimp only
 by_cases h2:vs.toArray.size<2
 · rw [if_pos h2,if_pos h2];refine n0_ (n3_ ?_);rw [StateT.run_pure];refine n0_ (n3_ ?_);dsimp only;have z:=h _ (g1 (by simpa using h2))
   have ev:((List.range vs.length).map fun i=>vs.getD i Value.none)=vs:=by
    refine List.ext_getElem (by simp) fun i a1 a2=>?_;simp [n4_,a2]
   rw [ev] at z;refine n0_ (seqEpoch_at o6 rfl (n0_ (listUpdate_at o6 rfl ?_ (hsz2:=by rw [Array.size_map];show (vs.toArray.zip vs.toArray).size≤_;rw [Array.size_zip,n9_,sizeLine_eq];omega))));simp only [bne_self_eq_false,n21_,if_false];refine n3_ ?_
   have em:((vs.toArray.zip vs.toArray).map (·.2))=vs.toArray:=by
    apply Array.ext (by simp)
    intro i a1 a2
    simp
   unfold sortedHeap at z;show P _ { s with heap:=(((s.heap.update a (Obj.mapSeq fun _=>#[])).push (seqObj "tuple" vs.toArray 0)).push (seqObj "list" #[] 0)).update a (Obj.mapSeq fun _=>(vs.toArray.zip vs.toArray).map (·.2)) }
   rw [em];exact z
 · have hn:2≤vs.length:=by simp at h2;omega
   rw [if_neg h2,if_neg h2];refine n0_ (n45_ (ask hn _ k6) (fun κ s0 hk=>?_) fun _ _ x=>x.elim);obtain ⟨rfl,hk⟩:=hk
   refine n0_ (n45_ (kat_run (Q:=fun st' s2=>∃ p:Array Nat,arrOf st'=p.map (kas_item (vs.toArray.zip vs.toArray))∧failedOf st'=none∧p.size=vs.length∧s2={ s with heap:=((s.heap.update a (Obj.mapSeq fun _=>#[])).push (seqObj "tuple" vs.toArray 0)).push (seqObj "list" #[] 0) }∧good p.toList)
    rfl hn h64 (fun p st' s2 a1 a2 a3 a4=>⟨p,a2,a3,a1,a4.1,a4.2⟩) hk) ?_ fun _ _ e=>e)
   rintro ⟨⟨⟩,st'⟩ s2 ⟨p,har,hf,hp,rfl,gp⟩
   dsimp only;rw [kat_snds rfl har];refine n0_ (seqEpoch_at o6 rfl (n0_ (listUpdate_at o6 rfl ?_ (n42_ _) (by rw [n9_,n5_,Array.length_toList,hp,sizeLine_eq];omega))));rw [hf];simp only [bne_self_eq_false,n21_,if_false];exact n3_ (h p.toList gp)
theorem Zgw {vs:List Value} (good:List Nat→Prop) (g1:vs.length<2→good (List.range vs.length)) (hl:s.heap.IsList l vs.toArray) (h64:vs.length<64)
 (ask:2≤vs.length→∀ h1,(∀ b u,s.heap.get? b=some u→h1.get? b=some u)→wpAny (model prog w) A.in1.in1 (keyKind' vs.toArray) (fun κ s1=>s1={ s with heap:=h1 }∧(kas_sort vs.length).kasWp (kas_ask prog w A.in1.in1 κ vs) (fun p s2=>s2={ s with heap:=h1 }∧good p.toList) s1) (fun _ _=>False) { s with heap:=h1 })
 (h:∀ p:List Nat,good p→Q (.ref (s.z+1)) { s with heap:=sortedAll s.heap vs (p.map fun i=>vs.getD i Value.none).toArray }) :
 wpAny (model prog w) A (call (.builtin "sorted") [.ref l]) Q E s:=by
 refine Calls.call_function_entry kind_sorted plain_sorted entry_sorted (args_sorted1 _) ?_;unfold Builtin.«sorted»;refine n0_ (m:=checkCount "sorted" 1 1 _) (n3_ (n0_ (collect_list hl (n0_ (wpAny_newList ?_ (by rw [sizeLine_eq];omega))) (by rw [sizeLine_eq];omega))));have n1:((s.heap.push (seqObj "list" #[] 0)).update s.z (Obj.mapSeq (·++vs.toArray))).objs.size=s.z+1:=by rw [Heap.size_update,size_push']
 have oL:(((s.heap.push (seqObj "list" #[] 0)).update s.z (Obj.mapSeq (·++vs.toArray))).push (seqObj "list" vs.toArray 0)).get? (s.z+1)=some (seqObj "list" vs.toArray 0):=by rw [← n1];exact n8_ _ rfl
 have kL:∀ b u,s.heap.get? b=some u→(((s.heap.push (seqObj "list" #[] 0)).update s.z (Obj.mapSeq (·++vs.toArray))).push (seqObj "list" vs.toArray 0)).get? b=some u:=fun b u e=>by
  have lt:b<s.z:=n11_ e;refine n2_ _ ?_;rw [Heap.get?_update_ne _ _ _ _ (n22_ lt)];exact n2_ _ e
 show wpAny _ _ _ _ _ { s with heap:=((s.heap.push (seqObj "list" #[] 0)).update s.z (Obj.mapSeq (·++vs.toArray))).push (seqObj "list" vs.toArray 0) }
 rw [n1];refine n0_ (n31_ (wpAny_call_entry slot_list_sort ⟨_,oL,rfl⟩ entry_list_sort (Zrl (s:={ s with heap:=((s.heap.push (seqObj "list" #[] 0)).update s.z (Obj.mapSeq (·++vs.toArray))).push (seqObj "list" vs.toArray 0) }) good g1 oL h64 (fun h2 h1 k1=>ask h2 h1 fun b u e=>k1 b u (n22_ (n68_ (n11_ e))) (kL b u e)) fun p gp=>⟨_,rfl,?_⟩) (args_list_sort _)));exact n3_ ⟨_,rfl,h p gp⟩
end
end L2
namespace L2
open PySem PySem.Spec PyProof.Rows PySem.W
section
variable {prog:Program} {w:World} {A:Around} {E:Value→Shared→Prop} {s:Shared}
theorem Zs9 {b:Bool} {x y:Int} {t u:Tok} {Q:Bool→Shared→Prop} (h:Q (decide (x<y)) s):wpAny (model prog w) A (oneLt' b (.int x t) (.int y u)) Q E s:=by
 cases b
 · refine kat_one _ _ (lt_int ?_);exact h
 · exact kat_lt_int h
theorem Zkc {b:Bool} {Q:Bool→Shared→Prop}:∀ {ns ms:List Int} {us ws:List Value} (i:Nat),IntsAre us ns→IntsAre ws ms→ns.length=ms.length→Q (HT.lexLt ns ms) s→KatLex prog w A b false Q (us.zip ws) i s
 | [],[],_,_,i,.nil,.nil,_,h=>kat_nil h
 | [],_ :: _,_,_,i,_,_,hl,_=>by simp at hl
 | _ :: _,[],_,_,i,_,_,hl,_=>by simp at hl
 | x :: ns,y :: ms,_,_,i,.cons _ t hu,.cons _ u hw,hl,h=>by
   refine kat_cons (wpAny_eqBool_int ?_);rw [HT.lexLt_cons] at h
   by_cases e:x=y
   · subst e;rw [if_pos rfl] at h;rw [beq_self_eq_true];exact kat_yes (Zkc (i+1) hu hw (by simpa using hl) h)
   · rw [if_neg e] at h;rw [show (x == y)=false by simpa using e];exact kat_no (Zs9 h)
end
theorem Zab:∀ (a:List Int),HT.lexLt a a=false
 | []=>rfl
 | x :: a=>by rw [HT.lexLt_cons,if_pos rfl];exact Zab a
theorem Zda:∀ (a b:List Int),a.length=b.length→a≠b→HT.lexLt b a = !HT.lexLt a b
 | [],[],_,h=>absurd rfl h
 | [],_ :: _,h,_=>by simp at h
 | _ :: _,[],h,_=>by simp at h
 | x :: a,y :: b,hl,hn=>by
   rw [HT.lexLt_cons,HT.lexLt_cons]
   by_cases e:x=y
   · subst e;rw [if_pos rfl,if_pos rfl];exact Zda a b (by simpa using hl) (fun z=>hn (by rw [z]))
   · rw [if_neg e,if_neg (Ne.symm e)]
     by_cases h:x<y
     · rw [n24_ h,n25_ (by omega)];rfl
     · rw [n25_ h,n24_ (by omega)];rfl
theorem Zc5:∀ (a b c:List Int),a.length=b.length→b.length=c.length→HT.lexLt a b=true→HT.lexLt b c=true→HT.lexLt a c=true
 | [],[],_,_,_,h,_=>by cases h
 | [],_ :: _,_,h,_,_,_=>by simp at h
 | _ :: _,[],_,h,_,_,_=>by simp at h
 | _ :: _,_ :: _,[],_,h,_,_=>by simp at h
 | x :: a,y :: b,z :: c,h1,h2,h3,h4=>by
   rw [HT.lexLt_cons] at h3 h4 ⊢
   by_cases e1:x=y
   · subst e1;rw [if_pos rfl] at h3
     by_cases e2:x=z
     · subst e2;rw [if_pos rfl] at h4 ⊢;exact Zc5 a b c (by simpa using h1) (by simpa using h2) h3 h4
     · rw [if_neg e2] at h4 ⊢;exact h4
   · rw [if_neg e1] at h3;have l1:x<y:=n35_ h3
     by_cases e2:y=z
     · subst e2;rw [if_neg e1];exact h3
     · rw [if_neg e2] at h4;have l2:y<z:=n35_ h4;rw [if_neg (by omega)];exact n24_ (by omega)
variable {h:Heap}
section
variable {X:Cx}
theorem Zc3:∀ {vs:List Value} {kl:List (List Int)},Paired (fun v k=>∃ b o its n,v=Value.ref b∧h.get? b=some o∧o.cls=.type "tuple" ∧ o.data=.seq its n∧IntsAre its.toList k∧0<k.length) vs kl→∃ fs:List Value,KatTups h vs fs∧fs.length=vs.length∧∀ v∈fs,∃ x t,v=Value.int x t
 | [],[],.nil=>⟨[],.nil,rfl,fun v hv=>by simp at hv⟩
 | v :: vs,k :: kl,.cons r rs=>by
   obtain ⟨fs,h1,h2,h3⟩:=Zc3 rs;obtain ⟨b,o,its,n,rfl,g,c,d,hi,hk⟩:=r;cases k with
   | nil=>simp at hk
   | cons x k =>
     have:∃ t,its[0]? = some (Value.int x t):=by
      cases hi':its.toList with
      | nil=>rw [hi'] at hi;cases hi
      | cons u us =>
        rw [hi'] at hi;cases hi with
        | cons _ t _=>exact ⟨t,by rw [← Array.getElem?_toList,hi'];rfl⟩
     obtain ⟨t,e⟩:=this;refine ⟨_ :: fs,.cons g c d e h1,by rw [n15_,n15_,h2],fun v hv=>?_⟩
     rcases n12_.mp hv with rfl|hv
     · exact ⟨_,_,rfl⟩
     · exact h3 v hv
end
end L2
namespace L2
open PySem PySem.Spec PyProof.Rows PySem.W
abbrev lexF (kl:List (List Int)) (i j:Nat):Bool:=HT.lexLt (kl.getD i []) (kl.getD j [])
variable {α:Type} {D a b e j l t z:Addr} {A:Around} {ys:Array Value} {X:Cx} {env:Env} {elt iter tg:Expr} {h':Heap} {H H' H1 H2:Hp} {pins:List (Addr×Obj)} {kvs:List (List Key×V)} {fr:List (Option Nat)} {cl:List (Str×Addr)} {ch:List Addr} {ns:List Int} {N:List Str} {vs:List V} {us:List Value} {i k m n t' x1:Nat} {u0 u1:Option V} {p2 pos tp:Pos} {P prog:Program} {scope:Scope} {s:Shared} {rest σ:St} {x:Str} {ta:TA} {te:TE} {g:TG} {wi:TI} {tt:TT} {v y:V} {c d u:Value} {E Q:Value→Shared→Prop} {w:World}
theorem Zrn {kl:List (List Int)} (nd:kl.Nodup) (hm:∀ k∈kl,k.length=m):Ord kl.length (lexF kl) where
 irr:=fun i _=>Zab _
 ant:=fun i j hi hj ne=>by
  have e1:kl.getD i []=kl[i]:=by simp [n4_,hi]
  have e2:kl.getD j []=kl[j]:=by simp [n4_,hj]
  show HT.lexLt _ _ = !HT.lexLt _ _
  rw [e1,e2];exact Zda _ _ (by rw [hm _ (n44_ hi),hm _ (n44_ hj)]) fun z=>ne ((n66_ nd).mp z)
 tr:=fun i j k hi hj hk h1 h2=>by
  have e:∀ i (h:i<kl.length),(kl.getD i []).length=m:=fun i h=>by
   have:kl.getD i []=kl[i]:=by simp [n4_,h]
   rw [this];exact hm _ (n44_ h)
  exact Zc5 _ _ _ (by rw [e i hi,e j hj]) (by rw [e j hj,e k hk]) h1 h2
theorem Zfi (r:Vals vs us):∀ (p:List Nat),(∀ i∈p,i<vs.length)→Vals (p.map fun i=>vs.getD i .non) (p.map fun i=>us.getD i Value.none)
 | [],_=>.nil
 | i :: p,h=>by
   have hi:i<vs.length:=h i (by simp);obtain ⟨u,e,ru⟩:=r.get (n1_ hi);refine .cons ?_ (Zfi r p fun j hj=>h j (n17_ _ hj));show RelV (vs.getD i .non) (us.getD i Value.none)
   rw [show vs.getD i .non=vs[i] by simp [n4_,hi],show us.getD i Value.none=u by simp [n4_,e]];exact ru
section
variable {X:Cx}
end
abbrev ZR (h:Heap) (z t o:Addr) (f0:Value) (f1:Bool):Prop:=h.get? z=some { cls:=.type "zip",dict:=none,data:=.fields #[f0,.bool f1,.bool false,.ref t,.ref o],slots:=#[] }
def ZSt (h:Heap) (z t o:Addr):Prop:=∃ f0 f1,ZR h z t o f0 f1∧(f0=.none∨∃ T,f0=rawInt T)
section
variable {prog:Program} {w:World} {A:Around} {E:Value→Shared→Prop} {s:Shared} {k l:SK}
theorem Zii {M:Model} {Q:Option Obj→Shared→Prop} (h:Q (s.heap.get? a) s):wpAny M A (loadIfAlive a) Q E s:=fun _ _ _=>h
theorem Zi2 {o:Addr} {Q:Bool→Shared→Prop} (hz:ZSt s.heap z t o) (q:∀ (b:Bool) (h1:Heap),ZSt h1 z t o→Heap.SameBut z s.heap h1→Q b { s with heap:=h1 }):wpAny (model prog w) A (n29_ (.ref z)) Q E s:=by
 obtain ⟨f0,f1,hz,hf⟩:=hz;unfold n29_;refine n0_ (wpAny_field hz rfl (x:=f0) rfl ?_)
 rcases hf with rfl|⟨T,rfl⟩
 · exact n3_ (q true s.heap ⟨_,_,hz,.inl rfl⟩ (Heap.SameBut.refl ..))
 · show wpAny _ _ (loadIfAlive _ >>= _) _ _ s
   refine n0_ (Zii ?_);split
   · exact n3_ (q true s.heap ⟨_,_,hz,.inr ⟨T,rfl⟩⟩ (Heap.SameBut.refl ..))
   · refine n0_ (wpAny_field hz rfl (x:=.bool f1) rfl ?_);split
     · refine n0_ (wpAny_setField_rec hz (by simp) fun h1 z1 s1=>n3_ (q false h1 ⟨_,true,z1,.inr ⟨T,rfl⟩⟩ s1))
     · exact n3_ (q false s.heap ⟨_,_,hz,.inr ⟨T,rfl⟩⟩ (Heap.SameBut.refl ..))
theorem Zf7 {o i:Addr} {xs:Array Value} {x y:Value} (D:ZP z t o i j a b)
 (hz:ZSt s.heap z t o) (ht:IsPair s.heap t (.ref i) (.ref j)) (ho:IsPair s.heap o c d)
 (hi:k.It s.heap i a m) (hj:l.It s.heap j b n) (ha:k.Is s.heap a xs) (hb:l.Is s.heap b ys) (hx:xs[m]? = some x) (hy:ys[n]? = some y)
 (q:∀ h1,ZSt h1 z t o→(∃ c d,IsPair h1 o c d)→k.It h1 i a (m+1)→l.It h1 j b (n+1)→IsPair h1 s.z x y→h1.objs.size=s.z+1 →
   (∀ e u,e≠z→e≠o→e≠i→e≠j→s.heap.get? e=some u→h1.get? e=some u)→Q (.ref s.z) { s with heap:=h1 }) :
 wpAny (model prog w) A (Builtin.«zip.__next__» ⟨[.ref z],[]⟩) (fun fin s'=>∃ v,fin=.done (.ret v)∧Q v s') E s:=by
 obtain ⟨f0,f1,hz0,hf⟩:=id hz;refine n0_ (m:=field (.ref z) 2) (wpAny_field hz0 rfl (x:=.bool false) rfl ?_);refine n0_ (m:=field (.ref z) 3) (wpAny_field hz0 rfl (x:=.ref t) rfl (n0_ (wpAny_seqItems ht rfl ?_)));refine n0_ (m:=n29_ (.ref z)) (Zi2 hz fun fr h0 hz' s0=>?_);have ho0:IsPair h0 o c d:=s0.extBut _ _ D.oz ho;have hi0:k.It h0 i a m:=hi.at fun u e=>s0.extBut _ _ D.iz e;have hj0:l.It h0 j b n:=hj.at fun u e=>s0.extBut _ _ D.jz e;have ha0:k.Is h0 a xs:=ha.at fun u e=>s0.extBut _ _ D.az e;have hb0:l.Is h0 b ys:=hb.at fun u e=>s0.extBut _ _ D.bz e;have n0:h0.objs.size=s.z:=s0.1;obtain ⟨g0,g1,hz0,hg⟩:=hz';cases fr with
 | true =>
   simp only [if_true];refine n0_ (wpAny_rule (n0_ (wpAny_field hz0 rfl (x:=.ref o) rfl (n0_ (wpAny_setField_rec hz0 (by simp) fun h1 z1 s1=>?_)))));replace z1:ZR h1 z t o .ellipsis g1:=z1;refine n0_ ?_;simp only [List.zipIdx_cons,List.zipIdx_nil,List.forIn_cons,List.forIn_nil];refine n0_ (n0_ (wpAny_onRaise (n0_ (m:=n20_ (.ref i)) ?_)));refine SK.draw (hi0.at fun u e=>s1.extBut _ _ D.iz e) (ha0.at fun u e=>s1.extBut _ _ D.az e) hx fun h2 i2 s2=>n3_ ?_;have o2:IsPair h2 o c d:=s2.extBut _ _ D.oi (s1.extBut _ _ D.oz ho0);refine n0_ (wpAny_seqItems o2 rfl (n0_ (wpAny_updateSeq_pair o2 fun h3 o3 s3=>?_)));replace o3:IsPair h3 o x d:=o3;refine n0_ (wpAny_letGo (n3_ (n0_ (n0_ (wpAny_onRaise (n0_ (m:=n20_ (.ref j)) ?_))))));refine SK.draw (hj0.at fun u e=>s3.extBut _ _ D.oj.symm (s2.extBut _ _ D.ij.symm (s1.extBut _ _ D.jz e))) (hb0.at fun u e=>s3.extBut _ _ D.bo (s2.extBut _ _ D.bi (s1.extBut _ _ D.bz e))) hy fun h4 j4 s4=>n3_ ?_;have o4:IsPair h4 o x d:=s4.extBut _ _ D.oj o3;refine n0_ (wpAny_seqItems o4 rfl (n0_ (wpAny_updateSeq_pair o4 fun h5 o5 s5=>?_)));replace o5:IsPair h5 o x y:=o5;refine n0_ (wpAny_letGo (n3_ (n3_ (n0_ (wpAny_seqItems o5 rfl (n0_ (wpAny_newTuple ?_)))))));have sz:h5.objs.size=s.z:=by rw [s5.1,s4.1,s3.1,s2.1,s1.1,n0]
   have z5:ZR h5 z t o .ellipsis g1:=s5.extBut _ _ D.oz.symm (s4.extBut _ _ D.jz.symm (s3.extBut _ _ D.oz.symm (s2.extBut _ _ D.iz.symm z1)));have k5:∀ e u,e≠z→e≠o→e≠i→e≠j→s.heap.get? e=some u→h5.get? e=some u:=fun e u e1 e2 e3 e4 g=>s5.extBut _ _ e2 (s4.extBut _ _ e4 (s3.extBut _ _ e2 (s2.extBut _ _ e3 (s1.extBut _ _ e1 (s0.extBut _ _ e1 g)))));have i5:k.It h5 i a (m+1):=i2.at fun u e=>s5.extBut _ _ D.oi.symm (s4.extBut _ _ D.ij (s3.extBut _ _ D.oi.symm e));have j5:l.It h5 j b (n+1):=j4.at fun u e=>s5.extBut _ _ D.oj.symm e;have zl:z<h5.objs.size:=n11_ z5;refine n0_ (m:=Builtin.SmallTypes.ownedTupleHandOut (.ref z) (.ref h5.objs.size)) ?_;unfold Builtin.SmallTypes.ownedTupleHandOut;have z6:ZR (h5.push { cls:=.type "tuple",data:=.seq #[x,y] }) z t o .ellipsis g1:=n2_ _ z5;refine n0_ (wpAny_setField_rec z6 (by simp) fun h7 z7 s7=>?_);replace z7:ZR h7 z t o (rawInt h5.objs.size) g1:=z7;refine wpAny_setField_rec z7 (by simp) fun h8 z8 s8=>?_;replace z8:ZR h8 z t o (rawInt h5.objs.size) false:=z8;have up:∀ e u,e≠z→h5.get? e=some u→h8.get? e=some u:=fun e u e1 g=>s8.extBut _ _ e1 (s7.extBut _ _ e1 (n2_ _ g));have T8:IsPair h8 h5.objs.size x y:=s8.extBut _ _ (n59_ zl) (s7.extBut _ _ (n59_ zl) (n8_ _ rfl));have l8:h8.objs.size=h5.objs.size+1:=by rw [s8.1,s7.1,n54_]
   rw [sz] at T8 l8;refine n3_ ⟨_,rfl,?_⟩;show Q (.ref h5.objs.size) _
   rw [sz];exact q h8 ⟨_,_,z8,.inr ⟨_,rfl⟩⟩ ⟨x,y,up _ _ D.oz o5⟩ (i5.at fun u e=>up _ u D.iz e) (j5.at fun u e=>up _ u D.jz e) T8 l8 fun e u e1 e2 e3 e4 g=>up e u e1 (k5 e u e1 e2 e3 e4 g)
 | false =>
   simp only [n21_,if_false];refine n0_ ?_;rw [← Array.forIn_toList];simp only [List.forIn_cons,List.forIn_nil];refine n0_ (n0_ (n31_ (n0_ (m:=n20_ (.ref i)) (SK.draw hi0 ha0 hx fun h2 i2 s2=>n3_ (n3_ ?_)))));refine n0_ (n0_ (n31_ (n0_ (m:=n20_ (.ref j)) (SK.draw (hj0.at fun u e=>s2.extBut _ _ D.ij.symm e) (hb0.at fun u e=>s2.extBut _ _ D.bi e) hy fun h4 j4 s4=>n3_ (n3_ ?_)))));refine n3_ ?_;have sz:h4.objs.size=s.z:=by rw [s4.1,s2.1,n0]
   have z4:ZR h4 z t o g0 g1:=s4.extBut _ _ D.jz.symm (s2.extBut _ _ D.iz.symm hz0);refine n0_ (wpAny_newTuple (n3_ ⟨_,rfl,?_⟩) (z2_));show Q (.ref h4.objs.size) _
   have up:∀ e u,h4.get? e=some u→(h4.push { cls:=.type "tuple",data:=.seq #[x,y] }).get? e=some u:=fun e u g=>n2_ _ g;have T4:IsPair (h4.push { cls:=.type "tuple",data:=.seq #[x,y] }) h4.objs.size x y:=n8_ _ rfl;rw [sz] at T4 ⊢;refine q _ ⟨_,_,up _ _ z4,hg⟩ ⟨c,d,up _ _ (s4.extBut _ _ D.oj (s2.extBut _ _ D.oi ho0))⟩ (i2.at fun u e=>up _ u (s4.extBut _ _ D.ij e)) (j4.at fun u e=>up _ u e) T4 (by rw [n54_,sz]) fun e u e1 e2 e3 e4 g=>up e u (s4.extBut _ _ e4 (s2.extBut _ _ e3 (s0.extBut _ _ e1 g)))
theorem Zjf {o i:Addr} {xs:Array Value} {Q:Fin→Shared→Prop} (hh:A.handled=none) (D:ZP z t o i j a b)
 (hz:ZSt s.heap z t o) (ht:IsPair s.heap t (.ref i) (.ref j)) (ho:IsPair s.heap o c d)
 (hi:k.It s.heap i a m) (hj:l.It s.heap j b n) (ha:k.Is s.heap a xs) (hb:l.Is s.heap b ys) (hx:xs[m]? = none∨ys[n]? = none)
 (q:∀ h1 e,(∀ e u,e≠z→e≠o→e≠i→e≠j→s.heap.get? e=some u→h1.get? e=some u)→(∃ u,h1.get? e=some u∧u.cls=.type "StopIteration")→E (.ref e) { s with heap:=h1 }) :
 wpAny (model prog w) A (Builtin.«zip.__next__» ⟨[.ref z],[]⟩) Q E s:=by
 obtain ⟨f0,f1,hz0,hf⟩:=id hz;refine n0_ (m:=field (.ref z) 2) (wpAny_field hz0 rfl (x:=.bool false) rfl ?_);refine n0_ (m:=field (.ref z) 3) (wpAny_field hz0 rfl (x:=.ref t) rfl (n0_ (wpAny_seqItems ht rfl ?_)));refine n0_ (m:=n29_ (.ref z)) (Zi2 hz fun fr h0 hz' s0=>?_);have ho0:IsPair h0 o c d:=s0.extBut _ _ D.oz ho;have hi0:k.It h0 i a m:=hi.at fun u e=>s0.extBut _ _ D.iz e;have hj0:l.It h0 j b n:=hj.at fun u e=>s0.extBut _ _ D.jz e;have ha0:k.Is h0 a xs:=ha.at fun u e=>s0.extBut _ _ D.az e;have hb0:l.Is h0 b ys:=hb.at fun u e=>s0.extBut _ _ D.bz e;obtain ⟨g0,g1,hz0,hg⟩:=hz';cases fr with
 | true =>
   simp only [if_true];refine n0_ (wpAny_rule (n0_ (wpAny_field hz0 rfl (x:=.ref o) rfl (n0_ (wpAny_setField_rec hz0 (by simp) fun h1 z1 s1=>?_)))));replace z1:ZR h1 z t o .ellipsis g1:=z1;refine n0_ ?_;simp only [List.zipIdx_cons,List.zipIdx_nil,List.forIn_cons,List.forIn_nil];refine n0_ (n0_ (wpAny_onRaise (n0_ (m:=n20_ (.ref i)) ?_)));cases hm:xs[m]? with
   | none =>
     refine SK.dry hh (hi0.at fun u e=>s1.extBut _ _ D.iz e) (ha0.at fun u e=>s1.extBut _ _ D.az e) hm fun h2 e s2 ⟨u,g,cu⟩=>?_;have z2:ZR h2 z t o .ellipsis g1:=s2 _ _ D.iz.symm z1;have ez:e≠z:=fun r=>by subst r;rw [z2] at g;cases g;simp at cu
     exact wpAny_setField_rec z2 (by simp) fun h3 _ s3=>q h3 e (fun e' u' e1 _ e3 _ r=>s3.extBut _ _ e1 (s2 _ _ e3 (s1.extBut _ _ e1 (s0.extBut _ _ e1 r)))) ⟨u,s3.extBut _ _ ez g,cu⟩
   | some x =>
     have hn:ys[n]? = none:=by rcases hx with r|r;(rw [hm] at r;cases r);exact r
     refine SK.draw (hi0.at fun u e=>s1.extBut _ _ D.iz e) (ha0.at fun u e=>s1.extBut _ _ D.az e) hm fun h2 i2 s2=>n3_ ?_;have o2:IsPair h2 o c d:=s2.extBut _ _ D.oi (s1.extBut _ _ D.oz ho0);refine n0_ (wpAny_seqItems o2 rfl (n0_ (wpAny_updateSeq_pair o2 fun h3 o3 s3=>?_)));refine n0_ (wpAny_letGo (n3_ (n0_ (n0_ (wpAny_onRaise (n0_ (m:=n20_ (.ref j)) ?_))))));refine SK.dry hh (hj0.at fun u e=>s3.extBut _ _ D.oj.symm (s2.extBut _ _ D.ij.symm (s1.extBut _ _ D.jz e))) (hb0.at fun u e=>s3.extBut _ _ D.bo (s2.extBut _ _ D.bi (s1.extBut _ _ D.bz e))) hn fun h4 e s4 ⟨u,g,cu⟩=>?_;have z4:ZR h4 z t o .ellipsis g1:=s4 _ _ D.jz.symm (s3.extBut _ _ D.oz.symm (s2.extBut _ _ D.iz.symm z1));have ez:e≠z:=fun r=>by subst r;rw [z4] at g;cases g;simp at cu
     exact wpAny_setField_rec z4 (by simp) fun h5 _ s5=>q h5 e (fun e' u' e1 e2 e3 e4 r=>s5.extBut _ _ e1 (s4 _ _ e4 (s3.extBut _ _ e2 (s2.extBut _ _ e3 (s1.extBut _ _ e1 (s0.extBut _ _ e1 r)))))) ⟨u,s5.extBut _ _ ez g,cu⟩
 | false =>
   simp only [n21_,if_false];refine n0_ ?_;rw [← Array.forIn_toList];simp only [List.forIn_cons,List.forIn_nil];refine n0_ (n0_ (n31_ (n0_ (m:=n20_ (.ref i)) ?_)));cases hm:xs[m]? with
   | none=>exact SK.dry hh hi0 ha0 hm fun h2 e s2 hu=>q h2 e (fun e' u' e1 _ e3 _ r=>s2 _ _ e3 (s0.extBut _ _ e1 r)) hu
   | some x =>
     have hn:ys[n]? = none:=by rcases hx with r|r;(rw [hm] at r;cases r);exact r
     refine SK.draw hi0 ha0 hm fun h2 i2 s2=>n3_ (n3_ ?_);refine n0_ (n0_ (n31_ (n0_ (m:=n20_ (.ref j)) ?_)));exact SK.dry hh (hj0.at fun u e=>s2.extBut _ _ D.ij.symm e) (hb0.at fun u e=>s2.extBut _ _ D.bi e) hn fun h4 e s4 hu=>q h4 e (fun e' u' e1 _ e3 e4 r=>s4 _ _ e4 (s2.extBut _ _ e3 (s0.extBut _ _ e1 r))) hu
theorem Zkl {o i:Addr} {xs:Array Value} {x y old:Value} {Q:Option Value→Shared→Prop} (D:ZP z t o i j a b) (ne:e≠z∧e≠t∧e≠o∧e≠i∧e≠j∧a≠e∧b≠e)
 (he:IsEnum s.heap e z n old) (hz:ZSt s.heap z t o) (ht:IsPair s.heap t (.ref i) (.ref j)) (ho:IsPair s.heap o c d)
 (hi:k.It s.heap i a n) (hj:l.It s.heap j b n) (ha:k.Is s.heap a xs) (hb:l.Is s.heap b ys) (hx:xs[n]? = some x) (hy:ys[n]? = some y)
 (q:∀ h1 tk,IsEnumOut h1 e z ((n:Int)+1) (.ref s.z) (s.z+1)→ZSt h1 z t o→IsPair h1 t (.ref i) (.ref j)→(∃ c d,IsPair h1 o c d)→k.It h1 i a (n+1)→l.It h1 j b (n+1)→IsPair h1 s.z x y→IsPair h1 (s.z+1) (.int n tk) (.ref s.z) →
   (∀ f u,f≠e→f≠z→f≠o→f≠i→f≠j→s.heap.get? f=some u→h1.get? f=some u)→Q (some (.ref (s.z+1))) { s with heap:=h1,toks:=tk+1 }) :
 wpAny (model prog w) A (pyNext (.ref e)) Q E s:=by
 have hT:s.TypeIs (.ref e) "enumerate" := ⟨_,he,rfl⟩;obtain ⟨n1,n2,n3,n4,n5,n6,n7⟩:=ne;unfold pyNext;refine n0_ (wpAny_attempt (wpAny_callSpecial?_slot (name:=Str.ofString "__next__") hT F.slot_enumerate_next (wpAny_call_entry F.slot_enumerate_next hT F.entry_enumerate_next ?_ (F.args_enumerate_next_1 _))));refine n0_ (m:=field (.ref e) 2) (wpAny_field he rfl (x:=.ref z) rfl ?_);obtain ⟨f0,f1,hz0,hf⟩:=id hz;have hTz:s.TypeIs (.ref z) "zip" := ⟨_,hz0,rfl⟩;refine n0_ (m:=n20_ (.ref z)) ?_;unfold n20_;refine n0_ (wpAny_callSpecial?_slot (name:=Str.ofString "__next__") hTz F.slot_zip_next (wpAny_call_entry F.slot_zip_next hTz F.entry_zip_next (Zf7 D hz ht ho hi hj ha hb hx hy fun h1 r1 r2 r3 r4 r5 r6 r7=>n3_ ?_) (F.args_zip_next_1 _)));have he1:IsEnum h1 e z n old:=r7 _ _ n1 n3 n4 n5 he;have el:e<s.z:=n11_ he;refine n0_ (m:=field (.ref e) 3) (wpAny_field he1 rfl (x:=rawInt n) rfl ?_);refine n0_ (m:=field (.ref e) 4) (wpAny_field he1 rfl (x:=.none) rfl ?_);refine n0_ (m:=mkInt n) (wpAny_mkInt ?_);refine n0_ (m:=setField (.ref e) 3 (rawInt ((n:Int)+1))) (wpAny_setField_rec he1 (by simp) fun h2 e2 s2=>?_);replace e2:IsEnum h2 e z ((n:Int)+1) old:=e2;refine n0_ (m:=setField (.ref e) 4 .none) (wpAny_setField_rec e2 (by simp) fun h3 e3 s3=>?_);replace e3:IsEnum h3 e z ((n:Int)+1) old:=e3;refine n0_ (m:=newTuple _) (wpAny_newTuple ?_);have sz:h3.objs.size=s.z+1:=by rw [s3.1,s2.1];exact r6
 have e4:IsEnum (h3.push { cls:=.type "tuple",data:=.seq #[.int n s.toks,.ref s.z] }) e z ((n:Int)+1) old:=n2_ _ e3;have T4:(h3.push { cls:=.type "tuple",data:=.seq #[.int n s.toks,.ref s.z] }).get? (s.z+1)=some { cls:=.type "tuple",data:=.seq #[.int n s.toks,.ref s.z] }:=by rw [← sz];exact n8_ _ rfl
 have k4:∀ f u,f≠e→h1.get? f=some u→(h3.push { cls:=.type "tuple",data:=.seq #[.int n s.toks,.ref s.z] }).get? f=some u:=fun f u fe g=>n2_ _ (s3.extBut _ _ fe (s2.extBut _ _ fe g));generalize h3.push { cls:=.type "tuple",data:=.seq #[.int n s.toks,.ref s.z] }=h4 at e4 T4 k4;refine n0_ (m:=n29_ (.ref e)) ?_;unfold n29_;refine n0_ (wpAny_field e4 rfl (x:=.none) rfl (n3_ ?_));simp only [if_true];refine n0_ (wpAny_rule (n0_ (wpAny_field e4 rfl (x:=old) rfl (n0_ (wpAny_setField_rec e4 (by simp) fun h5 e5 s5=>?_)))));replace e5:IsEnum h5 e z ((n:Int)+1) (.ref s.z):=e5;refine n0_ ?_;unfold Builtin.SmallTypes.ownedTupleHandOut;refine n0_ (wpAny_setField_rec e5 (by simp) fun h6 e6 s6=>?_);refine wpAny_setField_rec e6 (by simp) fun h7 e7 s7=>?_;rw [sz] at e7;replace e7:IsEnumOut h7 e z ((n:Int)+1) (.ref s.z) (s.z+1):=e7;refine n0_ (wpAny_letGo (n3_ ⟨_,rfl,n3_ ?_⟩));rw [sz];have up:∀ f u,f≠e→h1.get? f=some u→h7.get? f=some u:=fun f u fe g=>s7.extBut _ _ fe (s6.extBut _ _ fe (s5.extBut _ _ fe (k4 f u fe g)));obtain ⟨g0,g1,z1,hg⟩:=r1;obtain ⟨c',d',o1⟩:=r2;refine q h7 s.toks e7 ⟨g0,g1,up _ _ n1.symm z1,hg⟩ (up _ _ n2.symm (r7 _ _ D.tz D.to D.ti D.tj ht)) ⟨c',d',up _ _ n3.symm o1⟩ (r3.at fun u g=>up _ u n4.symm g) (r4.at fun u g=>up _ u n5.symm g) (up _ _ (n59_ el) r5) ?_ fun f u f1 f2 f3 f4 f5 g=>up f u f1 (r7 f u f2 f3 f4 f5 g);have ne:s.z+1≠e:=n59_ (n68_ el);exact s7.extBut _ _ ne (s6.extBut _ _ ne (s5.extBut _ _ ne T4))
theorem Zmy {o i:Addr} {xs:Array Value} {old:Value} {Q:Option Value→Shared→Prop} (hh:A.handled=none) (D:ZP z t o i j a b) (ne:e≠z∧e≠t∧e≠o∧e≠i∧e≠j∧a≠e∧b≠e)
 (he:IsEnum s.heap e z n old) (hz:ZSt s.heap z t o) (ht:IsPair s.heap t (.ref i) (.ref j)) (ho:IsPair s.heap o c d)
 (hi:k.It s.heap i a n) (hj:l.It s.heap j b n) (ha:k.Is s.heap a xs) (hb:l.Is s.heap b ys) (hx:xs[n]? = none∨ys[n]? = none)
 (q:∀ h1,(∀ f u,f≠e→f≠z→f≠o→f≠i→f≠j→s.heap.get? f=some u→h1.get? f=some u)→Q none { s with heap:=h1 }) :
 wpAny (model prog w) A (pyNext (.ref e)) Q E s:=by
 have hT:s.TypeIs (.ref e) "enumerate" := ⟨_,he,rfl⟩;unfold pyNext;refine n0_ (wpAny_attempt (wpAny_callSpecial?_slot (name:=Str.ofString "__next__") hT F.slot_enumerate_next (wpAny_call_entry F.slot_enumerate_next hT F.entry_enumerate_next ?_ (F.args_enumerate_next_1 _))));refine n0_ (m:=field (.ref e) 2) (wpAny_field he rfl (x:=.ref z) rfl ?_);obtain ⟨f0,f1,hz0,hf⟩:=id hz;have hTz:s.TypeIs (.ref z) "zip" := ⟨_,hz0,rfl⟩;refine n0_ (m:=n20_ (.ref z)) ?_;unfold n20_;refine n0_ (wpAny_callSpecial?_slot (name:=Str.ofString "__next__") hTz F.slot_zip_next (wpAny_call_entry F.slot_zip_next hTz F.entry_zip_next (Zjf hh D hz ht ho hi hj ha hb hx fun h1 x r1 ⟨u,g,cu⟩=>?_) (F.args_zip_next_1 _)));exact n0_ (wpAny_isInstance (T := "StopIteration") (b:=true) ⟨u,g,cu⟩ isSubtype_stop (n3_ (q _ fun f u _ f2 f3 f4 f5 r=>r1 f u f2 f3 f4 f5 r)))
end
open AutoSeq1 (wpAny_loadPart')
section
variable {X:Cx} {pins:List (Addr×Obj)} {σ:List (Option V)} {H H':Hp} {s:Shared} {h':Heap}
theorem Inv.turnGen (I:Inv X pins σ H s) (k:∀ b u,b∉ch→s.heap.get? b=some u→h'.get? b=some u) (hf:∀ b∈ch,FpOk X pins H b)
 (old:∀ b u,H b=some u→H' b=some u) (non:∀ b u,s.heap.get? b=some u→H b=none→H' b=none) (new:∀ b u,H b=none→H' b=some u→ObjOk X.prog X.w H' h' b u):Inv X pins σ H' { s with heap:=h',toks:=t' }:=by
 have nc:∀ b u,H b=some u→b∉ch:=fun b u e z=>by rw [(hf b z).1] at e;cases e
 refine I.step (g':=s.gens) (d':=s.drawn) (ch:=ch) (fun b hb=>?_) (fun b u _ _ hc e _=>k b u hc e) (fun b u _ _ hc e _=>⟨u.slots,k b u hc e⟩) (fun b u _ e n=>non b u e n)
  (fun b u hc e=>⟨u,k b u hc e⟩) (fun b xs e=>old b _ e) (fun b u v e=>old b _ e) (fun b ps e=>⟨#[],by rw [old b _ e];simp⟩) (fun m hm=>?_) (fun b u e=>?_) I.bare
 · obtain ⟨f0,f1,f2,f3,f4,f5⟩:=hf b hb;exact ⟨f3,f1,f4,f5⟩
 · obtain ⟨u,es,ep,hu,r⟩:=hm;exact ⟨u,es,ep,k _ u (fun z=>(hf _ z).2.1 rfl) hu,r⟩
 · cases hb:H b with
   | none=>exact new b u hb e
   | some v =>
     rw [old b v hb] at e;cases e
     refine (I.hok b _ hb).stay (fun c w hc q=>k c w ?_ q) (fun c q=>old c _ q) fun c xs q=>old c _ q
     rcases hc with z|z
     · rw [z];exact nc b _ hb
     · exact nc c _ z
end
noncomputable def Itez (k l:SK) (K:PySem.W.Frag) (a b:Addr):It :=
 ⟨fun i H=>∃ xs ys x y,k.Sq K H a xs∧l.Sq K H b ys∧xs[i]? = some x∧ys[i]? = some y,
  fun i H v H'=>∃ p p' x y,v=.ref p'∧H p=none∧H p'=none∧p≠p'∧H'=upd (upd H p (.tup [x,y])) p' (.tup [.int i,.ref p])∧(∀ xs,k.Sq K H a xs→xs[i]? = some x)∧∀ ys,l.Sq K H b ys→ys[i]? = some y,
  fun i H=>∃ xs ys,k.Sq K H a xs∧l.Sq K H b ys∧(xs.length≤i∨ys.length≤i)⟩
theorem Zgl {K:PySem.W.Frag} {es:List Expr} {k l:SK} {o i:Addr} (D:ZP z t o i j a b) (ne:e≠z∧e≠t∧e≠o∧e≠i∧e≠j∧a≠e∧b≠e) :
 Turn P w K (.Tuple es x1 tp) (Itez k l K a b) [e,z,t,o,i,j] e (fun n h=>(∃ old,IsEnum h e z n old)∧ZSt h z t o∧IsPair h t (.ref i) (.ref j)∧(∃ c d,IsPair h o c d)∧k.It h i a n∧l.It h j b n) where
 mem:=by simp
 obj:=fun n h st f hf=>by
  obtain ⟨⟨old,h0⟩,⟨f0,f1,h1,_⟩,h2,⟨c,d,h3⟩,h4,h5⟩:=st;simp only [n12_,n13_,or_false] at hf
  rcases hf with rfl|rfl|rfl|rfl|rfl|rfl
  · exact ⟨_,h0,fun v q=>by cases (show Data.fields _=Data.cell v from q)⟩
  · exact ⟨_,h1,fun v q=>by cases (show Data.fields _=Data.cell v from q)⟩
  · exact ⟨_,h2,fun v q=>by cases (show Data.seq _ _=Data.cell v from q)⟩
  · exact ⟨_,h3,fun v q=>by cases (show Data.seq _ _=Data.cell v from q)⟩
  · obtain ⟨u,e,_,q⟩:=h4.ex;exact ⟨u,e,fun v r=>by rw [q] at r;cases r⟩
  · obtain ⟨u,e,_,q⟩:=h5.ex;exact ⟨u,e,fun v r=>by rw [q] at r;cases r⟩
 keep:=fun n h h' st f=>by
  obtain ⟨⟨old,h0⟩,⟨f0,f1,h1,hf⟩,h2,⟨c,d,h3⟩,h4,h5⟩:=st;exact ⟨⟨old,f e (by simp) _ h0⟩,⟨f0,f1,f z (by simp) _ h1,hf⟩,f t (by simp) _ h2,⟨c,d,f o (by simp) _ h3⟩,h4.at fun u q=>f i (by simp) u q,h5.at fun u q=>f j (by simp) u q⟩
 item:=by
  intro X hP hw hK hc n pins s σ H E I hf st hg;subst hP hw hK;obtain ⟨⟨old,h0⟩,hz,h2,⟨c,d,h3⟩,h4,h5⟩:=st;obtain ⟨xs,ys,x,y,q1,q2,hx,hy⟩:=hg;obtain ⟨us,ru,pu⟩:=q1.is I;obtain ⟨vs,rv,pv⟩:=q2.is I;obtain ⟨u,hu,ux⟩:=ru.get hx;obtain ⟨v,hv,vy⟩:=rv.get hy;have lt:∀ {b o'},s.heap.get? b=some o'→b≠s.z∧b≠s.z+1:=fun q=>⟨n22_ (n11_ q),n22_ (n68_ (n11_ q))⟩;refine Zkl D ne h0 hz h2 h3 h4 h5 pu pv (x:=u) (y:=v) (by simpa using hu) (by simpa using hv) fun g tk r0 r1 r2 r3 r4 r5 r6 r7 r8=>?_;refine ⟨_,rfl,wpAny_letOwnedTupleGo_enum r0 fun g2 z2 s2=>?_⟩;have hp:H s.z=none:=I.hok.fresh (n7_ _);have hp':H (s.z+1)=none:=I.hok.fresh (Nat.le_succ _);have pp:s.z≠s.z+1:=n22_ (Nat.lt_succ_self _);have T1:IsPair g2 s.z u v:=s2.extBut _ _ (Ne.symm (lt h0).1) r6;have T2:IsPair g2 (s.z+1) (.int n tk) (.ref s.z):=s2.extBut _ _ (Ne.symm (lt h0).2) r7
  have I2:Inv X pins σ (upd (upd H s.z (.tup [x,y])) (s.z+1) (.tup [.int n,.ref s.z])) { s with heap:=g2,toks:=tk+1 }:=by
   refine I.turnGen (ch:=[e,z,o,i,j]) (fun f o' nf q=>?_) (fun f hf'=>hf f ?_) (fun b u' q=>?_) (fun b u' q n'=>?_) (fun b u' q r=>?_)
   · simp only [n12_,n13_,or_false,not_or] at nf;exact s2.extBut _ _ nf.1 (r8 f o' nf.1 nf.2.1 nf.2.2.1 nf.2.2.2.1 nf.2.2.2.2 q)
   · simp only [n12_,n13_,or_false] at hf' ⊢
     rcases hf' with q|q|q|q|q<;>simp [q]
   · rw [Zj (Zm q hp'),Zj (Zm q hp)];exact q
   · rw [Zj (lt q).2,Zj (lt q).1];exact n'
   · by_cases e1:b=s.z+1
     · subst e1;rw [Zc] at r;cases r;exact ⟨z2_,[.int n tk,.ref s.z],.cons ⟨tk,rfl⟩ (.cons rfl .nil),⟨_,T2,rfl,_,rfl⟩⟩
     · rw [Zj e1] at r
       by_cases e2:b=s.z
       · subst e2;rw [Zc] at r;cases r;exact ⟨z2_,[u,v],.cons ux (.cons vy .nil),⟨_,T1,rfl,_,rfl⟩⟩
       · rw [Zj e2,q] at r;cases r
  obtain ⟨n1,n2,n3,n4,n5,n6,n7⟩:=ne;obtain ⟨g0,g1,z1,hg1⟩:=r1;obtain ⟨c',d',o1⟩:=r3;refine ⟨.ref (s.z+1),_,I2,rfl,⟨_,_,x,y,rfl,hp,hp',pp,rfl,fun xs' q=>by rw [q.inj q1 I];exact hx,fun ys' q=>by rw [q.inj q2 I];exact hy⟩,⟨⟨_,by simpa using z2⟩,⟨g0,g1,s2.extBut _ _ n1.symm z1,hg1⟩,s2.extBut _ _ n2.symm r2,⟨c',d',s2.extBut _ _ n3.symm o1⟩,r4.at fun u' q=>s2.extBut _ _ n4.symm q,r5.at fun u' q=>s2.extBut _ _ n5.symm q⟩,fun f hf'=>?_⟩
  have nf:f≠s.z∧f≠s.z+1:=by
   obtain ⟨f0,f1,hz1,_⟩:=hz;simp only [n12_,n13_,or_false] at hf'
   rcases hf' with rfl|rfl|rfl|rfl|rfl|rfl
   · exact lt h0
   · exact lt hz1
   · exact lt h2
   · exact lt h3
   · obtain ⟨_,q,_⟩:=h4.ex;exact lt q
   · obtain ⟨_,q,_⟩:=h5.ex;exact lt q
  rw [Zj nf.2,Zj nf.1];exact (hf f hf').1
 done:=by
  intro X hP hw hK hc n pins s σ H E I hf st hg;subst hP hw hK;obtain ⟨⟨old,h0⟩,hz,h2,⟨c,d,h3⟩,h4,h5⟩:=st;obtain ⟨xs,ys,q1,q2,hl⟩:=hg;obtain ⟨us,ru,pu⟩:=q1.is I;obtain ⟨vs,rv,pv⟩:=q2.is I;have e1:=ru.length;have e2:=rv.length;refine Zmy (I.ok.hd hc) D ne h0 hz h2 h3 h4 h5 pu pv ?_ fun g r=>⟨rfl,?_⟩
  · rcases hl with q|q
    · left;simp;omega
    · right;simp;omega
  · refine I.turnOnly (t':=s.toks) (ch:=[e,z,o,i,j]) (fun f o' nf q=>?_) (fun f hf'=>hf f ?_)
    · simp only [n12_,n13_,or_false,not_or] at nf;exact r f o' nf.1 nf.2.1 nf.2.2.1 nf.2.2.2.1 nf.2.2.2.2 q
    · simp only [n12_,n13_,or_false] at hf' ⊢
      rcases hf' with q|q|q|q|q<;>simp [q]
 self:=fun _ _ _ _ _ st h=>by obtain ⟨⟨old,h1⟩,_⟩:=st;exact wpAny_pyIter_enum h1 h
theorem Ziu (z:Addr) (t o:Addr):Meets (Builtin.«enumerate.__new__» ⟨[.type "enumerate",.ref z],[]⟩) (fun _ R s=>IsZip s.heap z t o .none ∧
 R (.ok (.ret (.ref s.heap.objs.size))) { s with heap:=s.heap.push (Zaf z) }) :=
 .of_wp fun prog w A R s h=>by
  obtain ⟨hp,g,d,tk,os⟩:=s;obtain ⟨hz,h⟩:=h;have hsub:=sub_enumerate;have r1:IsZip (Shared.heap ⟨hp,g,d,tk,os⟩) z t o .none:=hz
  wp_walk using wpAny_loadPart' hz
  refine wpAny_stack_any fun st=>n3_ ?_;split
  · rename_i c _ _ _ _ _
    cases (c == Value.type "enumerate")
    · (wp_walk using wpAny_loadPart' hz,wpAny_pyIter_zip r1);exact ⟨_,rfl,h⟩
    · (wp_walk using wpAny_loadPart' hz,wpAny_pyIter_zip r1);exact ⟨_,rfl,h⟩
  · (wp_walk using wpAny_loadPart' hz,wpAny_pyIter_zip r1);exact ⟨_,rfl,h⟩
section
variable {X:Cx} {es:List Expr} {x1:Nat} {tp:Pos}
def Zoo (k l:SK) (K:PySem.W.Frag) (ta:TA):TI:=fun σ H R=>ta σ H fun vs H1=>∃ a b,vs=[.ref a,.ref b]∧(∃ xs,k.Sq K H1 a xs)∧(∃ ys,l.Sq K H1 b ys)∧R (Itez k l K a b) H1
theorem Zlc (k l:SK) {a b:Expr} {p pos2:Pos} (hg:Gl X "enumerate") (hm:X.mg "enumerate" = none) (hg2:Gl X "zip") (hm2:X.mg "zip" = none) (ha:PA X [a,b] ta)
 (hs:starEach [a,b] X.env=[(false,eval a X.env),(false,eval b X.env)]:=by rfl) (hs2:starEach [b] X.env=[(false,eval b X.env)]:=by rfl)
 (he:starEach [Expr.Call (.Name "zip" p2) [a,b] [] pos2] X.env=[(false,eval (.Call (.Name "zip" p2) [a,b] [] pos2) X.env)]:=by rfl) :
 PI X (.Tuple es x1 tp) (.Call (.Name "enumerate" p) [.Call (.Name "zip" p2) [a,b] [] pos2] [] pos) (Zoo k l X.K ta):=by
 intro pins s σ H R I h;refine Call_ (Zas I hg hm Zef (n43_ ?_ he rfl));rw [he];refine Calls.spliced_cons ?_;refine Call_ (Zas I hg2 hm2 Zdh (n43_ (thn (ha pos2 pins s σ H _ I h) fun us s1 ⟨vs,H1,I1,r1,q1⟩=>?_) (by rw [hs,hs2]) (by rw [hs2];rfl)));obtain ⟨a,b,e,⟨xs,hx⟩,⟨ys,hy⟩,q⟩:=q1;subst e;cases r1 with
 | cons r rr =>
   cases rr with
   | cons r' rr =>
     cases rr
     cases r
     cases r'
     obtain ⟨us,ru,pu⟩:=hx.is I1;obtain ⟨ws,rw',pw⟩:=hy.is I1;have la:a<s1.z:=by obtain ⟨_,_,e,_⟩:=pu.ex;exact n11_ e
     have lb:b<s1.z:=by obtain ⟨_,_,e,_⟩:=pw.ex;exact n11_ e
     refine Zfa pu pw fun h1 m1 m2 m3 m4 m5 m6 m7=>Calls.spliced_nil ?_;refine callType_new F.called_enumerate (by decide) (F.typeCall_enumerate_1 _) (F.newCall_enumerate_1 _) (fun obj=>F.args_object_init_2 obj _) F.entry_enumerate_new (Ziu _ _ _) ⟨m1,?_⟩;have m8:(h1.push (Zaf (s1.z+4))).get? h1.objs.size=some (Zaf (s1.z+4)):=n8_ _ rfl;have up:∀ c o,h1.get? c=some o→(h1.push (Zaf (s1.z+4))).get? c=some o:=fun c o e=>n2_ _ e;rw [m6] at m8;show _∧_
     rw [m6];refine ⟨⟨_,m8,rfl⟩,wpAny_pyIter_enum m8 ?_⟩;have I2:Inv X pins σ H1 { s1 with heap:=h1.push (Zaf (s1.z+4)),toks:=s1.toks }:=I1.kept fun c o e=>up c o (m7 c o e);refine ⟨_,_,_,_,H1,rfl,I2,Zgl (e:=s1.z+5) (z:=s1.z+4) (t:=s1.z+2) (o:=s1.z+3) (i:=s1.z) (j:=s1.z+1) (k:=k) (l:=l) (a:=a) (b:=b) (Zm9 la lb) ?_,⟨⟨_,m8⟩,⟨_,_,up _ _ m1,.inl rfl⟩,up _ _ m2,⟨_,_,up _ _ m3⟩,m4.at fun u e=>up _ u e,m5.at fun u e=>up _ u e⟩,?_,q⟩
     · have la':@LT.lt Nat _ a s1.z:=la;have lb':@LT.lt Nat _ b s1.z:=lb;refine ⟨?_,?_,?_,?_,?_,?_,?_⟩<;>(intro h;have h':@Eq Nat _ _:=h;clear h;omega)
     · exact I1.fps (fp:=[s1.z+5,s1.z+4,s1.z+2,s1.z+3,s1.z,s1.z+1]) (by
        intro e he;simp only [n12_,n13_,or_false] at he
        rcases he with rfl|rfl|rfl|rfl|rfl|rfl<;>omega)
end
def Tk (H H':Hp):Prop:=∀ a xs,H a=some (.tup xs)→H' a=some (.tup xs)
theorem Tk.trans (a:Tk H H1) (b:Tk H1 H2):Tk H H2:=fun p xs e=>b p xs (a p xs e)
theorem Same.tk (s:Same H H'):Tk H H':=fun a xs e=>s a _ e
theorem Tk.of_keep {ys:List V} (k:Keep l H H') (e:H l=some (.lst ys)):Tk H H':=fun a xs q=>k a _ (Zfk q e (by intro z;cases z)) q
theorem Tk.upd_lst {ys zs:List V} (e:H D=some (.lst ys)):Tk H (upd H D (.lst zs)):=fun a xs q=>by rw [Zj (Zfk q e (by intro z;cases z))];exact q
def Al {α:Type} (R:V→α→Prop) (vs:List V) (xs:List α):Prop:=vs.length=xs.length∧∀ (i:Nat) (v:V) (x:α),vs[i]? = some v→xs[i]? = some x→R v x
theorem Al.nil {R:V→α→Prop}:Al R [] []:=⟨rfl,fun i v x e=>by simp at e⟩
theorem Al.snoc {R:V→α→Prop} {xs:List α} {x:α} (h:Al R vs xs) (r:R v x):Al R (vs++[v]) (xs++[x]):=by
 refine ⟨by simp [h.1],fun i w y e1 e2=>?_⟩
 by_cases hi:i<vs.length
 · rw [n58_ hi] at e1;rw [n58_ (by rw [← h.1];exact hi)] at e2;exact h.2 i w y e1 e2
 · have:i=vs.length:=by
    have:=(n19_.mp e1).1
    simp at this;omega
   subst this;rw [n55_ (n7_ _)] at e1;rw [h.1,n55_ (n7_ _)] at e2;simp at e1 e2;subst e1;subst e2;exact r
theorem Al.imp {R S:V→α→Prop} {xs:List α} (h:Al R vs xs) (f:∀ v x,R v x→S v x):Al S vs xs:=⟨h.1,fun i v x e1 e2=>f v x (h.2 i v x e1 e2)⟩
theorem Al.get {R:V→α→Prop} {xs:List α} (h:Al R vs xs) (e:vs[i]? = some v):∃ x,xs[i]? = some x∧R v x:=by
 have hi:i<xs.length:=by rw [← h.1];exact (n19_.mp e).1
 exact ⟨xs[i],n1_ hi,h.2 i v _ e (n1_ hi)⟩
theorem Al.got {R:V→α→Prop} {xs:List α} {x:α} (h:Al R vs xs) (e:xs[i]? = some x):∃ v,vs[i]? = some v∧R v x:=by
 have hi:i<vs.length:=by rw [h.1];exact (n19_.mp e).1
 exact ⟨vs[i],n1_ hi,h.2 i _ x (n1_ hi) e⟩
theorem Al.cons {R:V→α→Prop} {x:α} {xs:List α} (r:R v x) (h:Al R vs xs):Al R (v :: vs) (x :: xs):=by
 refine ⟨by simp [h.1],fun i w y e1 e2=>?_⟩;cases i with
 | zero=>simp at e1 e2;subst e1;subst e2;exact r
 | succ i=>exact h.2 i w y (by simpa using e1) (by simpa using e2)
theorem Al.bls {bs:List Bool} (h:Al (fun v b=>v=V.bl b) vs bs):vs=bs.map V.bl:=by
 refine List.ext_getElem? fun i=>?_;rw [n6_];cases e:bs[i]? with
 | none =>
   have:=List.getElem?_eq_none_iff.mp e
   rw [List.getElem?_eq_none (by rw [h.1];exact this)];rfl
 | some b =>
   obtain ⟨v,ev,rfl⟩:=h.got e;rw [ev];rfl
theorem Al.ints (h:Al (fun v n=>v=V.int n) vs ns):vs=ns.map V.int:=by
 refine List.ext_getElem? fun i=>?_;rw [n6_];cases e:ns[i]? with
 | none =>
   have:=List.getElem?_eq_none_iff.mp e
   rw [List.getElem?_eq_none (by rw [h.1];exact this)];rfl
 | some b =>
   obtain ⟨v,ev,rfl⟩:=h.got e;rw [ev];rfl
theorem Al.of_ints (ns:List Int):Al (fun v n=>v=V.int n) (ns.map V.int) ns:=⟨by simp,fun i v n e1 e2=>by rw [n6_,e2] at e1;exact (Option.some.inj e1).symm⟩
theorem Zkf {J:It} {σ0:St} {Q:VK} (R:Hp→V→α→Prop) (hR:∀ H1 H2 v x,Tk H1 H2→R H1 v x→R H2 v x) (ys_:List α) (hn:ys_.length=n) (hz:n≤1000) (ok:St→Prop) (h0:ok σ0) (hD:H D=none)
 (hgo:∀ i H2,Same H H2→i<n→J.go i H2) (hstop:∀ H2,Same H H2→J.stop n H2)
 (hs:∀ i x σ2 H2 H3 (C:St→V→Hp→Prop),i<n→Same H H2→J.yld i H2 x H3→ok σ2→(∀ σ4 y H5 z,ok σ4→Same H2 H5→ys_[i]? = some z→R H5 y z→C σ4 y H5)→g x σ2 H3 fun σ4 H4=>te σ4 H4 (C σ4))
 (hd:∀ H2 vs,Same H H2→H2 D=some (.lst vs)→Al (R H2) vs ys_→Q (.ref D) H2):LcGo J g tYes te σ0 H D Q:=by
 refine Zjw (n:=n) (fun i σ H2=>Same H H2∧ok σ∧∃ vs,H2 D=some (.lst vs)∧Al (R H2) vs (ys_.take i)) ⟨Same.new hD,h0,[],Zc,by rw [List.take_zero];exact .nil⟩ (fun i σ H2 hi p=>hgo i H2 p.1 hi) (fun σ H2 p=>hstop H2 p.1) (fun i x σ2 H2 H3 hi y p=>?_) (fun σ2 H2 p=>?_)
 · obtain ⟨s2,o2,vs,e2,a2⟩:=p
   have:=hs i x σ2 H2 H3 (fun σ4 y H6=>∃ ys,H6 D=some (.lst ys)∧ys.length<sizeLine∧∃ m',m'<n-i∧LcN n (fun i σ H2=>Same H H2∧ok σ∧∃ vs,H2 D=some (.lst vs)∧Al (R H2) vs (ys_.take i)) (i+1) m' σ4 (upd H6 D (.lst (ys++[y])))) hi s2 y o2 ?_
   · exact this
   · intro σ4 v H5 z o4 s5 ez rz;have e5:H5 D=some (.lst vs):=s5 _ _ e2;refine ⟨vs,e5,?_,n-(i+1),by omega,by omega,rfl,fun b o e=>?_,o4,vs++[v],Zc,?_⟩
     · rw [a2.1,n47_,sizeLine_eq];omega
     · rw [Zj (Zm e hD)];exact s5 _ _ (s2 _ _ e)
     · have tk:Tk H5 (upd H5 D (.lst (vs++[v]))):=Tk.upd_lst e5;have hi':i<ys_.length:=by omega
       rw [List.take_succ_eq_append_getElem hi'];rw [n1_ hi'] at ez;cases ez
       exact (a2.imp fun v x r=>hR _ _ v x tk (hR _ _ v x s5.tk r)).snoc (hR _ _ _ _ tk rz)
 · obtain ⟨s2,_,vs,e2,a2⟩:=p;rw [n52_ (by omega)] at a2;exact hd H2 vs s2 e2 a2
def SK.At (H:Hp) (a:Addr) (vs:List V):SK→Prop
 | .l=>H a=some (.lst vs)
 | .t=>H a=some (.tup vs)
theorem SK.At.sq {k:SK} {K:PySem.W.Frag} (h:k.At H a vs):k.Sq K H a vs:=by
 cases k with
 | l=>exact SqL.of h
 | t=>exact SqT.of h
theorem SK.At.same {k:SK} (h:k.At H a vs) (s:Same H H'):k.At H' a vs:=by
 cases k with
 | l=>exact s _ _ h
 | t=>exact s _ _ h
def SK.Itk (K:PySem.W.Frag) (a:Addr):SK→L2.It
 | .l=>Itl K a
 | .t=>Itt K a
theorem Zmj {k:SK} {K:PySem.W.Frag} (h:k.At H a vs) (hi:i<vs.length):(k.Itk K a).go i H:=by
 cases k with
 | l=>exact ⟨vs,vs[i],SqL.of h,n1_ hi⟩
 | t=>exact ⟨vs,vs[i],SqT.of h,n1_ hi⟩
theorem Zfv {k:SK} {K:PySem.W.Frag} (h:k.At H a vs) (hi:vs.length≤i):(k.Itk K a).stop i H:=by
 cases k with
 | l=>exact ⟨vs,SqL.of h,hi⟩
 | t=>exact ⟨vs,SqT.of h,hi⟩
theorem Zh3 {k:SK} {K:PySem.W.Frag} {x:V} (h:k.At H a vs) (y:(k.Itk K a).yld i H x H'):H'=H∧vs[i]? = some x:=by
 cases k with
 | l=>exact ⟨y.1,y.2 vs (SqL.of h)⟩
 | t=>exact ⟨y.1,y.2 vs (SqT.of h)⟩
theorem lc_T {k:SK} {K:PySem.W.Frag} {Q:VK} (R:Hp→V→α→Prop) (hR:∀ H1 H2 v x,Tk H1 H2→R H1 v x→R H2 v x) (ys:List α) (hn:ys.length=vs.length) (hz:vs.length≤1000) (hD:H D=none) (ha:k.At H a vs)
 (hs:∀ (i:Nat) (w:V) (H2:Hp) (C:V→Hp→Prop),vs[i]? = some w→Same H H2→(∀ y H5 z,Same H2 H5→ys[i]? = some z→R H5 y z→C y H5)→te (some w :: rest) H2 C)
 (hd:∀ H2 us,Same H H2→H2 D=some (.lst us)→Al (R H2) us ys→Q (.ref D) H2):LcGo (k.Itk K a) (Yr 0) tYes te (u0 :: rest) H D Q:=by
 refine Zkf R hR ys hn hz (fun σ=>∃ u,σ=u :: rest) ⟨_,rfl⟩ hD (fun i H2 s hi=>Zmj (ha.same s) hi) (fun H2 s=>Zfv (ha.same s) (n7_ _)) (fun i x σ2 H2 H3 C hi s y o c=>?_) hd;obtain ⟨u,rfl⟩:=o;obtain ⟨rfl,e⟩:=Zh3 (ha.same s) y;exact hs i x H3 (C (some x :: rest)) e s fun y H5 z s5 ez rz=>c _ y H5 z ⟨_,rfl⟩ s5 ez rz
theorem lc_Z {k l:SK} {K:PySem.W.Frag} {ws:List V} {Q:VK} (R:Hp→V→α→Prop) (hR:∀ H1 H2 v x,Tk H1 H2→R H1 v x→R H2 v x) (ys:List α) (hn:ys.length=min vs.length ws.length) (hz:min vs.length ws.length≤1000) (hD:H D=none) (ha:k.At H a vs) (hb:l.At H b ws)
 (hs:∀ (i:Nat) (v w:V) (H2:Hp) (C:V→Hp→Prop),vs[i]? = some v→ws[i]? = some w→Same H H2→(∀ y H5 z,Same H2 H5→ys[i]? = some z→R H5 y z→C y H5)→te (some v :: some w :: rest) H2 C)
 (hd:∀ H2 us,Same H H2→H2 D=some (.lst us)→Al (R H2) us ys→Q (.ref D) H2):LcGo (Itz k l K a b) (gTup K 2 (Y6 (Yr 0) (Y6 (Yr 1) gNil))) tYes te (u0 :: u1 :: rest) H D Q:=by
 refine Zkf R hR ys hn hz (fun σ=>∃ u u',σ=u :: u' :: rest) ⟨_,_,rfl⟩ hD (fun i H2 s hi=>?_) (fun H2 s=>?_) (fun i x σ2 H2 H3 C hi s y o c=>?_) hd
 · have h1:i<vs.length:=by omega
   have h2:i<ws.length:=by omega
   exact ⟨vs,ws,vs[i],ws[i],(ha.same s).sq,(hb.same s).sq,n1_ h1,n1_ h2⟩
 · exact ⟨vs,ws,(ha.same s).sq,(hb.same s).sq,by omega⟩
 · obtain ⟨u,u',rfl⟩:=o;obtain ⟨p,v,w,rfl,hp,rfl,y1,y2⟩:=y;have s3:Same H2 (upd H2 p (.tup [v,w])):=Same.new hp;refine ⟨p,[v,w],rfl,SqT.of Zc,rfl,v,[w],rfl,w,[],rfl,rfl,?_⟩;exact hs i v w _ (C (some v :: some w :: rest)) (y1 vs (ha.same s).sq) (y2 ws (hb.same s).sq) (s.trans s3) fun y H5 z s5 ez rz=>c _ y H5 z ⟨_,_,rfl⟩ (s3.trans s5) ez rz
theorem lc_E {k:SK} {K:PySem.W.Frag} {Q:VK} (R:Hp→V→α→Prop) (hR:∀ H1 H2 v x,Tk H1 H2→R H1 v x→R H2 v x) (f:Nat→Option α) (hz:vs.length≤1000) (hD:H D=none) (ha:k.At H a vs)
 (hs:∀ (i:Nat) (w:V) (H2:Hp) (C:V→Hp→Prop) (N:Hp→Prop),vs[i]? = some w→Same H H2→(∀ y H5 z,Same H2 H5→f i=some z→R H5 y z→C y H5)→(∀ H5,Same H2 H5→f i=none→N H5)→tt (some (.int i) :: some w :: rest) H2 fun b H5=>if b=true then te (some (.int i) :: some w :: rest) H5 C else N H5)
 (hd:∀ H2 us,Same H H2→H2 D=some (.lst us)→Al (R H2) us ((List.range vs.length).filterMap f)→Q (.ref D) H2):LcGo (Ite k K a) (gTup K 2 (Y6 (Yr 0) (Y6 (Yr 1) gNil))) tt te (u0 :: u1 :: rest) H D Q:=by
 refine Zjw (n:=vs.length) (fun i σ H2=>Same H H2∧(∃ u u',σ=u :: u' :: rest)∧∃ us,H2 D=some (.lst us)∧us.length≤i∧Al (R H2) us ((List.range i).filterMap f)) ⟨Same.new hD,⟨_,_,rfl⟩,[],Zc,n7_ _,.nil⟩ (fun i σ H2 hi p=>⟨vs,vs[i],(ha.same p.1).sq,n1_ hi⟩) (fun σ H2 p=>⟨vs,(ha.same p.1).sq,rfl⟩) (fun i x σ2 H2 H3 hi y p=>?_) (fun σ2 H2 p=>?_)
 · obtain ⟨s2,⟨u,u',rfl⟩,us,e2,l2,a2⟩:=p;obtain ⟨q,w,rfl,hq,rfl,y1⟩:=y;have s3:Same H2 (upd H2 q (.tup [.int i,w])):=Same.new hq
   have rg:(List.range (i+1)).filterMap f=(List.range i).filterMap f++(f i).toList:=by
    rw [List.range_succ,List.filterMap_append];cases e:f i<;>simp [e]
   refine ⟨q,[.int i,w],rfl,SqT.of Zc,rfl,_,_,rfl,_,_,rfl,rfl,?_⟩;refine hs i w _ _ _ (y1 vs (ha.same s2).sq) (s2.trans s3) (fun v H5 z s5 ez rz=>?_) (fun H5 s5 ez=>?_)
   · have e5:H5 D=some (.lst us):=s5 _ _ (s3 _ _ e2);refine ⟨us,e5,by rw [sizeLine_eq];omega,vs.length-(i+1),by omega,by omega,rfl,fun b o e=>?_,⟨_,_,rfl⟩,us++[v],Zc,by simp;omega,?_⟩
     · rw [Zj (Zm e hD)];exact s5 _ _ (s3 _ _ (s2 _ _ e))
     · have tk:Tk H5 (upd H5 D (.lst (us++[v]))):=Tk.upd_lst e5;rw [rg,ez];exact (a2.imp fun v x r=>hR _ _ v x tk (hR _ _ v x (s3.trans s5).tk r)).snoc (hR _ _ _ _ tk rz)
   · refine ⟨vs.length-(i+1),by omega,by omega,rfl,s2.trans (s3.trans s5),⟨_,_,rfl⟩,us,s5 _ _ (s3 _ _ e2),by omega,?_⟩;rw [rg,ez];simp only [Option.toList_none,n71_];exact a2.imp fun v x r=>hR _ _ v x (s3.trans s5).tk r
 · obtain ⟨s2,_,us,e2,_,a2⟩:=p;exact hd H2 us s2 e2 a2
abbrev Pnt:=Int×Int
def IsI (H:Hp) (v:V) (ns:List Int):Prop:=∃ a,v=.ref a∧H a=some (.tup (ns.map V.int))
def IsP (H:Hp) (v:V) (p:Pnt):Prop:=IsI H v [p.1,p.2]
theorem IsI.tk (t:Tk H H') (h:IsI H v ns):IsI H' v ns:=let ⟨a,e,q⟩:=h;⟨a,e,t _ _ q⟩
theorem IsP.tk {p:Pnt} (t:Tk H H') (h:IsP H v p):IsP H' v p:=IsI.tk t h
def IsTup' {α:Type} (R:Hp→V→α→Prop) (H:Hp) (v:V) (xs:List α):Prop:=∃ a vs,v=.ref a∧H a=some (.tup vs)∧Al (R H) vs xs
theorem IsTup'.tk {R:Hp→V→α→Prop} (hR:∀ H1 H2 v x,Tk H1 H2→R H1 v x→R H2 v x) {xs:List α} (t:Tk H H') (h:IsTup' R H v xs):IsTup' R H' v xs:=let ⟨a,vs,e,q,r⟩:=h;⟨a,vs,e,t _ _ q,r.imp fun v x=>hR _ _ v x t⟩
structure Pl where
 cs:List Pnt
 ps:List (List Int)
 ts:List Int
 l:Int
 m:Int
def IsCs (H:Hp) (v:V) (cs:List Pnt):Prop:=IsTup' IsP H v cs
def IsPs (H:Hp) (v:V) (ps:List (List Int)):Prop:=IsTup' IsI H v ps
theorem IsCs.tk {cs:List Pnt} (t:Tk H H') (h:IsCs H v cs):IsCs H' v cs:=IsTup'.tk (R:=IsP) (fun _ _ _ _ t r=>IsP.tk t r) t h
theorem IsPs.tk {ps:List (List Int)} (t:Tk H H') (h:IsPs H v ps):IsPs H' v ps:=IsTup'.tk (R:=IsI) (fun _ _ _ _ t r=>IsI.tk t r) t h
def IsPl (H:Hp) (v:V) (P:Pl):Prop:=∃ a c p t s,v=.ref a∧H a=some (.tup [c,p,t,s])∧IsCs H c P.cs∧IsPs H p P.ps∧IsI H t P.ts∧IsI H s [P.l,P.m]
theorem IsPl.tk {P:Pl} (t:Tk H H') (h:IsPl H v P):IsPl H' v P:=let ⟨a,c,p,q,s,e,h1,h2,h3,h4,h5⟩:=h;⟨a,c,p,q,s,e,t _ _ h1,h2.tk t,h3.tk t,h4.tk t,h5.tk t⟩
noncomputable def tn (a b c:Pnt):Int:=(b.1-a.1)*(c.2-a.2)-(c.1-a.1)*(b.2-a.2)
structure Tri where
 a:Pnt
 b:Pnt
 c:Pnt
def tri (a b c:Pnt):Tri:=if tn a b c<0 then ⟨a,c,b⟩ else ⟨a,b,c⟩
noncomputable def Tri.pts (t:Tri):List Pnt:=[t.a,t.b,t.c]
noncomputable def Tri.edges (t:Tri):List (Pnt×Pnt):=[(t.a,t.b),(t.b,t.c),(t.c,t.a)]
def Zbv (p:Pnt) (t:Tri):Bool:=(t.edges.map fun e=>decide (0≤tn e.1 e.2 p)).all id
def Zd1 (e:Pnt×Pnt) (u:Tri):Bool:=(u.pts.map fun q=>decide (tn e.1 e.2 q≤0)).all id
def Xa (t u:Tri):Bool:=t.edges.any fun e=>Zd1 e u
def apart (t u:Tri):Bool:=Xa t u||Xa u t
def IsT (H:Hp) (v:V) (t:Tri):Prop:=∃ a x y z,v=.ref a∧H a=some (.tup [x,y,z])∧IsP H x t.a∧IsP H y t.b∧IsP H z t.c
theorem IsT.tk {u:Tri} (t:Tk H H') (h:IsT H v u):IsT H' v u:=let ⟨a,x,y,z,e,h1,h2,h3,h4⟩:=h;⟨a,x,y,z,e,t _ _ h1,h2.tk t,h3.tk t,h4.tk t⟩
def near (p:Pnt):Prop:=(-100≤p.1∧p.1≤100)∧(-100≤p.2∧p.2≤100)
def Tri.near (t:Tri):Prop:=L2.near t.a∧L2.near t.b∧L2.near t.c
def cAt (cs:List Pnt) (i:Int):Pnt:=cs.getD i.toNat (0,0)
def trOf (cs:List Pnt) (p:List Int):Tri:=tri (cAt cs (p.getD 0 0)) (cAt cs (p.getD 1 0)) (cAt cs (p.getD 2 0))
def dOf (cs:List Pnt) (p:List Int):Int:=tn (cAt cs (p.getD 0 0)) (cAt cs (p.getD 1 0)) (cAt cs (p.getD 2 0))
noncomputable def Zbc (q:(Int→Bool)×Nat) (k:Int):(Int→Bool)×Nat:=(fun k'=>q.1 k'||decide (k'=k),if q.1 k then q.2 else q.2+1)
def cntS (l:List Int):Nat:=(l.foldl Zbc (fun _=>false,0)).2
structure PieceOk (cs:List Pnt) (p:List Int):Prop where
 len:p.length=3
 bd:∀ i∈p,0≤i∧i≤(cs.length:Int)-1
 rise:p.getD 0 0<p.getD 1 0∧p.getD 1 0<p.getD 2 0
 d:dOf cs p≠0
structure PlOk (P:Pl):Prop where
 c3:3≤P.cs.length
 c30:P.cs.length≤30
 nr:∀ p∈P.cs,near p
 nd:P.cs.Nodup
 p1:1≤P.ps.length
 p40:P.ps.length≤40
 pc:∀ p∈P.ps,PieceOk P.cs p
 rise:∀ i:Nat,i+1<P.ps.length→HT.lexLt (P.ps.getD i []) (P.ps.getD (i+1) [])=true
 t1:P.ts.length=P.ps.length
 t9:∀ t∈P.ts,1≤t∧t≤9
 l9:0≤P.l∧P.l≤9
 m9:1≤P.m∧P.m≤9
 used:cntS P.ps.flatten=P.cs.length
 strange:∀ p∈P.ps,∀ j:Nat,j<P.cs.length→(j:Int)∉p→Zbv (P.cs.getD j (0,0)) (trOf P.cs p)=false
 apart:∀ i j:Nat,i<j→j<P.ps.length→L2.apart (trOf P.cs (P.ps.getD j [])) (trOf P.cs (P.ps.getD i []))=true
abbrev Nms:=List (Str×NameKind)
noncomputable def relN (sc:Nms) (dn:Nms):Nms:=sc.map fun y=>if y.2 == .free&&dn.lookup y.1 == some .cell then (y.1,.cell) else y
def chk (sc dn:Nms) (N XN:List Str) (fr:List (Option Nat)):Bool :=
 sc.all (fun y=>y.2 != .free||dn.lookup y.1 == some .cell)&&sc.all (fun y=>y.2 != .local||sc.lookup y.1 == some .local)&&sc.all (fun y=>y.2 != .cell||sc.lookup y.1 == some .cell)&&(fr.length == N.length) &&
  (List.range fr.length).all fun i=>match fr[i]? with
    | some (some j)=>match N[i]? with
      | some x=>XN[j]? == some x&&dn.lookup x == some .cell&&(relN sc dn).lookup x == some .cell&&sc.all (fun y=>y.1 != x||y.2 != .cell)&&sc.any (fun y=>y.1 == x&&y.2 == .free)
      | none=>false
    | _=>true
theorem Zbg {cells:List (Str×Addr)} {sc:Nms} (key:(x,NameKind.free)∈sc):∃ c,(Y1 cells sc).lookup x=some c:=by
 have hm:(x,(cells.lookup x).getD 0)∈Y1 cells sc:=by
  unfold Y1;exact List.mem_reverse.mpr (n40_.mpr ⟨(x,.free),List.mem_filter.mpr ⟨key,rfl⟩,rfl⟩)
 cases q:(Y1 cells sc).lookup x with
 | some c'=>exact ⟨c',rfl⟩
 | none =>
   have z:=(List.lookup_eq_none_iff.mp q) _ hm;simp at z
theorem Zfn {sc dn:Nms} {k:NameKind} (hk:k=.cell∨k=.free) (h:(relN sc dn).lookup x=some k):(x,NameKind.free)∈sc∨(x,NameKind.cell)∈sc:=by
 have m:=n36_ h;obtain ⟨⟨n,k'⟩,hm,e⟩:=n40_.mp m
 by_cases hf:k'=.free
 · subst hf
   have:n=x:=by
    dsimp only at e;split at e<;>(injection e)
   subst this;exact .inl hm
 · have b:(k' == NameKind.free)=false:=by simpa using hf
   simp only [b,Bool.false_and,n21_,if_false] at e;injection e with e1 e2
   subst e1 e2
   rcases hk with rfl|rfl
   · exact .inr hm
   · exact absurd rfl hf
theorem Zbp {dn:Nms} (hn:env.scope.names=dn) (hk:env.scope.kind=.function):(relabel scope env).names=relN scope.names dn:=by
 unfold relabel relN;show scope.names.map _=scope.names.map _
 refine List.map_congr_left fun y _=>?_;obtain ⟨n,k⟩:=y;have e:(env.scope.kind == ScopeKind.function)=true:=by rw [hk];rfl
 have e2:env.kindOf n=dn.lookup n:=by rw [← hn];rfl
 simp only [e,e2,Bool.and_true]
theorem Z4 {XN:List Str} (dn:Nms) (hn:X.env.scope.names=dn) (hk:X.env.scope.kind=.function) (hX:X.N=XN) (hc:∀ x,dn.lookup x=some .cell→∃ c,X.env.cells.lookup x=some c)
 (h:chk scope.names dn N XN fr=true) (hs:scope.kind=.function):LcO X scope (Y1 X.env.cells scope.names) N fr:=by
 unfold chk at h;simp only [n30_] at h;obtain ⟨⟨⟨⟨h1,h2⟩,h3⟩,h4⟩,h5⟩:=h
 have hf:∀ y∈scope.names,y.2=.free→∃ c,X.env.cells.lookup y.1=some c:=fun y hy e=>by
  have:=n32_.mp h1 y hy
  rw [e] at this;exact hc _ (by simpa using this)
 refine ⟨Zcp hf,fun x c e=>?_,fun x e=>?_,hs,fun y hy e=>?_,by simpa using h4,fun i j e=>?_⟩
 · have m:=n36_ e;unfold Y1 at m;obtain ⟨⟨n,k⟩,hm,e2⟩:=n40_.mp (List.mem_reverse.mp m);obtain ⟨h1',h2'⟩:=List.mem_filter.mp hm;obtain ⟨c',hc'⟩:=hf _ h1' (by simpa using h2');injection e2 with e3 e4
   subst e3;rw [hc'] at e4;rw [hc',← e4];rfl
 · rw [Zbp hn hk] at e
   have:(x,NameKind.free)∈scope.names∨(x,NameKind.cell)∈scope.names:=e.elim (Zfn (.inl rfl)) (Zfn (.inr rfl))
   rcases this with m|m
   · exact .inr (Zbg m)
   · have:=n32_.mp h3 _ m
     exact .inl (by simpa using this)
 · have:=n32_.mp h2 y hy
   rw [e] at this
   simpa using this
 · have hi:i<fr.length:=(n19_.mp e).1
   have:=n32_.mp h5 i (n34_.mpr hi)
   rw [e] at this;cases hx:N[i]? with
   | none=>rw [hx] at this;cases this
   | some x =>
     rw [hx] at this;simp only [n30_,beq_iff_eq] at this;obtain ⟨⟨⟨⟨t1,t2⟩,t3⟩,t4⟩,t5⟩:=this;obtain ⟨⟨z1,z2⟩,m1,m2⟩:=List.any_eq_true.mp t5;simp only [n30_,beq_iff_eq] at m2;obtain ⟨rfl,rfl⟩:=m2;refine ⟨z1,rfl,by rw [hX];exact t1,.inl (by rw [hn];exact t2),.inl (by rw [Zbp hn hk];exact t3),Zbg m1,fun m=>?_⟩
     have:=n32_.mp t4 _ m
     simp at this
theorem Zd2 {cells:List (Str×Addr)} {sc dn:Nms} (hc:sc.all (fun y=>y.2 != .cell||sc.lookup y.1 == some .cell)=true) (h:(relN sc dn).lookup x=some .cell):∃ c,(cellsFrom n sc (Y1 cells sc)).lookup x=some c:=by
 refine Option.isSome_iff_exists.mp (PySem.W.cellsFrom_some sc n _ ?_)
 rcases Zfn (.inl rfl) h with m|m
 · obtain ⟨c,e⟩:=Zbg (cells:=cells) m;exact .inr (by rw [e];rfl)
 · have:=n32_.mp hc _ m
   exact .inl (by simpa using this)
theorem Ys (h:scope.names.all (fun y=>y.2 != .cell&&y.2 != .free)=true) (hk:scope.kind=.function)
 (hn:∀ y∈scope.names,y.2=.local→scope.names.lookup y.1=some .local) (hl:fr.length=N.length) (hf:fr.all (·.isNone)=true):LcO X scope [] N fr:=by
 have no:∀ y∈scope.names,y.2≠.cell∧y.2≠.free:=fun y hy=>by
  have:=n32_.mp h y hy
  rw [n30_] at this
  simpa using this
 refine ⟨closureFor_none fun x hx=>(no x hx).2,fun x c e=>by simp at e,fun x e=>?_,hk,hn,hl,fun i j e=>?_⟩
 · exfalso
   have key:∀ k,(relabel scope X.env).names.lookup x=some k→k≠.cell∧k≠.free:=fun k e=>by
    obtain ⟨⟨n,k'⟩,hm,e2⟩:=n40_.mp (n36_ e);have b:(k' == NameKind.free)=false:=by simpa using (no _ hm).2
    simp only [b,Bool.false_and,n21_,if_false] at e2;cases e2
    exact no _ hm
   rcases e with e|e
   · exact (key _ e).1 rfl
   · exact (key _ e).2 rfl
 · have:=n32_.mp hf _ (n10_ e)
   cases this
theorem Zic {j:Nat} {sp:Sp} {p:Pos} (C:Cal X.prog X.w X.K X.mg X.base x k [] sp) (hr:Room j X.A) (hj:k≤j) (hg:Gl X x) (hdb:(x == ("__debug__" : Str))=false:=by decide) :
 PE X (.Call (.Name x p) [] [] pos) (fun _ H Q=>sp [] H Q E0):=by
 obtain ⟨f,fd,F,hm,hk,hb⟩:=C.ex;have h:=Zom (dvs:=[]) (E:=E0) (p:=p) (pos:=pos) F (hr.mono hj) hg hm hk hb .nil Zut hdb;exact h
def rNeL (K:PySem.W.Frag):R2:=fun x y H Q=>∃ a b xs,x=.ref a∧y=.ref b∧SqL K H a xs∧SqL K H b []∧Q (.bl (!decide (xs=[]))) H
theorem Zup (hu:X.A.units<cLine):OpR X (compareOp .NotEq) (rNeL X.K):=by
 intro pins s σ H x y v u Q I rx ry h;obtain ⟨a,b,xs,rfl,rfl,h1,h2,q⟩:=h;cases rx;cases ry
 obtain ⟨us,r1,p1,_⟩:=I.list h1;obtain ⟨ws,r2,p2,_⟩:=I.list h2;have l1:=r1.length;have e:ws=[]:=r2.nil_iff.mpr rfl;subst e;cases hx:xs with
 | nil =>
   subst hx;have e:us=[]:=r1.nil_iff.mpr rfl;subst e;exact SeqAt.RcNeAt.lists (e:=fun j=>true) p1.isList p2.isList rfl hu (fun j h1 h2=>absurd h2 (by simp)) _ _ _ _ ⟨.bl _,H,I,rfl,q⟩
 | cons y ys =>
   subst hx;exact SeqAt.RcNeAt.lists_lengths p1.isList p2.isList (by simp at l1;simp [← l1]) hu _ _ _ _ ⟨.bl _,H,I,rfl,q⟩
theorem Zcw (K:PySem.W.Frag) (h:X.K=K):IxR X (rIxL K):=h ▸ Z9
theorem Zcb (K:PySem.W.Frag) (h:X.K=K):IxR X (rIxT K):=h ▸ Z3
theorem Zks (K:PySem.W.Frag) (h:X.K=K):OpR X (compareOp .In) (rIn K false):=h ▸ Zg8
theorem Zff (K:PySem.W.Frag) (h:X.K=K):OpR X (compareOp .NotIn) (rIn K true):=h ▸ Zce
theorem Zf0 (K:PySem.W.Frag) (h:X.K=K):Xn X (.builtin "len") (fun xs H Q=>∃ p ys,xs=[.ref p]∧(SqL K H p ys∨SqT K H p ys)∧Q (.int ys.length) H):=h ▸ Zq
theorem X5 (K:PySem.W.Frag) (h:X.K=K):Xn X (.type "tuple") (fun xs H Q=>∃ p ys,xs=[.ref p]∧((SqL K H p ys∧∀ l,H l=none→Q (.ref l) (upd H l (.tup ys)))∨(SqT K H p ys∧Q (.ref p) H))):=h ▸ Zw
theorem Zac (K:PySem.W.Frag) (h:X.K=K):Xn X (.builtin "sorted") (fun xs H Q=>∃ (p:Addr) (ns:List Int),xs=[.ref p]∧SqL K H p (ns.map V.int)∧ns.length<64∧∀ (l:Addr) (ns':List Int),H l=none→ns'.Perm ns→ns'.Pairwise (·≤·)→Q (.ref l) (upd H l (.lst (ns'.map V.int)))):=h ▸ Zch
theorem Zdf (K:PySem.W.Frag) {l:Expr} {tl:TE} (h:X.K=K) (hl:PE X l tl):PI X tg l (iTup K tl):=h ▸ Y2 hl
theorem Zmi {k:SK} {K:PySem.W.Frag} {Q:VK} (R:Hp→V→α→Prop) (hR:∀ H1 H2 v x,Tk H1 H2→R H1 v x→R H2 v x) (ys:List α) (hn:ys.length=vs.length) (hz:vs.length≤1000) (hD:H D=none) (ha:k.At H a vs)
 (hp:∀ (i:Nat) (w:V),vs[i]? = some w→∃ p x y,w=.ref p∧H p=some (.tup [x,y]))
 (hs:∀ (i:Nat) (p:Addr) (x y:V) (H2:Hp) (C:V→Hp→Prop),vs[i]? = some (.ref p)→H p=some (.tup [x,y])→Same H H2→(∀ y H5 z,Same H2 H5→ys[i]? = some z→R H5 y z→C y H5)→te (some x :: some y :: rest) H2 C)
 (hd:∀ H2 us,Same H H2→H2 D=some (.lst us)→Al (R H2) us ys→Q (.ref D) H2):LcGo (k.Itk K a) (gTup K 2 (Y6 (Yr 0) (Y6 (Yr 1) gNil))) tYes te (u0 :: u1 :: rest) H D Q:=by
 refine Zkf R hR ys hn hz (fun σ=>∃ u u',σ=u :: u' :: rest) ⟨_,_,rfl⟩ hD (fun i H2 s hi=>Zmj (ha.same s) hi) (fun H2 s=>Zfv (ha.same s) (n7_ _)) (fun i x σ2 H2 H3 C hi s y o c=>?_) hd;obtain ⟨u,u',rfl⟩:=o;obtain ⟨rfl,e⟩:=Zh3 (ha.same s) y;obtain ⟨p,x1,y1,rfl,e2⟩:=hp i x e;exact ⟨p,[x1,y1],rfl,SqT.of (s _ _ e2),rfl,x1,[y1],rfl,y1,[],rfl,rfl,hs i p x1 y1 H3 (C (some x1 :: some y1 :: rest)) e e2 s fun y H5 z s5 ez rz=>c _ y H5 z ⟨_,_,rfl⟩ s5 ez rz⟩
theorem Zre {K:PySem.W.Frag} {ps:List (List Int)} {Q:VK} (ha:H a=some (.tup vs)) (al:Al (IsI H) vs ps) (hl:ps.flatten.length<1000) (hD:H D=none)
 (hd:∀ S,Q (.ref D) (upd H D (.set S (cntS ps.flatten)))) :
 ScGo (Itt K a) (Yr 0) (iTup K (tVar 0)) (Yr 1) (tVar 1) (u0 :: u1 :: rest) H D Q:=by
 have hsz:∀ l:List Int,(l.foldl Zbc (fun _=>false,0)).2≤l.length:=by
  intro l
  have:∀ (l:List Int) q,(l.foldl Zbc q).2≤q.2+l.length:=by
   intro l
   induction l with
   | nil=>intro q;simp
   | cons x l ih =>
     intro q
     have:=ih (Zbc q x)
     rw [List.foldl_cons,n15_];have h2:(Zbc q x).2≤q.2+1:=by unfold Zbc;dsimp only;split<;>omega
     omega
  have:=this l (fun _=>false,0)
  simpa using this
 have sb:∀ n,n<1001→n+1<scanBound:=fun n h=>Nat.lt_trans (show n+1<1002 by omega) (by decide)
 let f:List Int→(Int→Bool)×Nat:=fun l=>l.foldl Zbc (fun _=>false,0)
 refine ⟨fun i m σ H2=>m=vs.length-i∧i≤vs.length∧(∃ u u',σ=u :: u' :: rest)∧H2=upd H D (.set (f (ps.take i).flatten).1 (f (ps.take i).flatten).2),⟨_,rfl,n42_ _,⟨_,_,rfl⟩,by simp [f]⟩,?_⟩;rintro i m σ2 H2 ⟨rfl,hi,⟨u,u',rfl⟩,rfl⟩
 have e0:upd H D (.set (f (ps.take i).flatten).1 (f (ps.take i).flatten).2) a=some (.tup vs):=by rw [Zj (Zm ha hD)];exact ha
 by_cases hlt:i<vs.length
 · refine .inr ⟨⟨vs,vs[i],SqT.of e0,n1_ hlt⟩,fun x H3 y=>?_⟩;obtain ⟨rfl,y2⟩:=y;have ex:=y2 vs (SqT.of e0);obtain ⟨p,ep,b,rfl,hb⟩:=al.get ex;have hip:i<ps.length:=(n19_.mp ep).1;have tk:ps.take (i+1)=ps.take i++[p]:=by rw [List.take_succ,ep];rfl
   have fl:(ps.take (i+1)).flatten=(ps.take i).flatten++p:=by rw [tk];simp
   have le1:(ps.take (i+1)).flatten.length≤ps.flatten.length:=by
    have:=congrArg (fun l:List (List Int)=>l.flatten.length) (List.take_append_drop (i+1) ps)
    rw [List.flatten_append,n26_] at this;omega
   have eb:∀ o,upd H D o b=some (.tup (p.map V.int)):=fun o=>by rw [Zj (Zm hb hD)];exact hb
   refine ⟨.ref b,rfl,b,rfl,⟨_,SqT.of (eb _)⟩,?_⟩;refine ⟨fun i1 m1 σ6 H6=>m1=p.length-i1∧i1≤p.length∧(∃ u',σ6=some (.ref b) :: u' :: rest)∧H6=upd H D (.set (f ((ps.take i).flatten++p.take i1)).1 (f ((ps.take i).flatten++p.take i1)).2),⟨_,rfl,n42_ _,⟨_,rfl⟩,by simp⟩,?_⟩;rintro i1 m1 σ6 H6 ⟨rfl,hi1,⟨u2,rfl⟩,rfl⟩
   by_cases hl1:i1<p.length
   · refine .inr ⟨⟨p.map V.int,V.int p[i1],SqT.of (eb _),by simp [hl1]⟩,fun y H7 yy=>?_⟩;obtain ⟨rfl,y3⟩:=yy;have ey:=y3 _ (SqT.of (eb _));rw [n6_,n1_ hl1] at ey;cases ey
     have len:(ps.take i).flatten.length+p.length≤ps.flatten.length:=by rw [fl,n26_] at le1;exact le1
     refine ⟨_,rfl,p[i1],_,_,rfl,Zc,sb _ ?_,_,(by omega:p.length-(i1+1)<_),rfl,by omega,⟨_,rfl⟩,?_⟩
     · have:=hsz ((ps.take i).flatten++p.take i1)
       simp only [f];rw [n26_,n47_] at this;omega
     · have e5:p.take (i1+1)=p.take i1++[p[i1]]:=List.take_succ_eq_append_getElem hl1;rw [Zsa,e5,← n28_];simp only [f,List.foldl_append,List.foldl_cons,List.foldl_nil];rfl
   · refine .inl ⟨⟨_,SqT.of (eb _),by simp;omega⟩,_,(by omega:vs.length-(i+1)<_),rfl,by omega,⟨_,_,rfl⟩,?_⟩;rw [fl,show p.take i1=p from n52_ (by omega)]
 · have e:i=vs.length:=by omega
   subst e;refine .inl ⟨⟨vs,SqT.of e0,n7_ _⟩,?_⟩;rw [n52_ (by rw [al.1];exact n7_ _)];exact hd _
theorem Znd:Xn X (.builtin "len") (fun xs H Q=>∃ D S n,xs=[.ref D]∧H D=some (.set S n)∧Q (.int n) H):=by
 intro pins s σ H xs us Q I r h;obtain ⟨D,S,n,rfl,hS,q⟩:=h;cases r with
 | cons rx r =>
   cases r
   cases (show _=Value.ref D from rx)
   obtain ⟨o,es,ep,t,e,ex,d,_,_,sz,f,en⟩:=(show ObjOk X.prog X.w H s.heap D (.set S n) from I.hok D _ hS);have hl:=Zdu
   have:(4096:Nat)=scanBound:=rfl
   refine call_len_set e ex d f (by omega) ⟨.int n,H,I.tok _,⟨_,by rw [en]⟩,q⟩
theorem Zee {pos' spos:Pos} {ifs:List Expr} {g':TG}
 (hw:swapsWith (.ListComp elt [⟨tg,iter,ifs,0⟩] scope pos) (some (.Name x pos')) spos.line X.env=pure true)
 (hc:X.calm=true) (hg':PG X (.Name x pos') g') (L:LcO X scope cl N fr) (hi:PI X tg iter wi) (hg:∀ C s3 H3 fp,PG (blk X scope cl C N s3 H3 fp) tg g)
 (ht:∀ C s3 H3 fp,PIfs (blk X scope cl C N s3 H3 fp) ifs tt) (he:∀ C s3 H3 fp,PE (blk X scope cl C N s3 H3 fp) elt te)
 (hs:∀ x,foldedSetIterable iter X.env x=pure x:=by intro _;rfl):PS X (.Assign [.Name x pos'] (.ListComp elt [⟨tg,iter,ifs,0⟩] scope pos) spos) (tAsg (tLC wi g tt te fr) g'):=by
 intro pins s σ H D I h;rw [exec_Assign_Name_used _ _ _ _ hw];refine n0_ (wpAny_standAt (n0_ ?_));rw [arm_evalThenUse_ListComp];refine n0_ (wpAny_comprehension_free (Q:=fun _ s'=>wpAny (model X.prog X.w) X.A (pure ()) (fun _ s''=>wpAny (model X.prog X.w) X.A (pure Flow.next) (SP X pins D) X.xe s'') X.xe s') (use:=some (assign (.Name x pos') X.env)) rfl hs L.clos L.kind L.names (thn (hi pins s σ H _ I h) fun v s1 h1=>thn h1 fun itv s2 h2=>?_));obtain ⟨it,fp,tn,J,H2,e,I2,T,st2,f2,h⟩:=h2;subst e;obtain ⟨W,⟨m0,w0⟩,turn⟩:=h s2.z (I2.hok.fresh (n7_ _));refine wpAny_newObj_type ?_;generalize hs3:({ s2 with heap:=s2.heap.push { cls:=.type "list",dict:=none,data:=.seq ([]:List Value).toArray } }:Shared)=s3;refine Zcv (ac:=.lst []) hs3.symm hc L hg I2 T st2 f2 ⟨n42_ _,[],_,.nil,n8_ _ rfl⟩ w0 turn (fun _ _ a b=>codeAny_compStart_list a (b _)) (fun LI s4 t n h=>Zcf LI t n h) (fun H6 s7 qn I3 fr7 c=>?_) (Zm2 ht he);obtain ⟨m7,hn7,c7⟩:=c;have I8:Inv X pins σ H6 s7:=c7 s7.heap (Heap.SameBut.refl ..)
 have fpC:∀ {H6:Hp},H6 s3.z=none→∀ b∈[s3.z],FpOk X pins H6 b:=fun fr b hb=>by
  rw [n39_] at hb;subst hb;exact I3.fpOk (n7_ _) fr
 obtain ⟨oC,esC,epC,geC,dC,skC,nfC⟩:=hn7
 have I9:=I8.pinned (fpC fr7) (fun b hb=>by
  rw [n39_] at hb;subst hb;exact ⟨oC,geC,fun v z=>by rw [dC] at z;cases z⟩)
 refine thn (hg' _ s7 σ H6 (.ref s2.z) (.ref s2.z) _ I9 rfl qn) fun _ s9 ⟨σ9,H9,I10,q9⟩=>?_;have pC:=I10.pin (s3.z,oC) (n27_ _ (n27_ _ (Y5 (n39_.mpr rfl) geC)));refine ⟨m7,⟨oC,esC,epC,pC.1,dC,skC,nfC⟩,fun h' sb=>?_⟩;refine n3_ (n3_ ?_);exact ⟨σ9,H9,I10.unpinned.turnGen (t':=s9.toks) (ch:=[s3.z]) (fun b u nb e=>(sb.2 b (fun z=>nb (by rw [z];exact n39_.mpr rfl))).trans e) (fpC pC.2.1) (fun _ _ e=>e) (fun _ _ _ e=>e) (fun b u e1 e2=>by rw [e1] at e2;cases e2),q9⟩
def tD (a b c x y q:Pnt):Int:=tn a b c*tn x y q
def inS (a b c q:Pnt):Prop:=0≤tD a b c a b q∧0≤tD a b c b c q∧0≤tD a b c c a q
def bey (a b c x y u v w:Pnt):Prop:=tD a b c x y u≤0∧tD a b c x y v≤0∧tD a b c x y w≤0
def sepS (a b c u v w:Pnt):Prop:=bey a b c a b u v w∨bey a b c b c u v w∨bey a b c c a u v w
instance {a b c q:Pnt}:Decidable (inS a b c q):=by unfold inS;infer_instance
instance {a b c x y u v w:Pnt}:Decidable (bey a b c x y u v w):=by unfold bey;infer_instance
instance {a b c u v w:Pnt}:Decidable (sepS a b c u v w):=by unfold sepS;infer_instance
theorem Zbi (a b q:Pnt):tn b a q =-tn a b q:=by unfold tn;grind
theorem Zp5 (a b c:Pnt):tn b c a=tn a b c:=by unfold tn;grind
theorem Zqt (a b c x y q:Pnt):tD b a c x y q=tD a b c y x q:=by
 unfold tD;rw [Zbi a b c,Zbi x y q];grind
theorem Zqj (a b c x y q:Pnt):tD b c a x y q=tD a b c x y q:=by unfold tD;rw [Zp5]
theorem Znz (a b c x y q:Pnt):tD b a c y x q=tD a b c x y q:=Zqt a b c y x q
theorem Zrm {a b c q:Pnt} (h:inS a b c q):inS b c a q:=by
 unfold inS at *;simp only [Zqj];exact ⟨h.2.1,h.2.2,h.1⟩
theorem Zud {a b c q:Pnt} (h:inS a b c q):inS b a c q:=by
 unfold inS at *;simp only [Znz];exact ⟨h.1,h.2.2,h.2.1⟩
theorem Zrs {a b c x y u v w:Pnt}:bey b c a x y u v w=bey a b c x y u v w:=by unfold bey;simp only [Zqj]
theorem Zta {a b c x y u v w:Pnt}:bey b a c y x u v w=bey a b c x y u v w:=by unfold bey;simp only [Znz]
theorem Zqq {a b c u v w:Pnt} (h:sepS a b c u v w):sepS b c a u v w:=by
 unfold sepS at *;simp only [Zrs];rcases h with h|h|h
 · exact .inr (.inr h)
 · exact .inl h
 · exact .inr (.inl h)
theorem Zt0 {a b c u v w:Pnt} (h:sepS a b c u v w):sepS b a c u v w:=by
 unfold sepS at *;simp only [Zta];rcases h with h|h|h
 · exact .inl h
 · exact .inr (.inr h)
 · exact .inr (.inl h)
theorem Zpp {a b c u v w:Pnt} (h:sepS a b c u v w):sepS a b c v w u:=by
 unfold sepS bey at *;rcases h with ⟨h1,h2,h3⟩|⟨h1,h2,h3⟩|⟨h1,h2,h3⟩
 · exact .inl ⟨h2,h3,h1⟩
 · exact .inr (.inl ⟨h2,h3,h1⟩)
 · exact .inr (.inr ⟨h2,h3,h1⟩)
theorem Zq5 {a b c u v w:Pnt} (h:sepS a b c u v w):sepS a b c v u w:=by
 unfold sepS bey at *;rcases h with ⟨h1,h2,h3⟩|⟨h1,h2,h3⟩|⟨h1,h2,h3⟩
 · exact .inl ⟨h2,h1,h3⟩
 · exact .inr (.inl ⟨h2,h1,h3⟩)
 · exact .inr (.inr ⟨h2,h1,h3⟩)
theorem Zou [DecidableEq α] {x y z a b c:α} (h:[x,y,z].Perm [a,b,c]) (P:α→α→α→Prop) (rot:∀ a b c,P a b c→P b c a) (sw:∀ a b c,P a b c→P b a c) (p:P a b c):P x y z:=by
 have hx:x∈[a,b,c]:=h.mem_iff.mp (by simp);simp only [n12_,n13_,or_false] at hx
 have two:∀ {y z b c:α},[y,z].Perm [b,c]→(y=b∧z=c)∨(y=c∧z=b):=by
  intro y z b c h;have hy:y∈[b,c]:=h.mem_iff.mp (by simp);simp only [n12_,n13_,or_false] at hy
  rcases hy with rfl|rfl
  · have:=List.perm_cons y |>.mp h
    exact .inl ⟨rfl,by simpa using this⟩
  · have:=List.perm_cons y |>.mp (h.trans (List.Perm.swap y b []))
    exact .inr ⟨rfl,by simpa using this⟩
 rcases hx with rfl|rfl|rfl
 · rcases two ((List.perm_cons x).mp h) with ⟨rfl,rfl⟩|⟨rfl,rfl⟩
   · exact p
   · exact sw _ _ _ (rot _ _ _ (rot _ _ _ p))
 · rcases two ((List.perm_cons x).mp (h.trans (List.Perm.swap x a [c]))) with ⟨rfl,rfl⟩|⟨rfl,rfl⟩
   · exact sw _ _ _ p
   · exact rot _ _ _ p
 · have h2:[x,y,z].Perm [x,a,b]:=h.trans (((List.Perm.swap x b []).cons a).trans (List.Perm.swap x a [b]))
   rcases two ((List.perm_cons x).mp h2) with ⟨rfl,rfl⟩|⟨rfl,rfl⟩
   · exact rot _ _ _ (rot _ _ _ p)
   · exact sw _ _ _ (rot _ _ _ p)
theorem Zkq {a b c q:Pnt} (hd:tn a b c≠0):Zbv q (tri a b c)=true↔inS a b c q:=by
 unfold Zbv tri inS tD
 by_cases h:tn a b c<0
 · rw [if_pos h];have e1:tn a c q =-tn c a q:=Zbi c a q;have e2:tn c b q =-tn b c q:=Zbi b c q;have e3:tn b a q =-tn a b q:=Zbi a b q;simp only [Tri.edges,n46_,List.map_nil,n60_,List.all_nil,id,Bool.and_true,n30_,decide_eq_true_eq,e1,e2,e3]
   have k:∀ t:Int,(0≤tn a b c*t↔0≤-t):=fun t=>by
    constructor
    · intro g
      by_cases ht:0<t
      · have:=Int.mul_neg_of_neg_of_pos h ht
        omega
      · omega
    · intro g;exact Int.mul_nonneg_of_nonpos_of_nonpos (by omega) (by omega)
   rw [k,k,k];constructor
   · rintro ⟨h1,h2,h3⟩;exact ⟨h3,h2,h1⟩
   · rintro ⟨h1,h2,h3⟩;exact ⟨h3,h2,h1⟩
 · rw [if_neg h];have hp:0<tn a b c:=by omega
   simp only [Tri.edges,n46_,List.map_nil,n60_,List.all_nil,id,Bool.and_true,n30_,decide_eq_true_eq]
   have k:∀ t:Int,(0≤tn a b c*t↔0≤t):=fun t=>by
    constructor
    · intro g
      by_cases ht:t<0
      · have:=Int.mul_neg_of_pos_of_neg hp ht
        omega
      · omega
    · intro g;exact Int.mul_nonneg (by omega) g
   rw [k,k,k]
theorem Zei {e:Pnt×Pnt} {u v w:Pnt} {t:Tri} (ht:t=tri u v w):Zd1 e t=true↔tn e.1 e.2 u≤0∧tn e.1 e.2 v≤0∧tn e.1 e.2 w≤0:=by
 subst ht;unfold Zd1 tri;split
 · simp only [Tri.pts,n46_,List.map_nil,n60_,List.all_nil,id,Bool.and_true,n30_,decide_eq_true_eq];constructor
   · rintro ⟨h1,h2,h3⟩;exact ⟨h1,h3,h2⟩
   · rintro ⟨h1,h2,h3⟩;exact ⟨h1,h3,h2⟩
 · simp only [Tri.pts,n46_,List.map_nil,n60_,List.all_nil,id,Bool.and_true,n30_,decide_eq_true_eq]
theorem Zcd {a b c u v w:Pnt} (hd:tn a b c≠0) (h:sepS a b c u v w):Xa (tri a b c) (tri u v w)=true:=by
 unfold Xa
 have k:∀ x y:Pnt,bey a b c x y u v w→(tn a b c<0→Zd1 (y,x) (tri u v w)=true)∧(¬ tn a b c<0→Zd1 (x,y) (tri u v w)=true):=by
  intro x y g;unfold bey tD at g;refine ⟨fun hn=>(Zei rfl).mpr ?_,fun hn=>(Zei rfl).mpr ?_⟩
  · have kk:∀ q:Pnt,tn a b c*tn x y q≤0→tn y x q≤0:=fun q hq=>by
     rw [Zbi x y q]
     by_cases ht:tn x y q<0
     · have:=Int.mul_pos_of_neg_of_neg hn ht
       omega
     · omega
    exact ⟨kk _ g.1,kk _ g.2.1,kk _ g.2.2⟩
  · have hp:0<tn a b c:=by omega
    have kk:∀ q:Pnt,tn a b c*tn x y q≤0→tn x y q≤0:=fun q hq=>by
     by_cases ht:0<tn x y q
     · have:=Int.mul_pos hp ht
       omega
     · omega
    exact ⟨kk _ g.1,kk _ g.2.1,kk _ g.2.2⟩
 rw [List.any_eq_true];generalize tri u v w=T at k ⊢;unfold tri
 by_cases hn:tn a b c<0
 · rw [if_pos hn]
   rcases h with h|h|h
   · exact ⟨(b,a),by simp [Tri.edges],(k _ _ h).1 hn⟩
   · exact ⟨(c,b),by simp [Tri.edges],(k _ _ h).1 hn⟩
   · exact ⟨(a,c),by simp [Tri.edges],(k _ _ h).1 hn⟩
 · rw [if_neg hn]
   rcases h with h|h|h
   · exact ⟨(a,b),by simp [Tri.edges],(k _ _ h).2 hn⟩
   · exact ⟨(b,c),by simp [Tri.edges],(k _ _ h).2 hn⟩
   · exact ⟨(c,a),by simp [Tri.edges],(k _ _ h).2 hn⟩
structure Aff where
 a:Int
 b:Int
 c:Int
 d:Int
 s:Int
 t:Int
noncomputable def Aff.at (A:Aff) (p:Pnt):Pnt:=(A.a*p.1+A.b*p.2+A.s,A.c*p.1+A.d*p.2+A.t)
noncomputable def Aff.det (A:Aff):Int:=A.a*A.d-A.b*A.c
theorem Aff.tn (A:Aff) (p q r:Pnt):L2.tn (A.at p) (A.at q) (A.at r)=A.det*L2.tn p q r:=by
 unfold L2.tn Aff.at Aff.det;dsimp only
 grind
theorem Aff.tD (A:Aff) (a b c x y q:Pnt):L2.tD (A.at a) (A.at b) (A.at c) (A.at x) (A.at y) (A.at q)=A.det*A.det*L2.tD a b c x y q:=by
 unfold L2.tD;rw [A.tn,A.tn]
 grind
theorem Aff.sq {A:Aff} (h:A.det≠0):0<A.det*A.det:=by
 by_cases g:0<A.det
 · exact Int.mul_pos g g
 · exact Int.mul_pos_of_neg_of_neg (by omega) (by omega)
theorem Aff.nn {A:Aff} (h:A.det≠0) (t:Int):0≤A.det*A.det*t↔0≤t:=by
 have hp:=A.sq h;constructor
 · intro g
   by_cases ht:t<0
   · have:=Int.mul_neg_of_pos_of_neg hp ht
     omega
   · omega
 · intro g;exact Int.mul_nonneg (by omega) g
theorem Aff.np {A:Aff} (h:A.det≠0) (t:Int):A.det*A.det*t≤0↔t≤0:=by
 have hp:=A.sq h;constructor
 · intro g
   by_cases ht:0<t
   · have:=Int.mul_pos hp ht
     omega
   · omega
 · intro g
   have:=Int.mul_nonneg (a:=A.det*A.det) (b:=-t) (by omega) (by omega)
   rw [Int.mul_neg] at this;omega
theorem Aff.inS {A:Aff} (h:A.det≠0) {a b c q:Pnt}:L2.inS (A.at a) (A.at b) (A.at c) (A.at q)↔L2.inS a b c q:=by
 unfold L2.inS;rw [A.tD,A.tD,A.tD,A.nn h,A.nn h,A.nn h]
theorem Aff.bey {A:Aff} (h:A.det≠0) {a b c x y u v w:Pnt}:L2.bey (A.at a) (A.at b) (A.at c) (A.at x) (A.at y) (A.at u) (A.at v) (A.at w)↔L2.bey a b c x y u v w:=by
 unfold L2.bey;rw [A.tD,A.tD,A.tD,A.np h,A.np h,A.np h]
theorem Aff.sep {A:Aff} (h:A.det≠0) {a b c u v w:Pnt}:L2.sepS (A.at a) (A.at b) (A.at c) (A.at u) (A.at v) (A.at w)↔L2.sepS a b c u v w:=by
 unfold L2.sepS;rw [A.bey h,A.bey h,A.bey h]
theorem Aff.inj {A:Aff} (h:A.det≠0) {p q:Pnt} (e:A.at p=A.at q):p=q:=by
 unfold Aff.at at e;have e1:=congrArg Prod.fst e;have e2:=congrArg Prod.snd e;dsimp only at e1 e2;unfold Aff.det at h;have f1:(A.a*A.d-A.b*A.c)*(p.1-q.1)=0:=by grind
 have f2:(A.a*A.d-A.b*A.c)*(p.2-q.2)=0:=by grind
 have g1:=(Int.mul_eq_zero.mp f1).resolve_left h;have g2:=(Int.mul_eq_zero.mp f2).resolve_left h;exact Prod.ext (by omega) (by omega)
def Zke (pts:List Pnt):List Int→Bool
 | [i,j,k]=>decide (0≤i∧i<(pts.length:Int))&&decide (0≤j∧j<(pts.length:Int))&&decide (0≤k∧k<(pts.length:Int))&&decide (i≠j∧i≠k∧j≠k)&&decide (tn (cAt pts i) (cAt pts j) (cAt pts k)≠0) &&
    (List.range pts.length).all fun x=>decide ((x:Int)=i∨(x:Int)=j∨(x:Int)=k)||!decide (inS (cAt pts i) (cAt pts j) (cAt pts k) (cAt pts x))
 | _=>false
def sepB (pts:List Pnt):List Int→List Int→Bool
 | [i,j,k],[u,v,w]=>decide (sepS (cAt pts i) (cAt pts j) (cAt pts k) (cAt pts u) (cAt pts v) (cAt pts w))||decide (sepS (cAt pts u) (cAt pts v) (cAt pts w) (cAt pts i) (cAt pts j) (cAt pts k))
 | _,_=>false
def Zox (pts:List Pnt) (pcs:List (List Int)):Bool :=
 decide (3≤pts.length∧pts.length≤6)&&decide (1≤pcs.length∧pcs.length≤4)&&pts.all (fun p=>decide (p.1.natAbs≤6∧p.2.natAbs≤6))&&decide pts.Nodup&&pcs.all (Zke pts) &&
  ((List.range pts.length).all fun k=>pcs.any fun p=>decide ((k:Int)∈p)) &&
  (List.range pcs.length).all fun i=>(List.range pcs.length).all fun j=>decide (i=j)||(sepB pts (pcs.getD i []) (pcs.getD j [])&&(pcs.getD i []).any fun x=>decide (x∉pcs.getD j []))
structure Base (pts:List Pnt) (pcs:List (List Int)):Prop where
 n3:3≤pts.length
 n6:pts.length≤6
 p1:1≤pcs.length
 p4:pcs.length≤4
 bd:∀ p∈pts,p.1.natAbs≤6∧p.2.natAbs≤6
 nd:pts.Nodup
 pc:∀ p∈pcs,Zke pts p=true
 us:∀ k:Nat,k<pts.length→∃ p∈pcs,(k:Int)∈p
 sep:∀ i j:Nat,i<pcs.length→j<pcs.length→i≠j→sepB pts (pcs.getD i []) (pcs.getD j [])=true∧∃ x∈pcs.getD i [],x∉pcs.getD j []
theorem Zc6 {pts:List Pnt} {pcs:List (List Int)} (h:Zox pts pcs=true):Base pts pcs:=by
 unfold Zox at h;simp only [n30_,decide_eq_true_eq,n32_,List.any_eq_true,n34_,Bool.or_eq_true] at h;obtain ⟨⟨⟨⟨⟨⟨⟨h1,h2⟩,h3,h4⟩,h5⟩,h6⟩,h7⟩,h8⟩,h9⟩:=h;exact ⟨h1,h2,h3,h4,h5,h6,h7,h8,fun i j hi hj ne=>(h9 i hi j hj).resolve_left ne⟩
structure CoOrd (n:Nat) (o:List Int):Prop where
 len:o.length=n
 bd:∀ j:Nat,j<n→0≤o.getD j 0∧o.getD j 0<n
 inj:∀ i j:Nat,i<n→j<n→o.getD i 0=o.getD j 0→i=j
 sur:∀ k:Nat,k<n→∃ j:Nat,j<n∧o.getD j 0=k
theorem Zqa {o:List Int} (h:o.Perm ((List.range n).map fun i:Nat=>(i:Int))):CoOrd n o:=by
 have hl:o.length=n:=by rw [h.length_eq];simp
 have nd:o.Nodup:=h.symm.nodup (List.Pairwise.map _ (fun a b ne e=>ne (Int.ofNat.inj e)) List.nodup_range);have g:∀ j:Nat,(hj:j<n)→o.getD j 0=o[j]'(by omega):=fun j hj=>by rw [n4_,n1_ (by omega)];rfl
 refine ⟨hl,fun j hj=>?_,fun i j hi hj e=>?_,fun k hk=>?_⟩
 · rw [g j hj]
   have:o[j]'(by omega)∈(List.range n).map fun i:Nat=>(i:Int):=h.mem_iff.mp (n44_ _)
   obtain ⟨k,hk,e⟩:=n40_.mp this
   have:=n34_.mp hk
   omega
 · rw [g i hi,g j hj] at e;exact (n66_ nd).mp e
 · have:(k:Int)∈o:=h.mem_iff.mpr (n40_.mpr ⟨k,n34_.mpr hk,rfl⟩)
   obtain ⟨j,hj,e⟩:=n37_ this;exact ⟨j,by omega,by rw [g j (by omega)];exact e⟩
def oAt (o:List Int) (i:Int):Int:=o.getD i.toNat 0
theorem Znc {pts:List Pnt} {p:List Int} (h:Zke pts p=true):∃ i j k,p=[i,j,k]∧(0≤i∧i<(pts.length:Int))∧(0≤j∧j<(pts.length:Int))∧(0≤k∧k<(pts.length:Int))∧(i≠j∧i≠k∧j≠k)∧tn (cAt pts i) (cAt pts j) (cAt pts k)≠0 ∧
 ∀ x:Nat,x<pts.length→(x:Int)∉p→¬ inS (cAt pts i) (cAt pts j) (cAt pts k) (cAt pts x):=by
 unfold Zke at h;split at h
 · rename_i i j k
   simp only [n30_,decide_eq_true_eq,n32_,n34_,Bool.or_eq_true,Bool.not_eq_true',decide_eq_false_iff_not] at h;obtain ⟨⟨⟨⟨⟨h1,h2⟩,h3⟩,h4⟩,h5⟩,h6⟩:=h;refine ⟨i,j,k,rfl,h1,h2,h3,h4,h5,fun x hx nm=>(h6 x hx).resolve_left fun z=>nm ?_⟩
   simpa using z
 · cases h
theorem Zmf (l:List Int) (hb:∀ x∈l,0≤x∧x<n) (hs:∀ k:Nat,k<n→(k:Int)∈l):cntS l=n:=by
 have key:∀ (l:List Int),(∀ x∈l,0≤x∧x<n)→∀ q:(Int→Bool)×Nat,q.2=(List.range n).countP (fun k:Nat=>q.1 k)→(l.foldl Zbc q).2=(List.range n).countP (fun k:Nat=>(l.foldl Zbc q).1 k)∧∀ x,(l.foldl Zbc q).1 x=(q.1 x||decide (x∈l)):=by
  intro l
  induction l with
  | nil=>intro _ q h;exact ⟨h,fun x=>by simp⟩
  | cons y l ih =>
    intro hb q h;rw [List.foldl_cons];have hy:=hb y n49_
    have step:(Zbc q y).2=(List.range n).countP (fun k:Nat=>(Zbc q y).1 k):=by
     unfold Zbc;dsimp only
     by_cases g:q.1 y=true
     · rw [if_pos g,h];refine congrArg (fun f=>List.countP f (List.range n)) (funext fun k=>?_)
       by_cases e:(k:Int)=y
       · rw [e,g];rfl
       · simp [e]
     · rw [if_neg g,h];have g':q.1 y=false:=by simpa using g
       obtain ⟨m,rfl⟩:∃ m:Nat,y=m:=⟨y.toNat,by omega⟩;have hm:m<n:=by omega
       have:∀ r:Nat,(List.range r).countP (fun k:Nat=>q.1 k||decide ((k:Int)=(m:Int)))=(List.range r).countP (fun k:Nat=>q.1 k)+(if m<r then 1 else 0):=by
        intro r
        induction r with
        | zero=>rfl
        | succ r ihr =>
          rw [List.range_succ,List.countP_append,List.countP_append,ihr];simp only [List.countP_singleton]
          by_cases e:r=m
          · subst e;rw [g']
            simp
          · have e2:¬ (r:Int)=(m:Int):=by omega
            simp only [e2,decide_false,Bool.or_false];have e3:(m<r+1)↔(m<r):=by omega
            simp only [e3];omega
       rw [this n,if_pos hm]
    obtain ⟨i1,i2⟩:=ih (fun x hx=>hb x (n17_ _ hx)) (Zbc q y) step;refine ⟨i1,fun x=>?_⟩;rw [i2];unfold Zbc;dsimp only
    by_cases e:x=y
    · subst e;simp
    · simp [e]
 obtain ⟨k1,k2⟩:=key l hb (fun _=>false,0) (by simp);unfold cntS;rw [k1]
 have:(List.range n).countP (fun k:Nat=>(l.foldl Zbc (fun _=>false,0)).1 k)=(List.range n).length:=by
  rw [List.countP_eq_length];intro k hk;rw [k2];simp [hs k (n34_.mp hk)]
 rw [this,n73_]
structure Small (A:Aff):Prop where
 a:A.a.natAbs≤3
 b:A.b.natAbs≤3
 c:A.c.natAbs≤3
 d:A.d.natAbs≤3
 s:A.s.natAbs≤20
 t:A.t.natAbs≤20
theorem Zr8 {A:Aff} (S:Small A) {p:Pnt} (h:p.1.natAbs≤6∧p.2.natAbs≤6):near (A.at p):=by
 have h1:(A.a*p.1).natAbs≤3*6:=by rw [Int.natAbs_mul];exact Nat.mul_le_mul S.a h.1
 have h2:(A.b*p.2).natAbs≤3*6:=by rw [Int.natAbs_mul];exact Nat.mul_le_mul S.b h.2
 have h3:(A.c*p.1).natAbs≤3*6:=by rw [Int.natAbs_mul];exact Nat.mul_le_mul S.c h.1
 have h4:(A.d*p.2).natAbs≤3*6:=by rw [Int.natAbs_mul];exact Nat.mul_le_mul S.d h.2
 have h5:=S.s;have h6:=S.t;unfold near Aff.at;dsimp only;omega
structure Drawn (pts:List Pnt) (pcs:List (List Int)) (A:Aff) (o:List Int) (cs:List Pnt) (kl:List (List Int)) (q:List Nat):Prop where
 base:Base pts pcs
 det:A.det≠0
 small:Small A
 ord:CoOrd pts.length o
 len:cs.length=pts.length
 at_:∀ j:Nat,j<pts.length→cs[(o.getD j 0).toNat]? = some (A.at (pts.getD j (0,0)))
 klen:kl.length=pcs.length
 key:∀ i:Nat,i<pcs.length→(kl.getD i []).Perm ((pcs.getD i []).map (oAt o))∧(kl.getD i []).Pairwise (·≤·)
 perm:q.Perm (List.range pcs.length)
section
variable {pts:List Pnt} {pcs:List (List Int)} {A:Aff} {o:List Int} {cs:List Pnt} {kl:List (List Int)} {q:List Nat}
theorem Drawn.corner (D:Drawn pts pcs A o cs kl q) {i:Int} (h:0≤i∧i<pts.length):cAt cs (oAt o i)=A.at (cAt pts i):=by
 obtain ⟨n,rfl⟩:∃ n:Nat,i=n:=⟨i.toNat,by omega⟩
 have:=D.at_ n (by omega)
 unfold cAt oAt;rw [show ((n:Int)).toNat=n from rfl,n4_ (i:=(o.getD n 0).toNat),this];rfl
theorem Drawn.piece (D:Drawn pts pcs A o cs kl q) (hn:n<pcs.length):∃ i j k x y z,pcs.getD n []=[i,j,k]∧kl.getD n []=[x,y,z]∧[x,y,z].Perm [oAt o i,oAt o j,oAt o k]∧(x<y∧y<z)∧(0≤i∧i<(pts.length:Int))∧(0≤j∧j<(pts.length:Int))∧(0≤k∧k<(pts.length:Int))∧tn (cAt pts i) (cAt pts j) (cAt pts k)≠0 ∧
 ∀ x:Nat,x<pts.length→(x:Int)∉[i,j,k]→¬ inS (cAt pts i) (cAt pts j) (cAt pts k) (cAt pts x):=by
 have hm:pcs.getD n []∈pcs:=by rw [n4_,n1_ hn];exact n44_ hn
 obtain ⟨i,j,k,e,hi,hj,hk,⟨n1,n2,n3⟩,hd,hs⟩:=Znc (D.base.pc _ hm);obtain ⟨pm,so⟩:=D.key n hn;rw [e] at pm hs;have l3:(kl.getD n []).length=3:=by rw [pm.length_eq];rfl
 generalize hr:kl.getD n []=r at *
 match r,l3 with
 | [x,y,z],_ =>
   have io:∀ {a b:Int},(0≤a∧a<(pts.length:Int))→(0≤b∧b<(pts.length:Int))→a≠b→oAt o a≠oAt o b:=fun {a b} ha hb ne z=>ne (by
    have:=D.ord.inj a.toNat b.toNat (by omega) (by omega) z
    omega)
   have nd:[x,y,z].Nodup:=pm.symm.nodup (by simp [io hi hj n1,io hi hk n2,io hj hk n3]);simp only [n64_,n12_,n13_,or_false,not_or,List.pairwise_cons] at nd so;have s1:=so.1 y (by simp);have s2:=so.2.1 z (by simp);exact ⟨i,j,k,x,y,z,e,rfl,pm,⟨by omega,by omega⟩,hi,hj,hk,hd,hs⟩
theorem Drawn.knd (D:Drawn pts pcs A o cs kl q):kl.Nodup:=by
 rw [n48_,n77_];intro i j hi hj lt e;rw [D.klen] at hi hj;obtain ⟨_,x,hx,nx⟩:=D.base.sep i j hi hj (by omega);have g:∀ n,(h:n<pcs.length)→kl.getD n []=kl[n]'(by rw [D.klen];exact h):=fun n h=>by rw [n4_,n1_ (by rw [D.klen];exact h)];rfl
 have m1:oAt o x∈kl.getD i []:=(D.key i hi).1.mem_iff.mpr (n40_.mpr ⟨x,hx,rfl⟩);rw [g i hi,e,← g j hj] at m1;obtain ⟨y,hy,ey⟩:=n40_.mp ((D.key j hj).1.mem_iff.mp m1)
 have bdm:∀ n,n<pcs.length→∀ x∈pcs.getD n [],0≤x∧x<(pts.length:Int):=fun n hn x hx=>by
  obtain ⟨i,j,k,_,_,_,e,_,_,_,hi,hj,hk,_⟩:=D.piece hn;rw [e] at hx;simp only [n12_,n13_,or_false] at hx
  rcases hx with rfl|rfl|rfl<;>assumption
 have b1:=bdm i hi x hx;have b2:=bdm j hj y hy
 have:=D.ord.inj y.toNat x.toNat (by omega) (by omega) ey
 have:x=y:=by omega
 exact nx (this ▸ hy)
theorem Drawn.ok (D:Drawn pts pcs A o cs kl q) {ts:List Int} {l m:Int} (rise:(q.map fun i=>kl.getD i []).Pairwise fun a b=>HT.lexLt a b=true) (tl:ts.length=pcs.length) (t9:∀ t∈ts,1≤t∧t≤9) (l9:0≤l∧l≤9) (m9:1≤m∧m≤9) :
 PlOk ⟨cs,q.map fun i=>kl.getD i [],ts,l,m⟩:=by
 have n3:=D.base.n3;have n6:=D.base.n6;have p1:=D.base.p1;have p4:=D.base.p4;have hl:=D.len;have qlen:q.length=pcs.length:=by rw [D.perm.length_eq,n73_]
 have qlt:∀ i∈q,i<pcs.length:=fun i hi=>n34_.mp (D.perm.mem_iff.mp hi);have qnd:q.Nodup:=D.perm.symm.nodup List.nodup_range
 have whence:∀ k:Nat,k<cs.length→∃ j:Nat,j<pts.length∧o.getD j 0=k∧cs[k]? = some (A.at (pts.getD j (0,0))):=fun k hk=>by
  obtain ⟨j,hj,e⟩:=D.ord.sur k (by omega)
  have:=D.at_ j hj
  rw [e] at this;exact ⟨j,hj,e,this⟩
 have ptm:∀ j:Nat,j<pts.length→pts.getD j (0,0)∈pts:=fun j hj=>by rw [n4_,n1_ hj];exact n44_ hj
 have pieceOk:∀ n,n<pcs.length→PieceOk cs (kl.getD n []):=fun n hn=>by
  obtain ⟨i,j,k,x,y,z,e,e2,pm,lt,hi,hj,hk,hd,hs⟩:=D.piece hn;rw [e2]
  have bo:∀ a∈[oAt o i,oAt o j,oAt o k],0≤a∧a≤(cs.length:Int)-1:=fun a ha=>by
   simp only [n12_,n13_,or_false] at ha;have b1:=D.ord.bd i.toNat (by omega);have b2:=D.ord.bd j.toNat (by omega);have b3:=D.ord.bd k.toNat (by omega);unfold oAt at ha
   rcases ha with rfl|rfl|rfl<;>omega
  refine ⟨rfl,fun a ha=>bo a (pm.mem_iff.mp ha),lt,?_⟩;refine Zou pm (fun x y z=>tn (cAt cs x) (cAt cs y) (cAt cs z)≠0) (fun a b c h=>by rw [Zp5];exact h) (fun a b c h=>by rw [Zbi];omega) ?_;rw [D.corner hi,D.corner hj,D.corner hk,A.tn];exact Int.mul_ne_zero D.det hd
 have strange:∀ n,n<pcs.length→∀ j:Nat,j<cs.length→(j:Int)∉kl.getD n []→Zbv (cs.getD j (0,0)) (trOf cs (kl.getD n []))=false:=fun n hn jj hjj nm=>by
  have ok:=pieceOk n hn;obtain ⟨i,j,k,x,y,z,e,e2,pm,lt,hi,hj,hk,hd,hs⟩:=D.piece hn;rw [e2] at nm ok ⊢;have hne:=ok.d;refine n69_.mpr fun h=>?_;have h2:inS (cAt cs x) (cAt cs y) (cAt cs z) (cs.getD jj (0,0)):=(Zkq hne).mp h;have h3:inS (cAt cs (oAt o i)) (cAt cs (oAt o j)) (cAt cs (oAt o k)) (cs.getD jj (0,0)):=Zou pm.symm (fun x y z=>inS (cAt cs x) (cAt cs y) (cAt cs z) (cs.getD jj (0,0))) (fun a b c h=>Zrm h) (fun a b c h=>Zud h) h2;obtain ⟨j0,hj0,ej,ec⟩:=whence jj hjj;rw [D.corner hi,D.corner hj,D.corner hk,n4_,ec] at h3;have h4:=(A.inS D.det).mp h3;refine hs j0 hj0 (fun z=>nm (pm.mem_iff.mpr ?_)) (by unfold cAt at h4 ⊢;exact h4)
  have:oAt o (j0:Int)=jj:=ej
  rw [← this];have m2:oAt o (j0:Int)∈[i,j,k].map (oAt o):=n40_.mpr ⟨_,z,rfl⟩;exact m2
 refine ⟨by show 3≤cs.length;omega,by show cs.length≤30;omega,fun p hp=>?_,?_,by simp;omega,by simp;omega,fun p hp=>?_,fun i hi=>?_,by simp [tl,qlen],t9,l9,m9,?_,fun p hp=>?_,fun i j hij hj=>?_⟩
 · obtain ⟨k,hk,e⟩:=n37_ (show p∈cs from hp);obtain ⟨j,hj,_,ec⟩:=whence k hk;rw [n1_ hk,e] at ec;cases ec
   exact Zr8 D.small (D.base.bd _ (ptm j hj))
 · show cs.Nodup
   rw [n48_,n77_];intro k1 k2 h1 h2 lt e;obtain ⟨j1,hj1,e1,c1⟩:=whence k1 h1;obtain ⟨j2,hj2,e2,c2⟩:=whence k2 h2;rw [n1_ h1,e] at c1;rw [n1_ h2] at c2;rw [c1] at c2
   have:=A.inj D.det (Option.some.inj c2)
   have gd:∀ j,(h:j<pts.length)→pts.getD j (0,0)=pts[j]:=fun j h=>by rw [n4_,n1_ h];rfl
   rw [gd j1 hj1,gd j2 hj2] at this;have e3:=(n66_ D.base.nd).mp this;subst e3;omega
 · obtain ⟨n,hn,rfl⟩:=n40_.mp (show p∈q.map _ from hp);exact pieceOk n (qlt n hn)
 · have hi':i+1<(q.map fun i=>kl.getD i []).length:=hi
   have:=n77_.mp rise i (i+1) (by omega) hi' (by omega)
   show HT.lexLt ((q.map fun i=>kl.getD i []).getD i []) ((q.map fun i=>kl.getD i []).getD (i+1) [])=true
   rw [n4_,n4_,n1_ (by omega),n1_ hi'];exact this
 · show cntS (q.map fun i=>kl.getD i []).flatten=cs.length
   refine Zmf _ (fun x hx=>?_) (fun k hk=>?_)
   · obtain ⟨r,hr,hxr⟩:=List.mem_flatten.mp hx;obtain ⟨n,hn,rfl⟩:=n40_.mp hr
     have:=(pieceOk n (qlt n hn)).bd x hxr
     omega
   · obtain ⟨j,hj,e⟩:=D.ord.sur k (by omega);obtain ⟨p,hp,hjp⟩:=D.base.us j hj;obtain ⟨n,hn,rfl⟩:=n37_ hp;have g:pcs.getD n []=pcs[n]:=by rw [n4_,n1_ hn];rfl
     refine List.mem_flatten.mpr ⟨kl.getD n [],n40_.mpr ⟨n,D.perm.mem_iff.mpr (n34_.mpr hn),rfl⟩,(D.key n hn).1.mem_iff.mpr ?_⟩;rw [g,← e];exact n40_.mpr ⟨_,hjp,rfl⟩
 · obtain ⟨n,hn,rfl⟩:=n40_.mp (show p∈q.map _ from hp);exact strange n (qlt n hn)
 · have hj':j<(q.map fun i=>kl.getD i []).length:=hj;have hjq:j<q.length:=by simpa using hj'
   have hiq:i<q.length:=by omega
   show apart (trOf cs ((q.map fun i=>kl.getD i []).getD j [])) (trOf cs ((q.map fun i=>kl.getD i []).getD i []))=true
   have gq:∀ i,(h:i<q.length)→(q.map fun i=>kl.getD i []).getD i []=kl.getD q[i] []:=fun i h=>by
    rw [n4_,n6_,n1_ h];rfl
   rw [gq j hjq,gq i hiq];have h1:=qlt q[j] (n44_ _);have h2:=qlt q[i] (n44_ _);have ne:q[j]≠q[i]:=fun z=>by have:=(n66_ qnd).mp z;omega
   generalize q[j]=n1 at *;generalize q[i]=n2 at *;have sb:=(D.base.sep n1 n2 h1 h2 ne).1;have ok1:=pieceOk n1 h1;have ok2:=pieceOk n2 h2;obtain ⟨i1,j1,k1,x1,y1,z1,e1,f1,pm1,lt1,hi1,hj1,hk1,hd1,hs1⟩:=D.piece h1;obtain ⟨i2,j2,k2,x2,y2,z2,e2,f2,pm2,lt2,hi2,hj2,hk2,hd2,hs2⟩:=D.piece h2;rw [f1] at ok1 ⊢;rw [f2] at ok2 ⊢;rw [e1,e2] at sb;unfold sepB at sb;simp only [Bool.or_eq_true,decide_eq_true_eq] at sb
   have tr:∀ {i1 j1 k1 x1 y1 z1 i2 j2 k2 x2 y2 z2:Int},[x1,y1,z1].Perm [oAt o i1,oAt o j1,oAt o k1]→[x2,y2,z2].Perm [oAt o i2,oAt o j2,oAt o k2]→(0≤i1∧i1<(pts.length:Int))→(0≤j1∧j1<(pts.length:Int))→(0≤k1∧k1<(pts.length:Int))→(0≤i2∧i2<(pts.length:Int))→(0≤j2∧j2<(pts.length:Int))→(0≤k2∧k2<(pts.length:Int)) →
    sepS (cAt pts i1) (cAt pts j1) (cAt pts k1) (cAt pts i2) (cAt pts j2) (cAt pts k2)→sepS (cAt cs x1) (cAt cs y1) (cAt cs z1) (cAt cs x2) (cAt cs y2) (cAt cs z2):=by
    intro i1 j1 k1 x1 y1 z1 i2 j2 k2 x2 y2 z2 pm1 pm2 a1 a2 a3 b1 b2 b3 h;refine Zou pm1 (fun x y z=>sepS (cAt cs x) (cAt cs y) (cAt cs z) (cAt cs x2) (cAt cs y2) (cAt cs z2)) (fun a b c h=>Zqq h) (fun a b c h=>Zt0 h) ?_;refine Zou pm2 (fun x y z=>sepS (cAt cs (oAt o i1)) (cAt cs (oAt o j1)) (cAt cs (oAt o k1)) (cAt cs x) (cAt cs y) (cAt cs z)) (fun a b c h=>Zpp h) (fun a b c h=>Zq5 h) ?_;rw [D.corner a1,D.corner a2,D.corner a3,D.corner b1,D.corner b2,D.corner b3];exact (A.sep D.det).mpr h
   unfold apart;rw [Bool.or_eq_true]
   rcases sb with sb|sb
   · exact .inl (Zcd ok1.d (tr pm1 pm2 hi1 hj1 hk1 hi2 hj2 hk2 sb))
   · exact .inr (Zcd ok2.d (tr pm2 pm1 hi2 hj2 hk2 hi1 hj1 hk1 sb))
end
def Zdt:List (List Pnt×List (List Int)) :=
 [([(0,0),(2,0),(0,3)],[[0,1,2]]),
  ([(0,0),(3,0),(3,2),(0,2)],[[0,1,2],[0,2,3]]),
  ([(0,0),(2,1),(2,-1),(-2,1),(-3,-1)],[[0,1,2],[0,3,4]]),
  ([(0,0),(2,0),(0,2),(4,0),(6,1),(4,3)],[[0,1,2],[3,4,5]]),
  ([(0,0),(6,0),(0,6),(2,1)],[[0,1,3],[0,2,3],[1,2,3]]),
  ([(0,0),(0,2),(2,0),(3,2),(5,0)],[[0,1,2],[1,2,3],[2,3,4]]),
  ([(0,0),(1,2),(2,0),(3,2),(4,0),(5,3)],[[0,1,2],[2,3,4],[3,4,5]]),
  ([(0,0),(2,0),(0,3),(-2,0),(0,-1)],[[0,1,2],[0,2,3],[0,3,4],[0,1,4]])]
theorem Zmv:Zdt.all (fun s=>Zox s.1 s.2)=true:=by decide +kernel
theorem Zk0 {s:List Pnt×List (List Int)} (h:s∈Zdt):Base s.1 s.2:=Zc6 (n32_.mp Zmv s h)
theorem PE.weak {e:Expr} {t t':TE} (h:PE X e t) (w:∀ σ H Q,t' σ H Q→t σ H Q):PE X e t':=fun pins s σ H Q I q=>h pins s σ H Q I (w σ H Q q)
theorem PA.weak {es:List Expr} {t t':TA} (h:PA X es t) (w:∀ σ H Q,t' σ H Q→t σ H Q):PA X es t':=fun pos pins s σ H Q I q=>h pos pins s σ H Q I (w σ H Q q)
noncomputable def Zsb:Expr→Option Int
 | .Constant (.int i) _ _=>some i
 | .UnaryOp .USub (.Constant (.int i) _ _) _=>some (-i)
 | _=>none
theorem Zsg {e:Expr} {i:Int} (h:Zsb e=some i):PE X e (fun _ H Q=>Q (.int i) H)∧∀ es env,starEach (e :: es) env=(false,eval e env) :: starEach es env:=by
 unfold Zsb at h;split at h
 · cases h;exact ⟨Zd,fun _ _=>rfl⟩
 · cases h
   exact ⟨PE.weak (Zco Zap Zd) fun σ H Q q=>⟨_,rfl,q⟩,fun _ _=>rfl⟩
 · cases h
def Zji:List Expr→Option (List Int)
 | []=>some []
 | e :: es=>match Zsb e,Zji es with
   | some i,some is=>some (i :: is)
   | _,_=>none
theorem Zj2:∀ (es:List Expr) (is:List Int),Zji es=some is→PA X es (fun _ H Q=>Q (is.map V.int) H)
 | [],is,h=>by
   cases h
   exact PA.weak Zb fun σ H Q q=>q
 | e :: es,is,h=>by
   unfold Zji at h;split at h
   · rename_i i js h1 h2
     cases h
     obtain ⟨p1,p2⟩:=Zsg (X:=X) h1;exact PA.weak (Za p1 (Zj2 es js h2) (p2 _ _)) fun σ H Q q=>q
   · cases h
def Zq4:Expr→Option (List Int)
 | .Tuple es _ _=>Zji es
 | _=>none
theorem Zr0 {e:Expr} {is:List Int} (h:Zq4 e=some is) (hz:is.length≤1000):PE X e (fun _ H Q=>∀ H' v,Same H H'→IsI H' v is→Q v H')∧∀ es env,starEach (e :: es) env=(false,eval e env) :: starEach es env:=by
 unfold Zq4 at h;split at h
 · exact ⟨PE.weak (Zo (Zj2 _ _ h)) fun σ H Q q=>⟨by rw [n5_,sizeLine_eq];omega,fun p np=>q _ _ (Same.new np) ⟨p,rfl,Zc⟩⟩,fun _ _=>rfl⟩
 · cases h
def Zi0:List Expr→Option (List (List Int))
 | []=>some []
 | e :: es=>match Zq4 e,Zi0 es with
   | some i,some is=>if i.length≤1000 then some (i :: is) else none
   | _,_=>none
theorem Zj7:∀ (es:List Expr) (is:List (List Int)),Zi0 es=some is→PA X es (fun _ H Q=>∀ H' vs,Same H H'→Al (IsI H') vs is→Q vs H')
 | [],is,h=>by
   cases h
   exact PA.weak Zb fun σ H Q q=>q _ _ (Same.refl _) .nil
 | e :: es,is,h=>by
   unfold Zi0 at h;split at h
   · rename_i i js h1 h2
     split at h
     · rename_i hz
       cases h
       obtain ⟨p1,p2⟩:=Zr0 (X:=X) h1 hz;exact PA.weak (Za p1 (Zj7 es js h2) (p2 _ _)) fun σ H Q q H1 v s1 i1 H2 vs s2 i2=>q _ _ (s1.trans s2) (.cons (i1.tk s2.tk) i2)
     · cases h
   · cases h
def Zon:Expr→Option (List (List Int))
 | .Tuple es _ _=>match Zi0 es with
   | some is=>if is.length≤1000 then some is else none
   | none=>none
 | _=>none
theorem Zmz {e:Expr} {is:List (List Int)} (h:Zon e=some is):PE X e (fun _ H Q=>∀ H' v,Same H H'→IsPs H' v is→Q v H')∧∀ es env,starEach (e :: es) env=(false,eval e env) :: starEach es env:=by
 unfold Zon at h;split at h
 · split at h
   · rename_i js h1
     split at h
     · rename_i hz
       cases h
       refine ⟨PE.weak (Zo (Zj7 _ _ h1)) fun σ H Q q H1 vs s1 a1=>⟨by rw [a1.1,sizeLine_eq];omega,fun p np=>?_⟩,fun _ _=>rfl⟩;have s2:Same H1 (upd H1 p (.tup vs)):=Same.new np;exact q _ _ (s1.trans s2) ⟨p,vs,rfl,Zc,a1.imp fun v x r=>r.tk s2.tk⟩
     · cases h
   · cases h
 · cases h
def IsSh (H:Hp) (v:V) (s:List Pnt×List (List Int)):Prop:=∃ a c p,v=.ref a∧H a=some (.tup [c,p])∧IsCs H c s.1∧IsPs H p s.2
theorem IsSh.tk {s:List Pnt×List (List Int)} (t:Tk H H') (h:IsSh H v s):IsSh H' v s:=let ⟨a,c,p,e,h1,h2,h3⟩:=h;⟨a,c,p,e,t _ _ h1,h2.tk t,h3.tk t⟩
def shOf:Expr→Option (List (List Int)×List (List Int))
 | .Tuple [c,p] _ _=>match Zon c,Zon p with
   | some a,some b=>some (a,b)
   | _,_=>none
 | _=>none
theorem Zpd {cs:List Pnt} (h:IsPs H v (cs.map fun p=>[p.1,p.2])):IsCs H v cs:=by
 obtain ⟨a,vs,e,q,al⟩:=h;refine ⟨a,vs,e,q,by rw [al.1,n5_],fun i w p e1 e2=>?_⟩;exact al.2 i w _ e1 (by rw [n6_,e2];rfl)
theorem Yx {X:Cx} {e:Expr} {s:List Pnt×List (List Int)} (h:shOf e=some (s.1.map (fun p=>[p.1,p.2]),s.2)):PE X e (fun _ H Q=>∀ H' v,Same H H'→IsSh H' v s→Q v H'):=by
 unfold shOf at h;split at h
 · split at h
   · rename_i h1 h2
     cases h
     obtain ⟨p1,s1⟩:=Zmz (X:=X) h1;obtain ⟨p2,s2⟩:=Zmz (X:=X) h2;refine PE.weak (Zo (Za p1 (Za p2 Zb (s2 _ _)) (s1 _ _))) fun σ H Q q H1 v s1 i1 H2 w s2 i2=>⟨z2_,fun p np=>?_⟩;have s3:Same H2 (upd H2 p (.tup [v,w])):=Same.new np;exact q _ _ (s1.trans (s2.trans s3)) ⟨p,v,w,rfl,Zc,Zpd (i1.tk (s2.trans s3).tk),i2.tk s3.tk⟩
   · cases h
 · cases h
theorem Zt2 {c:TT} {ta tb rest:TS} {D:Ends} (R:St→Hp→Prop) (h:c σ H fun k H1=>if k=true then ta { D with nx:=R } σ H1 else tb { D with nx:=R } σ H1)
 (mc:∀ Q Q':Bool→Hp→Prop,(∀ b H1,Q b H1→Q' b H1)→c σ H Q→c σ H Q') (ma:(∀ σ H,R σ H→rest D σ H)→∀ H1,ta { D with nx:=R } σ H1→ta { D with nx:=rest D } σ H1) (mb:(∀ σ H,R σ H→rest D σ H)→∀ H1,tb { D with nx:=R } σ H1→tb { D with nx:=rest D } σ H1)
 (key:∀ σ H,R σ H→rest D σ H):tSeq (tIfS c ta tb) rest D σ H:=mc _ _ (fun b H1 q=>by
 cases b with
 | true=>exact ma key H1 q
 | false=>exact mb key H1 q) h
open AutoSeq1 (wpAny_loadPart')
section
variable {X:Cx}
def EqT {α:Type} [DecidableEq α] (X:Cx) (d:Nat) (R:Hp→V→α→Prop):Prop:=∀ (A:Around) (pins:List (Addr×Obj)) (σ:St) (H:Hp) (s:Shared) (v u:V) (a b:Value) (x y:α),A.units+d<cLine→Inv X pins σ H s→R H v x→R H u y→RelV v a→RelV u b→SeqAt.EqAt A s a b (decide (x=y))
theorem Zr5:EqT X 0 (fun _ v (i:Int)=>v=.int i):=by
 intro A pins σ H s v u a b x y hu I h1 h2 r1 r2;subst h1 h2;obtain ⟨t,rfl⟩:=r1;obtain ⟨t',rfl⟩:=r2
 have:=SeqAt.EqAt.int_int (A:=A) (s:=s) x t y t'
 rw [show decide (x=y)=(x == y) by rw [n56_];simp];exact this
theorem Zh5 [DecidableEq α] [Inhabited α] (xs ys:List α):((List.range (min xs.length ys.length)).all (fun j=>decide (xs.getD j default=ys.getD j default))&&xs.length == ys.length)=decide (xs=ys):=by
 by_cases h:xs=ys
 · subst h
   simp
 · rw [n25_ h,Bool.and_eq_false_iff]
   by_cases hl:xs.length=ys.length
   · left
     rw [n69_];intro z;rw [n32_] at z;apply h
     apply List.ext_getElem hl
     intro i h1 h2
     have:=z i (by simp;omega)
     simpa [h1,h2] using this
   · right
     simpa using hl
theorem Zjg [DecidableEq α] [Inhabited α] {d:Nat} {R:Hp→V→α→Prop} (E:EqT X d R) (hu:A.units+d<cLine) (I:Inv X pins σ H s) {us:List V} {xs ys:List α} (h1:Al (R H) vs xs) (h2:Al (R H) us ys) {as bs:List Value} (r1:Vals vs as) (r2:Vals us bs) (j:Nat) (z1:j<as.toArray.size) (z2:j<bs.toArray.size):SeqAt.EqAt A s as.toArray[j] bs.toArray[j] (decide (xs.getD j default=ys.getD j default)):=by
 simp only [n9_] at z1 z2;simp only [List.getElem_toArray];have l1:=r1.length;have l2:=r2.length;have g1:vs[j]? = some vs[j]:=n1_ (by omega);have g2:us[j]? = some us[j]:=n1_ (by omega);obtain ⟨a,e1,ra⟩:=r1.get g1;obtain ⟨b,e2,rb⟩:=r2.get g2;obtain ⟨x,ex,rx⟩:=h1.get g1;obtain ⟨y,ey,ry⟩:=h2.get g2;rw [n1_ z1] at e1;rw [n1_ z2] at e2;cases e1
 cases e2
 rw [n4_,n4_,ex,ey];exact E A pins σ H s _ _ _ _ x y hu I rx ry ra rb
theorem Zsd [DecidableEq α] [Inhabited α] {d:Nat} {R:Hp→V→α→Prop} (E:EqT X d R) (inj:∀ H v x y,R H v x→R H v y→x=y):EqT X (d+1) (IsTup' R):=by
 intro A pins σ H s v u a b xs ys hu I h1 h2 r1 r2;obtain ⟨p,vs,rfl,e1,a1⟩:=h1;obtain ⟨q,us,rfl,e2,a2⟩:=h2;cases r1
 cases r2
 by_cases hpq:p=q
 · subst hpq;rw [e1] at e2;cases e2
   have:xs=ys:=by
    apply List.ext_getElem (by rw [← a1.1,← a2.1])
    intro i z1 z2;obtain ⟨v,ev,rv⟩:=a1.got (n1_ z1);exact inj H v _ _ rv (a2.2 i v _ ev (n1_ z2))
   rw [n24_ this];exact SeqAt.EqAt.same _
 · obtain ⟨as,q1,p1,_⟩:=I.tuple (SqT.of e1);obtain ⟨bs,q2,p2,_⟩:=I.tuple (SqT.of e2);have l1:=q1.length;have l2:=q2.length;have h:=SeqAt.RcAt.tuples (A:=A) (e:=fun j=>decide (xs.getD j default=ys.getD j default)) p1 p2 (by omega) fun j z1 z2=>Zjg E (A:=A.in1) (by rw [Around.in1_units];omega) I a1 a2 q1 q2 j z1 z2;rw [n9_,n9_,← l1,← l2,a1.1,a2.1,Zh5] at h;exact SeqAt.EqAt.of_refs hpq h
def Zvt {α:Type} [DecidableEq α] (R:Hp→V→α→Prop) (neg:Bool):R2:=fun x y H Q=>∃ (a b:Addr) (vs us:List V) (xs ys:List α),x=.ref a∧y=.ref b∧H a=some (.lst vs)∧H b=some (.lst us)∧Al (R H) vs xs∧Al (R H) us ys∧Q (.bl (if neg then !decide (xs=ys) else decide (xs=ys))) H
theorem Zn8 [DecidableEq α] [Inhabited α] (xs ys:List α) (hl:xs.length=ys.length):((List.range xs.length).all (fun j=>decide (xs.getD j default=ys.getD j default)))=decide (xs=ys):=by
 rw [← Zh5 xs ys,← hl,Nat.min_self,beq_self_eq_true,Bool.and_true]
theorem Zmu [DecidableEq α] [Inhabited α] {d:Nat} {R:Hp→V→α→Prop} (E:EqT X d R) (hu:X.A.units+d+1<cLine):OpR X (compareOp .Eq) (Zvt R false):=by
 intro pins s σ H x y v u Q I rx ry h;obtain ⟨p,q,vs,us,xs,ys,rfl,rfl,e1,e2,a1,a2,k⟩:=h;cases rx
 cases ry
 obtain ⟨as,q1,p1,_⟩:=I.list (SqL.of e1);obtain ⟨bs,q2,p2,_⟩:=I.list (SqL.of e2);have l1:=q1.length;have l2:=q2.length
 by_cases hl:xs.length=ys.length
 · refine SeqAt.eq_listAt (e:=fun j=>decide (xs.getD j default=ys.getD j default)) p1.isList p2.isList (by rw [n9_,n9_,← l1,← l2,a1.1,a2.1,hl]) (by omega) (fun j z1 z2=>Zjg E (A:=X.A.in1) (by rw [Around.in1_units];omega) I a1 a2 q1 q2 j z1 z2) ⟨.bl _,H,I,rfl,?_⟩;rw [n9_,← l1,a1.1,Zn8 xs ys hl];exact k
 · refine SeqAt.eq_list_lengthsAt p1.isList p2.isList (by rw [n9_,n9_,← l1,← l2,a1.1,a2.1];simpa using hl) (by omega) ⟨.bl false,H,I,rfl,?_⟩
   have:¬ xs=ys:=fun z=>hl (by rw [z])
   rw [n25_ this] at k;exact k
end
section
variable {κ:Type} [DecidableEq κ]
noncomputable def valV (kvs:List (κ×V)) (k:κ):Option V:=(kvs.find? fun kv=>decide (kv.1=k)).map (·.2)
noncomputable def putK (kvs:List (κ×V)) (k:κ) (v:V):List (κ×V) :=
 if (kvs.any fun kv=>decide (kv.1=k))=true then kvs.map (fun kv=>if kv.1=k then (kv.1,v) else kv) else kvs++[(k,v)]
theorem Zbr {p:κ×V} {r:List (κ×V)} {k:κ} (e:p.1=k):valV (p :: r) k=some p.2:=by simp [valV,List.find?_cons,e]
theorem Zby {p:κ×V} {r:List (κ×V)} {k:κ} (e:¬ p.1=k):valV (p :: r) k=valV r k:=by simp [valV,List.find?_cons,e]
theorem Ze5 (k:κ):∀ kvs:List (κ×V),(kvs.any fun kv=>decide (kv.1=k))=(valV kvs k).isSome
 | []=>rfl
 | p :: r=>by
   rw [List.any_cons]
   by_cases e:p.1=k
   · simp only [Zbr e,n24_ e,Bool.true_or,Option.isSome_some]
   · rw [Zby e,n25_ e,Bool.false_or];exact Ze5 k r
theorem Zc0 (kvs:List (κ×V)) (k:κ) (v:V):(putK kvs k v).length≤kvs.length+1:=by
 unfold putK;split
 · rw [n5_];omega
 · rw [n26_,n15_,n53_];omega
theorem RelO.isSome_eq {o:Option V} {u:Option Value} (r:RelO o u):o.isSome=u.isSome:=by
 cases o with
 | none=>cases u with
   | none=>rfl
   | some _=>exact (show False from r).elim
 | some _=>cases u with
   | none=>exact (show False from r).elim
   | some _=>rfl
theorem RelO.getD {o:Option V} {u:Option Value} {d:V} {d':Value} (r:RelO o u) (rd:RelV d d'):RelV (o.getD d) (u.getD d'):=by
 cases o with
 | none=>cases u with
   | none=>exact rd
   | some _=>exact (show False from r).elim
 | some _=>cases u with
   | none=>exact (show False from r).elim
   | some _=>exact r
theorem KV.val {kvs:List (κ×V)} {vs:List (κ×Value)} (r:KV kvs vs) (k:κ):RelO (valV kvs k) (valueAt vs k):=by
 unfold KV at r
 induction r with
 | nil=>exact True.intro
 | @cons p q ps qs h t ih =>
   obtain ⟨h1,h2⟩:=h
   by_cases e:p.1=k
   · have e':q.1=k:=h1.symm.trans e;have b:valueAt (q :: qs) k=some q.2:=by simp [valueAt,List.find?_cons,e']
     rw [Zbr e,b];exact h2
   · have e':¬ q.1=k:=fun z=>e (h1.trans z);have b:valueAt (q :: qs) k=valueAt qs k:=by simp [valueAt,List.find?_cons,e']
     rw [Zby e,b];exact ih
end
theorem Zo0 {k:Key} (r:RelV (kV k) u):(Yq P w).is k u=true:=by
 cases k with
 | inl i=>obtain ⟨t,e⟩:=(show ∃ t,u=Value.int i t from r);subst e;exact Zit P w i t
 | inr x=>obtain ⟨t,e⟩:=(show ∃ t,u=Value.str x t from r);subst e;exact Zix P w x t
theorem Zgp:∀ {ks:List Key} {us:List Value},Vals (ks.map kV) us→ItemsAre (Yq P w) ks us
 | [],_,r=>by rw [List.map_nil] at r;cases r;exact .nil
 | k :: ks,_,r=>by
   rw [n46_] at r;cases r with
   | cons h t=>exact .cons (Zo0 h) (Zgp t)
abbrev KT (H:Hp):List (List Key×V)→List (List Key×Addr×Value)→Prop:=Paired fun p q=>p.1=q.1∧H q.2.1=some (.tup (p.1.map kV))∧RelV p.2 q.2.2
theorem KT.val {xs:List (List Key×Addr×Value)} (r:KT H kvs xs) (k:List Key):RelO (valV kvs k) ((atKey xs k).map (·.2)):=by
 induction r with
 | nil=>exact True.intro
 | @cons p q ps qs h t ih =>
   obtain ⟨h1,_,h2⟩:=h
   by_cases e:p.1=k
   · have e':q.1=k:=h1.symm.trans e;have b:atKey (q :: qs) k=some q.2:=by simp [atKey,List.find?_cons,e']
     rw [Zbr e,b];exact h2
   · have e':¬ q.1=k:=fun z=>e (h1.trans z);have b:atKey (q :: qs) k=atKey qs k:=by simp [atKey,List.find?_cons,e']
     rw [Zby e,b];exact ih
theorem KT.repl {xs:List (List Key×Addr×Value)} (r:KT H kvs xs) (k:List Key) (ry:RelV y u) :
 KT H (kvs.map fun kv=>if kv.1=k then (kv.1,y) else kv) (xs.map (putAt k u)):=by
 induction r with
 | nil=>exact .nil
 | @cons p q ps qs h t ih =>
   rw [n46_,n46_];refine .cons ?_ ih;obtain ⟨h1,h2,h3⟩:=h;unfold putAt
   by_cases e:p.1=k
   · rw [if_pos e,if_pos (h1.symm.trans e)];exact ⟨h1,h2,ry⟩
   · rw [if_neg e,if_neg (fun z=>e (h1.trans z))];exact ⟨h1,h2,h3⟩
theorem KT.put {xs:List (List Key×Addr×Value)} (r:KT H kvs xs) (k:List Key) (hb:H b=some (.tup (k.map kV))) (ry:RelV y u) :
 KT H (putK kvs k y) (storedH xs k b u):=by
 have e:(kvs.any fun kv=>decide (kv.1=k))=(atKey xs k).isSome:=by
  rw [Ze5,(r.val k).isSome_eq,Option.isSome_map]
 unfold putK storedH;rw [e]
 by_cases q:(atKey xs k).isSome=true
 · rw [if_pos q,if_pos q];exact r.repl k ry
 · rw [if_neg q,if_neg q];exact Paired.snoc r ⟨rfl,hb,ry⟩
theorem KT.keeps {xs:List (List Key×Addr×Value)} (r:KT H kvs xs) (ht:∀ b ys,H b=some (.tup ys)→H' b=some (.tup ys)):KT H' kvs xs :=
 Paired.mapP r fun _ _ z=>⟨z.1,ht _ _ z.2.1,z.2.2⟩
section
variable {P:Program} {w:World} {H:Hp} {h:Heap} {a:Addr}
theorem Zs2 {u:HO} (ok:HOk P w H h) (e:Rd H a u):ObjOk P w H h a u:=e.ok ok
theorem Zlv {kvs:List (Key×V)} (ok:HOk P w H h) (e:Rd H a (.dK kvs)):kvs.length≤sizeLine∧(a == sysModules)=false∧∃ vs,KV kvs vs∧h.DictOf (Yq P w) a vs :=
 show ObjOk P w H h a (.dK kvs) from Zs2 ok e
theorem Zgq {ks:List Key} (ok:HOk P w H h) (e:H a=some (.tup (ks.map kV))):(tupleKind (Yq P w)).is h ks a:=by
 obtain ⟨_,its,r,o,h1,h2,n,h3⟩:=(show ObjOk P w H h a (.tup (ks.map kV)) from ok a _ e);exact ⟨o,its.toArray,n,h1,h2,h3,by simpa using Zgp r⟩
theorem Zk8 (ok:HOk P w H h) (e:Rd H a (.dT kvs)):kvs.length≤sizeLine∧(a == sysModules)=false ∧
 ∃ xs,KT H kvs xs∧h.DictOfH (tupleKind (Yq P w)) a xs:=by
 obtain ⟨z,y,xs,r,o,es,ep,h1,h2,h3,h4,h5⟩:=(show ObjOk P w H h a (.dT kvs) from Zs2 ok e);refine ⟨z,y,xs,r,o,es,ep,h1,h2,h3,h4,fun x hx=>?_,h5⟩
 have all:∀ {l:List (List Key×V)} {m:List (List Key×Addr×Value)},KT H l m→∀ x∈m,(tupleKind (Yq P w)).is h x.1 x.2.1:=by
  intro l m q
  induction q with
  | nil=>intro x hx;exact nomatch hx
  | @cons p q ps qs hq t ih =>
    intro x hx
    rcases n12_.mp hx with e|hx
    · subst e;exact Zgq ok (by rw [← hq.1];exact hq.2.1)
    · exact ih x hx
 exact all r x hx
theorem Zv3 (ok:HOk P w H h) (e:H a=some (.dT kvs)):kvs.length≤sizeLine∧(a == sysModules)=false ∧
 ∃ xs,KT H kvs xs∧h.DictOfH (tupleKind (Yq P w)) a xs:=Zk8 ok (.inl e)
end
def DGet (H:Hp) (a:Addr) (y:V) (r:Option V):Prop :=
 (∃ kvs k,Rd H a (.dK kvs)∧y=kV k∧r=valV kvs k)∨∃ kvs k b,Rd H a (.dT kvs)∧y=.ref b∧H b=some (.tup (k.map kV))∧r=valV kvs k
section
variable {X:Cx} {pins:List (Addr×Obj)} {σ:St} {H:Hp} {s:Shared} {a:Addr} {y v:V} {u r:Value} {o:Option V} {A:Around} {E:Value→Shared→Prop}
theorem Inv.big (I:Inv X pins σ H s):sysModules<s.z:=by
 have h:mainGlobals<s.z:=(I.mod.glob.keeps I.bk).lt;exact Nat.lt_trans (by decide) h
theorem Znw (hu:A.units+1<cLine) (I:Inv X pins σ H s) (g:DGet H a y (some v)) (ry:RelV y u) (h:∀ w' s',Inv X pins σ H s'→RelV v w'→Q w' s') :
 wpAny (model X.prog X.w) A (getItem (.ref a) u) Q E s:=by
 rcases g with ⟨kvs,k,e,ey,l⟩|⟨kvs,k,b,e,ey,eb,l⟩
 · subst ey;obtain ⟨z,hd,vs,rel,dd⟩:=Zlv I.hok e;obtain ⟨w',hw,rw'⟩:=RelO.some_of (v:=v) (o:=valueAt vs k) (by rw [l];exact rel.val k);exact wpAny_getItem_of (Zo0 ry) dd.mapOf hw (h w' _ (I.tok _) rw')
 · subst ey;cases (show u=Value.ref b from ry)
   obtain ⟨z,hd,xs,rel,dd⟩:=Zk8 I.hok e;obtain ⟨w',hw,rw'⟩:=RelO.some_of (v:=v) (o:=(atKey xs k).map (·.2)) (by rw [l];exact rel.val k);obtain ⟨p,hp,hp2⟩:=n16_.mp hw;refine wpAny_getItem_heap (tupleKind_room_in1 hu) (Zgq I.hok eb) dd hp ?_;rw [hp2];exact h w' _ (I.tok _) rw'
theorem Znx {ob:HO} (I:Inv X pins σ H s) (mu:Mut (H a)) (hs:Heap.SameBut a s.heap h') (he:∃ q,h'.get? a=some q) (new:ObjOk X.prog X.w (upd H a ob) h' a ob) :
 Inv X pins σ (upd H a ob) { s with heap:=h',toks:=t' } :=
 I.write (x:=a) (e:=a) mu (.inl rfl) (fun b q hb z=>(hs.2 b hb).trans z) he new
end
section
variable {X:Cx} {pins:List (Addr×Obj)} {σ:St} {H:Hp} {s:Shared} {a:Addr} {kvs:List (Key×V)} {k:Key} {u:Value} {A:Around} {E:Value→Shared→Prop}
end
def NoSl (i:Expr):Prop:=∀ ov iv,subscripted i false ov iv=operate [ov,iv] (getItem ov iv)
theorem Zsf {value slice:Expr} {T id:String}
 (hl:typeLookup (.type T) "__getitem__" = pure (some (.builtin id))) (hs:NoSl slice)
 (h:wpAny (model prog w) A (eval value env) (fun o s₁=>wpAny (model prog w) A (eval slice env) (fun i s₂=>s₂.TypeIs o T∧wpAny (model prog w) A (getItem o i) Q E s₂) E s₁) E s) :
 wpAny (model prog w) A (eval (.Subscript value slice pos) env) Q E s:=by
 refine Subscript_ (n45_ h (fun o s₁ h₁=>n45_ h₁ (fun i s₂ h₂=>?_) fun _ _ x=>x) fun _ _ x=>x);obtain ⟨hT,h₂⟩:=h₂;unfold subscriptTail;refine n0_ ?_;rw [getitemInPython_of_ne hT.not_modules];refine n0_ (wpAny_specialOf hT hl ?_)
 have fin:wpAny (model prog w) A (subscripted slice false o i) (fun r s₃=>wpAny (model prog w) A (letTemporaryGo value o r >>= fun _=>pure r) Q E s₃) E s₂:=by
  rw [hs o i];exact wpAny_operating (n45_ h₂ (fun r s₃ h₃=>n0_ (wpAny_letTemporaryGo (n3_ h₃))) fun _ _ x=>x)
 first
  | exact n3_ (n0_ fin)
  | exact n0_ (n3_ (n0_ fin))
  | exact n0_ fin
theorem Zhr {o:Option V} (I:Inv X pins σ H s) (g:DGet H a y o):s.TypeIs (.ref a) "dict" := by
 rcases g with ⟨kvs,k,e,_,_⟩|⟨kvs,k,b,e,_,_,_⟩
 · obtain ⟨_,_,vs,_,dd⟩:=Zlv I.hok e;exact dd.typeIs
 · obtain ⟨_,_,xs,_,dd⟩:=Zk8 I.hok e;exact dd.typeIs
def Zv0 (td ty:TE):TE:=fun σ H Q=>td σ H fun x H1=>ty σ H1 fun y H2=>∃ a v,x=.ref a∧DGet H2 a y (some v)∧Q v H2
section
variable {X:Cx} {o i e value:Expr} {pos pos' tpos:Pos} {td ty tv:TE}
theorem Zrj (hu:X.A.units+1<cLine) (ho:PE X o td) (hi:PE X i ty) (hs:NoSl i):PE X (.Subscript o i pos) (Zv0 td ty):=by
 intro pins s σ H Q I h;refine Zsf PySem.F.slot_dict_getitem.lookup hs (thn (ho pins s σ H _ I h) fun u s1 ⟨x,H1,I1,rx,q1⟩=>thn (hi pins s1 σ H1 _ I1 q1) fun iv s2 ⟨y,H2,I2,ry,a,v,ex,g,q2⟩=>?_);subst ex;obtain rfl:u=Value.ref a:=rx;exact ⟨Zhr I2 g,Znw hu I2 g ry fun w' s3 I3 rw'=>⟨v,H2,I3,rw',q2⟩⟩
end
theorem Zf5 (h:Heap) (hb:sysModules<h.objs.size):ObjOk P w H (h.push { cls:=.type "dict",data:=.dict #[] }) h.objs.size (.dT []) :=
 ⟨n42_ _,beq_eq_false_iff_ne.mpr (Ne.symm (n22_ hb)),[],.nil,_,#[],0,n8_ _ rfl,⟨rfl,rfl,rfl⟩,rfl,rfl,List.nodup_nil⟩
section
variable {X:Cx} {pos:Pos}
end
structure M1 (X:Cx) (o:Expr) (m:Str) (apos:Pos) (e:Expr) (cpos:Pos):Prop where
 base:attributeBase o m X.env (eval o X.env)=eval o X.env
 few:((backTo cpos (starEach [e] X.env)).all (fun x=>!x.1)&&(backToKw cpos (keywordEach [] X.env)).all (fun x=>x.1.isSome)
  && decide (([e]:List Expr).length+([]:List Keyword).length+(if ([]:List Keyword).isEmpty then 0 else 1)<30))=true
 line:(apos.endLine == cpos.line)=true
 trees:backTo cpos (starEach [e] X.env)=[(false,eval e X.env)]
structure M2 (X:Cx) (o:Expr) (m:Str) (apos:Pos) (e f:Expr) (cpos:Pos):Prop where
 base:attributeBase o m X.env (eval o X.env)=eval o X.env
 few:((backTo cpos (starEach [e,f] X.env)).all (fun x=>!x.1)&&(backToKw cpos (keywordEach [] X.env)).all (fun x=>x.1.isSome)
  && decide (([e,f]:List Expr).length+([]:List Keyword).length+(if ([]:List Keyword).isEmpty then 0 else 1)<30))=true
 line:(apos.endLine == cpos.line)=true
 trees:backTo cpos (starEach [e,f] X.env)=[(false,eval e X.env),(false,eval f X.env)]
def IsD (H:Hp) (a:Addr):Prop:=(∃ kvs,Rd H a (.dK kvs))∨∃ kvs,Rd H a (.dT kvs)
theorem Zge (I:Inv X pins σ H s) (d:IsD H a) :
 s.TypeIs (.ref a) "dict" ∧ (∀ b,Value.ref a=.ref b→∃ ob,s.heap.get? b=some ob∧ob.dict=none)∧(a == sysModules)=false:=by
 rcases d with ⟨kvs,e⟩|⟨kvs,e⟩
 · obtain ⟨_,hd,vs,_,dd⟩:=Zlv I.hok e;refine ⟨dd.typeIs,fun b q=>?_,hd⟩;cases q
   obtain ⟨ob,_,_,h1,h2,_⟩:=dd;exact ⟨ob,h1,h2.2.1⟩
 · obtain ⟨_,hd,xs,_,dd⟩:=Zk8 I.hok e;refine ⟨dd.typeIs,fun b q=>?_,hd⟩;cases q
   obtain ⟨ob,_,_,h1,h2,_⟩:=dd;exact ⟨ob,h1,h2.2.1⟩
section
variable {X:Cx} {pins:List (Addr×Obj)} {σ:St} {H:Hp} {s:Shared} {a:Addr} {y d:V} {u r:Value} {o:Option V} {A:Around} {E:Value→Shared→Prop}
theorem Ztd (hu:A.units+1<cLine) (I:Inv X pins σ H s) (g:DGet H a y o) (ry:RelV y u) (h:∀ w' s',Inv X pins σ H s'→RelV (o.getD .non) w'→Q w' s') :
 wpAny (model X.prog X.w) A (call (.builtin "dict.get") [.ref a,u]) Q E s:=by
 rcases g with ⟨kvs,k,e,ey,l⟩|⟨kvs,k,b,e,ey,eb,l⟩
 · subst ey;obtain ⟨z,hd,vs,rel,dd⟩:=Zlv I.hok e;refine call_meetsIn PySem.F.slot_dict_get dd.typeIs PySem.F.entry_dict_get (PySem.F.args_dict_get_2 _ _) (meets_dict_get (Yq X.prog X.w) a (Zo0 ry) hd) ⟨_,dd.mapOf,h _ _ (I.tok _) ?_⟩;rw [l];exact (rel.val k).getD rfl
 · subst ey;cases (show u=Value.ref b from ry)
   obtain ⟨z,hd,xs,rel,dd⟩:=Zk8 I.hok e;refine call_meetsIn PySem.F.slot_dict_get dd.typeIs PySem.F.entry_dict_get (PySem.F.args_dict_get_2 _ _) (meetsH_dict_get (tupleKind (Yq X.prog X.w)) a b hd) ⟨tupleKind_room_in1 hu,k,xs,Zgq I.hok eb,dd,h _ _ (I.tok _) ?_⟩;rw [l];exact (rel.val k).getD rfl
theorem Zs4 (hu:A.units+1<cLine) (I:Inv X pins σ H s) (g:DGet H a y o) (ry:RelV y u) (rd:RelV d r) (h:∀ w' s',Inv X pins σ H s'→RelV (o.getD d) w'→Q w' s') :
 wpAny (model X.prog X.w) A (call (.builtin "dict.get") [.ref a,u,r]) Q E s:=by
 rcases g with ⟨kvs,k,e,ey,l⟩|⟨kvs,k,b,e,ey,eb,l⟩
 · subst ey;obtain ⟨z,hd,vs,rel,dd⟩:=Zlv I.hok e;refine call_meetsIn PySem.F.slot_dict_get dd.typeIs PySem.F.entry_dict_get (PySem.F.args_dict_get_3 _ _ _) (meets_dict_get_default (Yq X.prog X.w) a (Zo0 ry) hd r) ⟨_,dd.mapOf,h _ _ (I.tok _) ?_⟩;rw [l];exact (rel.val k).getD rd
 · subst ey;cases (show u=Value.ref b from ry)
   obtain ⟨z,hd,xs,rel,dd⟩:=Zk8 I.hok e;refine call_meetsIn PySem.F.slot_dict_get dd.typeIs PySem.F.entry_dict_get (PySem.F.args_dict_get_3 _ _ _) (meetsH_dict_get_default (tupleKind (Yq X.prog X.w)) a b hd r) ⟨tupleKind_room_in1 hu,k,xs,Zgq I.hok eb,dd,h _ _ (I.tok _) ?_⟩;rw [l];exact (rel.val k).getD rd
end
def Zun (td ty:TE):TE:=fun σ H Q=>td σ H fun x H1=>∃ a,x=.ref a∧IsD H1 a∧ty σ H1 fun y H2=>∃ o,DGet H2 a y o∧Q (o.getD .non) H2
def Zt8 (td ty tx:TE):TE:=fun σ H Q=>td σ H fun x H1=>∃ a,x=.ref a∧IsD H1 a∧ty σ H1 fun y H2=>tx σ H2 fun z H3=>∃ o,DGet H3 a y o∧Q (o.getD z) H3
section
variable {X:Cx} {o e f:Expr} {apos cpos:Pos} {td ty tx:TE}
theorem Zjr (hu:X.A.units+1<cLine) (ho:PE X o td) (he:PE X e ty) (m:M1 X o "get" apos e cpos):PE X (.Call (.Attribute o "get" apos) [e] [] cpos) (Zun td ty):=by
 intro pins s σ H Q I h;refine wpAny_Call_method m.base m.few m.line PySem.F.plainAttrs_dict PySem.F.slot_dict_get PySem.F.type_dict_get (thn (ho pins s σ H _ I h) fun u s1 ⟨x,H1,I1,rx,a,ex,d,q1⟩=>?_);subst ex;obtain rfl:u=Value.ref a:=rx;obtain ⟨t1,t2,_⟩:=Zge I1 d;refine ⟨t1,t2,?_⟩;rw [m.trees];refine Calls.callWith_builtin rfl (Calls.evalArgs_plain (Calls.spliced_cons (thn (he pins s1 σ H1 _ I1 q1) fun iv s2 ⟨y,H2,I2,ry,ov,g,q2⟩=>Calls.spliced_nil ?_)));exact Ztd hu I2 g ry fun w' s3 I3 rw'=>⟨_,H2,I3,rw',q2⟩
theorem Zpn (hu:X.A.units+1<cLine) (ho:PE X o td) (he:PE X e ty) (hf:PE X f tx) (m:M2 X o "get" apos e f cpos):PE X (.Call (.Attribute o "get" apos) [e,f] [] cpos) (Zt8 td ty tx):=by
 intro pins s σ H Q I h;refine wpAny_Call_method m.base m.few m.line PySem.F.plainAttrs_dict PySem.F.slot_dict_get PySem.F.type_dict_get (thn (ho pins s σ H _ I h) fun u s1 ⟨x,H1,I1,rx,a,ex,d,q1⟩=>?_);subst ex;obtain rfl:u=Value.ref a:=rx;obtain ⟨t1,t2,_⟩:=Zge I1 d;refine ⟨t1,t2,?_⟩;rw [m.trees]
 refine Calls.callWith_builtin rfl (Calls.evalArgs_plain (Calls.spliced_cons (thn (he pins s1 σ H1 _ I1 q1) fun iv s2 ⟨y,H2,I2,ry,q2⟩ =>
  Calls.spliced_cons (thn (hf pins s2 σ H2 _ I2 q2) fun fv s3 ⟨z,H3,I3,rz,ov,g,q3⟩=>Calls.spliced_nil ?_))))
 exact Zs4 hu I3 g ry rz fun w' s4 I4 rw'=>⟨_,H3,I4,rw',q3⟩
end
section
variable {X:Cx} {pins:List (Addr×Obj)} {σ:St} {H:Hp} {s:Shared} {a:Addr} {kvs:List (Key×V)} {A:Around} {E:Value→Shared→Prop}
end
section
variable {X:Cx} {pins:List (Addr×Obj)} {σ:St} {H:Hp} {s:Shared} {a:Addr} {y:V} {u:Value} {A:Around} {E:Value→Shared→Prop}
end
end L2
namespace PySem
open Sem (wp)
section
variable {prog:Program} {w:World} {K:Type} [DecidableEq K] {knd:HeapKind prog w K} {A:Around} {E:Value→Shared→Prop} {s:Shared}
end
end PySem
namespace L2
open PySem PySem.Spec PyProof.Rows
section
variable {X:Cx} {pins:List (Addr×Obj)} {σ:St} {H:Hp} {s:Shared} {A:Around} {E:Value→Shared→Prop} {a b:Addr} {kvs:List (List Key×V)} {k:List Key} {r:Value} {v:V}
end
end L2
namespace PySem
section
variable {prog:Program} {w:World} {A:Around} {E:Value→Shared→Prop} {s:Shared} {it d:Addr} {i ep:Nat} {es:Array DictEntry} {ok ov:Value}
def EntAt (h:Heap) (d:Addr) (es:Array DictEntry) (ep:Nat):Prop:=∃ o:Obj,h.get? d=some o∧o.data=.dict es ep
theorem EntAt.at {h h':Heap} (x:EntAt h d es ep) (k:∀ o,h.get? d=some o→h'.get? d=some o):EntAt h' d es ep:=let ⟨o,e,q⟩:=x;⟨o,k o e,q⟩
theorem Zpc {x:DictEntry} {Q:Option Value→Shared→Prop} (hit:IsItemIter s.heap it d i es.size ep ok ov) (hm:EntAt s.heap d es ep) (hx:es[i]? = some x)
 (hQ:∀ h',IsItemIterOut h' it d (i+1) es.size ep x.key x.val s.z→h'.get? s.z=some { cls:=.type "tuple",data:=.seq #[x.key,x.val] } →
   (∀ b o,b≠it→s.heap.get? b=some o→h'.get? b=some o)→Q (some (.ref s.z)) { s with heap:=h' }):wpAny (model prog w) A (pyNext (.ref it)) Q E s:=by
 obtain ⟨H0,G0,R0,K0,O0⟩:=s;obtain ⟨od,e0,q0⟩:=hm;have ty:∀ {h:Heap} {j:Nat} {y z:Value},IsItemIter h it d j es.size ep y z→Shared.TypeIs ⟨h,G0,R0,K0,O0⟩ (.ref it) "dict_itemiterator" := fun q=>⟨_,q,rfl⟩;have T0:=ty hit;have lt:it<H0.objs.size:=n11_ hit;have ne:H0.objs.size≠it:=n59_ lt;obtain ⟨li,rfl⟩:=Array.getElem?_eq_some_iff.mp hx;unfold pyNext;refine n0_ <| wpAny_attempt <| wpAny_callSpecial?_slot (name:=Str.ofString "__next__") T0 F.slot_dict_itemiterator_next <| wpAny_call_entry F.slot_dict_itemiterator_next T0 F.entry_dict_itemiterator_next ?_ (F.args_dict_itemiterator_next_1 _);refine n0_ <| n3_ <| n0_ <| n0_ <| n0_ <| wpAny_typeNameOfWhole_itemiter T0 <| n3_ <| n0_ <| wpAny_fieldsOf hit rfl ?_;have own:Builtin.Dict_items.ownsTuple "dict_itemiterator" = true:=by decide
 simp only [own,if_true];show wpAny _ _ (if (Value.ref d == Value.none)=true then _ else _) _ _ _
 rw [if_neg (by intro z;cases z)];refine n0_ <| n3_ <| n0_ <| wpAny_dictEntries e0 q0 ?_;rw [if_neg (by simp)];refine n0_ <| n3_ <| n0_ <| wpAny_dictEpoch e0 q0 ?_;rw [if_neg (by simp)];refine n3_ ?_;have nn:¬ ((i:Int)<0):=by omega
 simp only [nn,if_false,n57_,hx];refine n0_ <| n0_ <| wpAny_typeNameOfWhole_itemiter T0 <| n3_ <| n0_ <| wpAny_isOneOf_itemiter T0 ?_;show wpAny _ _ (setField (.ref it) 3 (rawInt ((i:Int)+1)) >>= _) _ _ ⟨H0,G0,R0,K0,O0⟩
 refine n0_ <| wpAny_setField_rec hit (by simp) fun H1 m1 b1=>?_
 have i1:IsItemIter H1 it d (i+1) es.size ep ok ov:=by
  have c:((i+1:Nat):Int)=(i:Int)+1:=Int.natCast_add i 1;unfold IsItemIter;rw [c];simpa [rawInt] using m1
 replace b1:Heap.SameBut it H0 H1:=b1;refine n0_ <| n31_ <| n0_ <| wpAny_isOneOf_itemiter (ty i1) <| n0_ <| wpAny_isOneOf_itemiter (ty i1) ?_;show wpAny _ _ (Builtin.Dict_items.pairFromOwner (.ref it) 6 es[i].key es[i].val) _ _ ⟨H1,G0,R0,K0,O0⟩
 unfold Builtin.Dict_items.pairFromOwner;refine n0_ <| wpAny_newTuple ?_;have z1:H1.objs.size=H0.objs.size:=b1.1;have i2:IsItemIter (H1.push { cls:=.type "tuple",data:=.seq #[es[i].key,es[i].val] }) it d (i+1) es.size ep ok ov:=n2_ _ i1;have t2:(H1.push { cls:=.type "tuple",data:=.seq #[es[i].key,es[i].val] }).get? H0.objs.size=some { cls:=.type "tuple",data:=.seq #[es[i].key,es[i].val] }:=z1 ▸ n8_ _ rfl;have k2:∀ b o,b≠it→H0.get? b=some o→(H1.push { cls:=.type "tuple",data:=.seq #[es[i].key,es[i].val] }).get? b=some o:=fun b o hb e=>n2_ _ (b1.extBut b o hb e);show wpAny _ _ (Builtin.Dict_items.ownedTupleIsFree (.ref it) >>= _) _ _ ⟨H1.push { cls:=.type "tuple",data:=.seq #[es[i].key,es[i].val] },G0,R0,K0,O0⟩
 rw [z1];generalize H1.push { cls:=.type "tuple",data:=.seq #[es[i].key,es[i].val] }=H2 at i2 t2 k2 ⊢;refine n0_ ?_;unfold Builtin.Dict_items.ownedTupleIsFree;refine n0_ <| wpAny_field i2 rfl (x:=.none) rfl <| n3_ ?_;simp only [if_true];refine n0_ <| wpAny_field i2 rfl (x:=ok) rfl <| n0_ <| wpAny_field i2 rfl (x:=ov) rfl ?_;refine n0_ <| wpAny_setField_rec i2 (by simp) fun H3 m3 b3=>?_;have i3:IsItemIter H3 it d (i+1) es.size ep es[i].key ov:=m3;refine n0_ <| wpAny_setField_rec i3 (by simp) fun H4 m4 b4=>?_;have i4:IsItemIter H4 it d (i+1) es.size ep es[i].key es[i].val:=m4;refine n0_ <| wpAny_setField_rec i4 (by simp) fun H5 m5 b5=>?_;have i5:IsItemIterOut H5 it d (i+1) es.size ep es[i].key es[i].val H0.objs.size:=m5;refine n0_ <| wpAny_setField_rec i5 (by simp) fun H6 m6 b6=>?_;have i6:IsItemIterOut H6 it d (i+1) es.size ep es[i].key es[i].val H0.objs.size:=m6;have up6:∀ b o,b≠it→H2.get? b=some o→H6.get? b=some o:=fun b o hb e=>Heap.SameBut.extBut (show Heap.SameBut it H5 H6 from b6) b o hb (Heap.SameBut.extBut (show Heap.SameBut it H4 H5 from b5) b o hb (Heap.SameBut.extBut (show Heap.SameBut it H3 H4 from b4) b o hb (Heap.SameBut.extBut (show Heap.SameBut it H2 H3 from b3) b o hb e)));exact n0_ <| wpAny_letGo <| n3_ <| n3_ ⟨_,rfl,n3_ <| hQ H6 i6 (up6 _ _ ne t2) fun b o hb e=>up6 b o hb (k2 b o hb e)⟩
theorem Zr3 {Q:Option Value→Shared→Prop} (hh:A.handled=none) (hit:IsItemIter s.heap it d i es.size ep ok ov) (hm:EntAt s.heap d es ep) (hx:es[i]? = none)
 (hQ:∀ h',Heap.ExtBut it s.heap h'→Q none { s with heap:=h' }):wpAny (model prog w) A (pyNext (.ref it)) Q E s:=by
 obtain ⟨od,e0,q0⟩:=hm;have T0:s.TypeIs (.ref it) "dict_itemiterator" := ⟨_,hit,rfl⟩;unfold pyNext;refine n0_ <| wpAny_attempt <| wpAny_callSpecial?_slot (name:=Str.ofString "__next__") T0 F.slot_dict_itemiterator_next <| wpAny_call_entry F.slot_dict_itemiterator_next T0 F.entry_dict_itemiterator_next ?_ (F.args_dict_itemiterator_next_1 _);refine n0_ <| n3_ <| n0_ <| n0_ <| n0_ <| wpAny_typeNameOfWhole_itemiter T0 <| n3_ <| n0_ <| wpAny_fieldsOf hit rfl ?_;have own:Builtin.Dict_items.ownsTuple "dict_itemiterator" = true:=by decide
 simp only [own,if_true];show wpAny _ _ (if (Value.ref d == Value.none)=true then _ else _) _ _ s
 rw [if_neg (by intro z;cases z)];refine n0_ <| n3_ <| n0_ <| wpAny_dictEntries e0 q0 ?_;rw [if_neg (by simp)];refine n0_ <| n3_ <| n0_ <| wpAny_dictEpoch e0 q0 ?_;rw [if_neg (by simp)];refine n3_ ?_;have nn:¬ ((i:Int)<0):=by omega
 simp only [nn,if_false,n57_,hx];refine n0_ <| n0_ <| wpAny_typeNameOfWhole_itemiter T0 <| n3_ ?_;show wpAny _ _ (setField (.ref it) 2 .none >>= _) _ _ s
 refine n0_ <| wpAny_setField hit rfl (by simp) ?_;show wpAny _ _ (newExc (.type "StopIteration") [] >>= _) _ _ _
 refine n0_ ?_;simp only [newExc,newTuple];refine n0_ <| wpAny_newObj_type ?_ (by size_fits);refine n0_ (m:=firstArgMember _ _) <| wpAny_of_eq (a:=Value.none) (by first|rfl|(simp only [firstArgMember];rfl)) ?_;refine wpAny_newObj_type ?_ (by size_fits);simp only [raiseNew];refine n0_ <| wpAny_handled ?_;rw [show A.in1.handled=none from hh];refine n0_ <| n3_ <| wpAny_throw ?_;refine n0_ (wpAny_isInstance (T := "StopIteration") (b:=true) ⟨_,n8_ _ rfl,rfl⟩ isSubtype_stop ?_);exact n3_ <| hQ _ <| ((Heap.SameBut.update ..).extBut.push _).push _
theorem Zkm (d:Addr) (hd:(d == sysModules)=false):MeetsIn prog w (Builtin.«dict.items» ⟨[.ref d],[]⟩) (fun _ R s=>s.TypeIs (.ref d) "dict" ∧
 R (.ok (.ret (.ref s.z))) { s with heap:=s.heap.push { cls:=.type "dict_items",data:=.fields #[.ref d] } }) :=
 .of_wp fun A R s ⟨ty,h⟩=>by
  unfold Builtin.«dict.items»;refine n0_ ?_;unfold Builtin.Dict.noArgs;refine n0_ <| wpAny_notOrdered_dict ty ?_;show wpAny _ _ (pure d) _ _ s
  refine n3_ ?_;show wpAny _ _ (Builtin.Dict.showsAll d >>= _) _ _ s
  unfold Builtin.Dict.showsAll;rw [if_neg (by rw [hd];intro z;cases z)];exact n0_ <| n3_ <| n0_ <| wpAny_newObj_type <| n3_ ⟨_,rfl,h⟩
theorem Zoc {v:Addr} {Q:Value→Shared→Prop} (hv:s.heap.IsItemsView v d) (hm:EntAt s.heap d es ep)
 (hQ:∀ h',IsItemIter h' s.z d 0 es.size ep .none .none→(∀ b o,s.heap.get? b=some o→h'.get? b=some o)→Q (.ref s.z) { s with heap:=h' }):wpAny (model prog w) A (pyIter (.ref v)) Q E s:=by
 obtain ⟨o1,e1,c1,q1⟩:=id hv;obtain ⟨od,e0,q0⟩:=hm;refine wpAny_pyIter_slot hv.typeIs F.slot_dict_items_iter <| wpAny_call_entry F.slot_dict_items_iter hv.typeIs F.entry_dict_items_iter ?_ (F.args_dict_items_iter_1 _);unfold Builtin.«dict_items.__iter__»;refine n0_ <| n3_ <| n0_ ?_;unfold Builtin.Dict_items.dictOf;refine n0_ <| wpAny_field e1 q1 (x:=.ref d) rfl <| n3_ <| n0_ ?_;unfold Builtin.Dict_items.newIterator;refine n0_ <| wpAny_dictEntries e0 q0 <| n0_ <| wpAny_dictEpoch e0 q0 ?_;have own:Builtin.Dict_items.ownsTuple "dict_itemiterator" = true:=by decide
 simp only [own,if_true]
 refine wpAny_newObj_type (n3_ ⟨_,rfl,"dict_itemiterator",_,⟨_,n8_ _ rfl,rfl⟩,F.slot_dict_itemiterator_next.lookup,?_⟩)
  (by simp only [sizeOk,Builtin.Dict_items.ownedTupleFields,n9_,n26_,n15_,n53_,sizeLine_eq];omega)
 have q:=hQ (s.heap.push { cls:=.type "dict_itemiterator",data:=.fields #[.none,.bool false,.ref d,.int 0 0,.int es.size 0,.int ep 0,.none,.none] }) (n8_ _ rfl) fun b o e=>n2_ _ e
 simpa [rawInt,Builtin.Dict_items.ownedTupleFields] using q
end
end PySem
namespace L2
open PySem PySem.Spec PyProof.Rows
def Itd (o:Obj) (d:Addr):It where
 go:=fun i H=>∃ kvs,H d=some (.frz o (.dT kvs))∧i<kvs.length
 yld:=fun i H v H'=>∃ (g b:Addr) (k:List Key) (y:V),v=.ref g∧H g=none∧H'=upd H g (.tup [.ref b,y])∧H b=some (.tup (k.map kV))∧∀ kvs,H d=some (.frz o (.dT kvs))→kvs[i]? = some (k,y)
 stop:=fun i H=>∃ kvs,H d=some (.frz o (.dT kvs))∧kvs.length≤i
variable {D it:Addr} {A:Around} {X:Cx} {env:Env} {iter tg:Expr} {h:Heap} {H:Hp} {pins:List (Addr×Obj)} {kvs:List (List Key×V)} {fr:List (Option Nat)} {cl:List (Str×Addr)} {N:List Str} {vs:List V} {us:List Value} {ep x1:Nat} {o:Obj} {pos tp:Pos} {P prog:Program} {R:Result→Shared→Prop} {scope:Scope} {s:Shared} {σ:St} {g:TG} {wi:TI} {v:V} {u:Value} {w:World}
theorem Ze3 {d:Addr} {es:Array DictEntry} (x:HOk P w H h) (e:H d=some (.frz o (.dT kvs))) (od:o.data=.dict es ep) :
 EntAt h d es ep∧es.size=kvs.length∧∀ (i:Nat) (k:List Key) (y:V),kvs[i]? = some (k,y)→∃ (b:Addr) (u:Value) (t:Int),es[i]? = some ⟨t,.ref b,u⟩∧H b=some (.tup (k.map kV))∧RelV y u:=by
 obtain ⟨g,z,_,xs,rel,o2,es2,ep2,g2,_,d2,q,_⟩:=x d _ e;rw [g] at g2;cases g2
 rw [od] at d2;cases d2
 have l1:es.size=xs.length:=by rw [← Array.length_toList,q,n5_]
 have l2:=Paired.length rel;refine ⟨⟨o,g,od⟩,by omega,fun i k y hi=>?_⟩
 have get:∀ (l1:List (List Key×V)) (l2:List (List Key×Addr×Value)),Paired (fun (p:List Key×V) (q:List Key×Addr×Value)=>p.1=q.1∧H q.2.1=some (.tup (p.1.map kV))∧RelV p.2 q.2.2) l1 l2→∀ i:Nat,l1[i]? = some (k,y)→∃ (b:Addr) (u:Value),l2[i]? = some (k,b,u)∧H b=some (.tup (k.map kV))∧RelV y u:=by
  intro l1 l2 r
  induction r with
  | nil=>intro i h;simp at h
  | cons r t ih =>
    intro i h;cases i with
    | zero =>
      cases h
      rename_i _ b _ _
      obtain ⟨b1,b2,b3⟩:=b;obtain ⟨r1,r2,r3⟩:=r;cases r1
      exact ⟨b2,b3,rfl,r2,r3⟩
    | succ i=>exact ih i h
 obtain ⟨b,u,e1,e2,e3⟩:=get _ _ rel i hi;refine ⟨b,u,(tupleKind (Yq P w)).hash k,?_,e2,e3⟩;rw [← Array.getElem?_toList,q,n6_,e1];rfl
theorem Zku {K:PySem.W.Frag} {ts:List Expr} {d:Addr} {es:Array DictEntry} (od:o.data=.dict es ep) (nd:d≠it) :
 Turn P w K (.Tuple ts x1 tp) (Itd o d) [it] it (fun n h=>∃ ok ov,IsItemIter h it d n es.size ep ok ov) where
 mem:=by simp
 obj:=fun n h st b hb=>by
  obtain ⟨ok,ov,e⟩:=st;rw [n39_.mp hb];exact ⟨_,e,fun v q=>by cases (show Data.fields _=Data.cell v from q)⟩
 keep:=fun n h h' st f=>by
  obtain ⟨ok,ov,e⟩:=st;exact ⟨ok,ov,f it (by simp) _ e⟩
 item:=by
  intro X hP hw hK hc n pins s σ H E I hf st hg;subst hP hw hK;obtain ⟨ok,ov,h1⟩:=st;obtain ⟨kvs,hd,hn⟩:=hg;obtain ⟨ent,sz,at_⟩:=Ze3 I.hok hd od;obtain ⟨⟨k,y⟩,ek⟩:∃ p,kvs[n]? = some p:=⟨kvs[n],n1_ hn⟩;obtain ⟨b,u,t,ex,hb,ru⟩:=at_ n k y ek
  have li:it≠s.z:=n22_ (n11_ h1);refine Zpc h1 ent ex fun h' r1 r2 r3=>?_;refine ⟨_,rfl,wpAny_letOwnedTupleGo_items r1 fun g2 z2 s2=>?_⟩;have T2:g2.get? s.z=some { cls:=.type "tuple",data:=.seq #[.ref b,u] }:=s2.extBut _ _ li.symm r2;have hp:H s.z=none:=I.hok.fresh (n7_ _)
  have I2:Inv X pins σ (upd H s.z (.tup [.ref b,y])) { s with heap:=g2,toks:=s.toks }:=by
   refine I.turnNew (ch:=[it]) (fun c o' ne q=>?_) (fun c hc=>hf c hc) (n7_ _) ⟨z2_,[.ref b,u],.cons rfl (.cons ru .nil),⟨_,T2,rfl,_,rfl⟩⟩;have ne':c≠it:=fun z=>ne (by rw [z];simp);exact s2.extBut _ _ ne' (r3 c o' ne' q)
  refine ⟨.ref s.z,_,I2,rfl,⟨_,b,k,y,rfl,hp,rfl,hb,fun kvs' e'=>?_⟩,⟨_,_,z2⟩,fun c hc=>?_⟩
  · rw [hd] at e';cases e';exact ek
  · rw [n39_.mp hc,Zj li];exact (hf it (by simp)).1
 done:=by
  intro X hP hw hK hc n pins s σ H E I hf st hg;subst hP hw hK;obtain ⟨ok,ov,h1⟩:=st;obtain ⟨kvs,hd,hn⟩:=hg;obtain ⟨ent,sz,_⟩:=Ze3 I.hok hd od;refine Zr3 (show X.A.handled=none from I.ok.hd hc) h1 ent (Array.getElem?_eq_none (by omega)) fun h' x=>⟨rfl,?_⟩;exact I.turnOnly (t':=s.toks) (ch:=[it]) (fun c o' ne q=>x c o' (fun z=>ne (by rw [z];simp)) q) (fun c hc=>hf c hc)
 self:=fun A i s Q E st q=>by
  obtain ⟨ok,ov,h1⟩:=st;exact PySem.W.kcp_self h1 q
section
variable {X:Cx} {pins:List (Addr×Obj)} {σ:St} {H:Hp} {s:Shared}
theorem Inv.freeze {d:Addr} (I:Inv X pins σ H s) (e:H d=some (.dT kvs)):∃ o es ep,o.data=.dict es ep∧(d == sysModules)=false∧EntAt s.heap d es ep∧Inv X pins σ (upd H d (.frz o (.dT kvs))) s:=by
 have ok:=I.hok d _ e;obtain ⟨z,hd,xs,rel,o,es,ep,g,c,dd,q,nd⟩:=id ok;refine ⟨o,es,ep,dd,hd,⟨o,g,dd⟩,?_⟩;refine Znx (t':=s.toks) I (by rw [e];exact True.intro) (Heap.SameBut.refl _ _) ⟨o,g⟩ ⟨g,z,hd,xs,Paired.mapP rel fun p r h=>⟨h.1,by rw [Zj (Zfk h.2.1 e (fun z=>nomatch z))];exact h.2.1,h.2.2⟩,o,es,ep,g,c,dd,q,nd⟩
def iItm (td:TE):TI:=fun σ H R=>td σ H fun x H1=>∃ d kvs,x=.ref d∧H1 d=some (.dT kvs)∧∀ o,R (Itd o d) (upd H1 d (.frz o (.dT kvs)))
theorem Zot {o:Expr} {td:TE} {apos cpos:Pos} {ts:List Expr} (ho:PE X o td)
 (hbase:attributeBase o "items" X.env (eval o X.env)=eval o X.env:=by rfl) (hline:(apos.endLine == cpos.line)=true:=by rfl):PI X (.Tuple ts x1 tp) (.Call (.Attribute o "items" apos) [] [] cpos) (iItm td):=by
 intro pins s σ H R I h;refine wpAny_Call_method0_late hbase hline (thn (ho pins s σ H _ I h) fun v s1 ⟨x,H1,I1,r1,d,kvs,ex,hd,q⟩=>?_);subst ex;cases (show v=Value.ref d from r1)
 obtain ⟨t1,t2,_⟩:=Zge I1 (.inr ⟨kvs,.inl hd⟩);obtain ⟨ob,es,ep,od,nm,ent,I2⟩:=I1.freeze hd;refine ⟨"dict","dict.items",PySem.F.plainAttrs_dict,PySem.F.slot_dict_items,PySem.F.type_dict_items,t1,t2,Calls.callWith_builtin rfl (PySem.evalArgs_none ?_)⟩;refine call_meetsIn PySem.F.slot_dict_items t1 PySem.F.entry_dict_items (PySem.F.args_dict_items_1 _) (Zkm d nm) ⟨t1,?_⟩;have n1:(s1.heap.push { cls:=.type "dict_items",data:=.fields #[.ref d] }).objs.size=s1.z+1:=n54_ ..;refine Zoc (d:=d) (es:=es) (ep:=ep) ⟨_,n8_ _ rfl,rfl,rfl⟩ (ent.at fun o e=>n2_ _ e) fun h' e1 k1=>?_;have k2:∀ b o,s1.heap.get? b=some o→h'.get? b=some o:=fun b o e=>k1 b o (n2_ _ e);have ld:d<s1.z:=let ⟨_,e,_⟩:=ent;n11_ e;have nd:d≠(s1.heap.push { cls:=.type "dict_items",data:=.fields #[.ref d] }).objs.size:=n22_ (by rw [n1];exact n68_ ld);have le:s1.z≤(s1.heap.push { cls:=.type "dict_items",data:=.fields #[.ref d] }).objs.size:=by rw [n1];exact Nat.le_succ _
 refine ⟨_,_,_,_,_,rfl,I2.kept (t':=s1.toks) k2,Zku od nd,⟨_,_,e1⟩,fun b hb=>?_,q ob⟩;rw [n39_.mp hb];exact I2.fpOk le (by rw [Zj nd.symm];exact I1.hok.fresh le)
end
theorem Znj {kx vx target:Expr} {it:Value} (I:Nat→Shared→Prop)
 (turn:∀ n s,I n s→wpAny (model prog w) A (pyNext it) (fun r s₁=>match r with
   | none=>R (.ok .next) s₁
   | some v=>wpAny (model prog w) A (letOwnedTupleGo target it v) (fun _ s₀=>wpAny (model prog w) A (assign target env v) (fun _ s₂ =>
      wpAny (model prog w) A (eval kx env) (fun k s₃=>wpAny (model prog w) A (eval vx env) (fun y s₄=>wpAny (model prog w) A (dictSet D k y) (fun _ s₅=>∃ m,m<n∧I m s₅) (fun _ _=>False) s₄) (fun _ _=>False) s₃) (fun _ _=>False) s₂) (fun _ _=>False) s₀) (fun _ _=>False) s₁) (fun _ _=>False) s)
 (n:Nat) (h:I n s):codeAny (model prog w) A (.compLoop (.DictComp kx vx [⟨target,iter,[],0⟩] scope pos) 0 it (.ref D) env) R s:=by
 refine codeAny_loop rfl I (fun n s hI=>?_) n h;show wpAny _ A ((compTurn (.DictComp kx vx [⟨target,iter,[],0⟩] scope pos) 0 it (.ref D) env).onRaise (fun x=>do noteFrame x env;theTreesLotGoes x)) _ _ s
 refine wpAny_noted ?_;rw [compTurn_dict];have no:∀ {α:Type} {m:Sem α} {Q Q':α→Shared→Prop} {E:Value→Shared→Prop} {s:Shared},wpAny (model prog w) A m Q (fun _ _=>False) s→(∀ x s,Q x s→Q' x s)→wpAny (model prog w) A m Q' E s:=fun h f=>n45_ h f fun _ _ z=>z.elim;refine n0_ (wpAny_standAt (n0_ (no (turn n s hI) fun r s₁ h₁=>?_)));cases r with
 | none=>exact n3_ h₁
 | some v =>
   refine n0_ (no h₁ fun _ s₀ h₀=>n0_ (no h₀ fun _ s₂ h₂=>?_));simp only [List.forIn_nil];refine n0_ (n3_ ?_);simp only [if_true];exact n0_ (n0_ (no h₂ fun k s₃ h₃=>n0_ (n31_ (no h₃ fun y s₄ h₄=>n0_ (wpAny_standAt (n31_ (no h₄ fun _ s₅ h₅=>n3_ ⟨rfl,h₅⟩)))))))
section
variable {X:Cx} {pins:List (Addr×Obj)} {σ:St} {H:Hp} {s:Shared} {A:Around} {E:Value→Shared→Prop} {a b:Addr} {kvs:List (List Key×V)} {k:List Key} {r:Value} {v:V}
theorem Zhg {Q:Unit→Shared→Prop} (hu:A.units<cLine) (I:Inv X pins σ H s) (e:H a=some (.dT kvs)) (eb:H b=some (.tup (k.map kV))) (rv:RelV v r) (hl:kvs.length<sizeLine) (h:∀ s',Inv X pins σ (upd H a (.dT (putK kvs k v))) s'→Q () s') :
 wpAny (model X.prog X.w) A (dictSet a (.ref b) r) Q E s:=by
 obtain ⟨z,hd,xs,rel,dd⟩:=Zv3 I.hok e;have hl':(putK kvs k v).length≤sizeLine:=by have:=Zc0 kvs k v;omega
 refine wpAny_dictSet_heap (knd:=tupleKind (Yq X.prog X.w)) (hsz:=by rw [← Paired.length rel];exact z) hu (Zgq I.hok eb) dd fun h' dd' hs=>h _ ?_;obtain ⟨q,es,ep,hq,c2,c3,c4,_,c5⟩:=dd';refine Znx I (by rw [e];exact True.intro) hs ⟨q,hq⟩ ⟨hl',hd,_,(rel.put k eb rv).keeps fun c ys ec=>?_,q,es,ep,hq,c2,c3,c4,c5⟩;rw [Zj (Zfk ec e (fun z=>nomatch z))];exact ec
end
def DcGo (J:It) (g:TG) (tk tv:TE) (σ0:St) (H1:Hp) (D:Addr) (Q:VK):Prop:=∃ W:Nat→Nat→St→Hp→Prop,(∃ m,W 0 m σ0 (upd H1 D (.dT []))) ∧
 ∀ i m σ2 H2,W i m σ2 H2→(J.stop i H2∧Q (.ref D) H2)∨(J.go i H2∧∀ x H3,J.yld i H2 x H3→g x σ2 H3 fun σ4 H4=>tk σ4 H4 fun k H5=>tv σ4 H5 fun y H6=>∃ kvs key b,H6 D=some (.dT kvs)∧k=.ref b∧H6 b=some (.tup (key.map kV))∧kvs.length<sizeLine ∧
   ∃ m',m'<m∧W (i+1) m' σ4 (upd H6 D (.dT (putK kvs key y))))
def tDC (wi:TI) (g:TG) (tk tv:TE) (fr:List (Option Nat)):TE:=fun σ H Q=>wi σ H fun J H1=>∀ D,H1 D=none→DcGo J g tk tv (Zah fr σ) H1 D Q
theorem Zu2 {kx vx:Expr} {tk tv:TE}
 (hu:X.A.units<cLine) (hc:X.calm=true) (L:LcO X scope cl N fr) (hi:PI X tg iter wi) (hg:∀ C s3 H3 fp,PG (blk X scope cl C N s3 H3 fp) tg g)
 (hk:∀ C s3 H3 fp,PE (blk X scope cl C N s3 H3 fp) kx tk) (hv:∀ C s3 H3 fp,PE (blk X scope cl C N s3 H3 fp) vx tv)
 (hs:∀ x,foldedSetIterable iter X.env x=pure x:=by intro _;rfl):PE X (.DictComp kx vx [⟨tg,iter,[],0⟩] scope pos) (tDC wi g tk tv fr):=by
 intro pins s σ H Q I h;rw [show eval (.DictComp kx vx [⟨tg,iter,[],0⟩] scope pos) X.env=comprehension (.DictComp kx vx [⟨tg,iter,[],0⟩] scope pos) scope X.env (firstIterPos [⟨tg,iter,[],0⟩] pos) newDict (firstAsync [⟨tg,iter,[],0⟩]) (firstIter [⟨tg,iter,[],0⟩] X.env) from rfl];refine wpAny_comprehension_free (use:=none) rfl hs L.clos L.kind L.names (thn (hi pins s σ H _ I h) fun v s1 h1=>thn h1 fun itv s2 h2=>?_);obtain ⟨it,fp,tn,J,H2,e,I2,T,st2,f2,h⟩:=h2;subst e;obtain ⟨W,⟨m0,w0⟩,turn⟩:=h s2.z (I2.hok.fresh (n7_ _));refine wpAny_newObj_type ?_;refine Zcv (ac:=.dT []) rfl hc L hg I2 T st2 f2 (Zf5 s2.heap I2.big) w0 turn (fun _ _ a b=>codeAny_compStart_dict a (b _)) (fun LI s4 t n h=>Znj LI t n h) (fun H7 s7 qn _ _ c=>Ziv qn c) fun LI n i σ9 H9 s9 ps I9 q9 again=>?_;refine thn (hk _ _ _ _ ps s9 σ9 H9 _ I9 q9) fun ku s10 ⟨kx',H10,I10,r10,q10⟩=>?_;refine thn (hv _ _ _ _ ps s10 σ9 H10 _ I10 q10) fun vu s11 ⟨vx',H11,I11,r11,kvs,key,b,hD11,ek,hb,hz,m',hm,w11⟩=>?_;subst ek;cases (show ku=Value.ref b from r10)
 exact Zhg (X:=blk X scope cl _ N _ _ fp) hu I11 hD11 hb r11 hz fun s12 I12=>again I12 hm w11
theorem Zjz (h:RelV v u):absV u=some v:=by
 cases v<;>simp only [RelV] at h<;>first|(subst h;rfl)|(obtain ⟨_,rfl⟩:=h;rfl)
theorem Zo9 {v':V} (h:RelV v u) (h':RelV v' u):v=v':=Option.some.inj ((Zjz h).symm.trans (Zjz h'))
section
variable {X:Cx} {α:Type} [DecidableEq α] {R:Hp→V→α→Prop} {d:Nat}
noncomputable def eqOf (R:Hp→V→α→Prop) (H:Hp) (a:α) (y:Value):Bool:=@decide (∃ v,RelV v y∧R H v a) (Classical.propDecidable _)
theorem Zio {y:Value} {x a:α} (inj:∀ v x y,R H v x→R H v y→x=y) (rv:RelV v y) (r:R H v x):eqOf R H a y=decide (x=a):=by
 unfold eqOf;rw [n56_];simp only [decide_eq_true_iff];refine ⟨fun ⟨v',h1,h2⟩=>?_,fun h=>⟨v,rv,h ▸ r⟩⟩;rw [Zo9 h1 rv] at h2;exact inj v x a r h2
theorem Zkg {a:α} (inj:∀ v x y,R H v x→R H v y→x=y):∀ {vs:List V} {us:List Value} {xs:List α},Vals vs us→Al (R H) vs xs→us.any (eqOf R H a)=decide (a∈xs)
 | [],_,xs,.nil,al=>by
   have:xs=[]:=List.length_eq_zero_iff.mp al.1.symm
   subst this;rfl
 | v :: vs,u :: us,xs,.cons r t,al=>by
   match xs,al with
   | [],al=>exact absurd al.1 (by simp)
   | x :: xs,al =>
     have h0:=al.2 0 v x rfl rfl;have tl:Al (R H) vs xs:=⟨by simpa using al.1,fun i v' x' e1 e2=>al.2 (i+1) v' x' e1 e2⟩;rw [List.any_cons,Zkg inj t tl,Zio inj r h0,n56_];simp only [Bool.or_eq_true,decide_eq_true_eq,n12_];exact ⟨fun h=>h.elim (fun e=>.inl e.symm) .inr,fun h=>h.elim (fun e=>.inl e.symm) .inr⟩
def rInG (R:Hp→V→α→Prop) (neg:Bool):R2:=fun x y H Q=>∃ (p:Addr) (vs:List V) (xs:List α) (a:α),y=.ref p∧H p=some (.lst vs)∧Al (R H) vs xs∧R H x a∧Q (.bl (if neg then !decide (a∈xs) else decide (a∈xs))) H
theorem Zpz (E:EqT X d R) (inj:∀ v x y,R H v x→R H v y→x=y) (hu:A.units+d<cLine) (I:Inv X pins σ H s) {xs:List α} (r:Vals vs us) (al:Al (R H) vs xs) {x:V} {v:Value} {a:α} (rx:RelV x v) (ra:R H x a) :
 ∀ y∈us.toArray,SeqAt.EqAt A s y v (eqOf R H a y):=fun y hy=>by
 obtain ⟨i,hi,e⟩:=n37_ (show y∈us by simpa using hy);have l1:=r.length;obtain ⟨u,eu,ru⟩:=r.get (n1_ (show i<vs.length by omega));rw [n1_ hi,e] at eu;cases eu
 obtain ⟨z,ez,rz⟩:=al.get (n1_ (show i<vs.length by omega));rw [Zio inj ru rz];exact E A pins σ H s _ _ _ _ z a hu I rz ra ru rx
theorem Zt6 (E:EqT X d R) (inj:∀ pins σ H s,Inv X pins σ H s→∀ v x y,R H v x→R H v y→x=y) (hu:X.A.units+d+1<cLine):OpR X (compareOp .In) (rInG R false):=by
 intro pins s σ H x y v u Q I rx ry h;obtain ⟨p,vs,xs,a,rfl,e,al,ra,q⟩:=h;cases ry
 obtain ⟨us,r,pl,_⟩:=I.list (SqL.of e);refine SeqAt.in_listAt (eqOf R H a) pl.isList (Zpz E (inj pins σ H s I) (by rw [Around.in1_units];omega) I r al rx ra) ⟨.bl _,H,I,rfl,?_⟩;rw [show us.toArray.any (eqOf R H a)=us.any (eqOf R H a) by simp,Zkg (inj pins σ H s I) r al];exact q
theorem Znu (E:EqT X d R) (inj:∀ H v x y,R H v x→R H v y→x=y) (hu:X.A.units+d+1<cLine):MtR X "list.index" (fun x xs H Q=>∃ (p:Addr) (vs:List V) (ys:List α) (v:V) (a:α) (j:Nat),x=.ref p∧xs=[v]∧H p=some (.lst vs)∧Al (R H) vs ys∧R H v a∧ys[j]? = some a∧(∀ m,m<j→ys[m]?≠some a)∧ys.length≤1000∧Q (.int j) H):=by
 intro pins s σ H x xs v us Q I rx rv h;obtain ⟨p,vs,ys,y,a,j,rfl,rfl,e,al,ra,ej,hno,hz,q⟩:=h;cases rx
 obtain ⟨u,rfl,ru⟩:=rv.one;obtain ⟨its,r,pl,_⟩:=I.list (SqL.of e);obtain ⟨⟨cls,dd,data,sl⟩,ho,hc,n,hd⟩:=id pl.isList;simp only at hc hd;subst hc hd;have l1:=r.length;have l2:=al.1;have hj:j<ys.length:=(n19_.mp ej).1
 have at_:∀ m (hm:m<its.toArray.size) z,ys[m]? = some z→eqOf R H a its.toArray[m]=decide (z=a):=fun m hm z ez=>by
  have hm':m<its.length:=by simpa using hm
  obtain ⟨w,ew,rw'⟩:=r.get (n1_ (show m<vs.length by omega));rw [n1_ hm'] at ew;cases ew
  simp only [List.getElem_toArray];exact Zio (inj H) rw' (al.2 m _ z (n1_ (by omega)) ez)
 refine call_meets F.slot_list_index ⟨_,ho,rfl⟩ F.entry_list_index (F.args_list_index_2 _ _) (SeqAt.list_indexAt p its.toArray n dd sl u (eqOf R H a) j (by simp;omega) (by omega) ?_ ?_) ⟨ho,Zpz E (inj H) (by rw [Around.in1_units];omega) I r al ru ra,?_⟩
 · rw [at_ j (by simp;omega) a ej];exact n24_ rfl
 · intro m hm hlt;have hm':m<ys.length:=by omega
   rw [at_ m hm ys[m] (n1_ hm')];exact n25_ fun z=>hno m hlt (by rw [n1_ hm',z])
 · exact ⟨.int j,H,I.tok _,⟨_,rfl⟩,q⟩
end
theorem Zrp:∀ H v x y,IsI H v x→IsI H v y→x=y:=fun H v x y ⟨a,e1,h1⟩ ⟨b,e2,h2⟩=>by
 subst e1;cases e2
 rw [h1] at h2
 have:=Option.some.inj h2
 injection this with this
 exact (List.map_inj_right (fun _ _ h=>by injection h)).mp this
theorem Zqn:EqT X 1 IsI:=by
 intro A pins σ H s v u a b x y hu I h1 h2 r1 r2;obtain ⟨p,rfl,e1⟩:=h1;obtain ⟨q,rfl,e2⟩:=h2;exact Zsd (X:=X) Zr5 (fun H v x y (h1:v=.int x) (h2:v=.int y)=>by rw [h1] at h2;cases h2;rfl) A pins σ H s (.ref p) (.ref q) a b x y hu I ⟨p,_,rfl,e1,Al.of_ints x⟩ ⟨q,_,rfl,e2,Al.of_ints y⟩ r1 r2
end L2
namespace L2
open PySem PySem.Spec PyProof.Rows PySem.W
def kok {α:Type} (n:Nat) (f:Nat→Nat→Bool) (P:α→Prop):KasT α→Prop
 | .ret a=>P a
 | .ask i j k=>i<n∧j<n∧kok n f P (k (f i j))
variable {α:Type} {p:Array Nat} {i k m n:Nat}
theorem Za5 {β:Type} {f:Nat→Nat→Bool} {P:β→Prop} {g:α→KasT β}:∀ (t:KasT α),kok n f (fun a=>kok n f P (g a)) t→kok n f P (t.bind g)
 | .ret a,h=>h
 | .ask i j k,h=>⟨h.1,h.2.1,Za5 (k (f i j)) h.2.2⟩
theorem Zm5 {f:Nat→Nat→Bool} {P:α→Prop}:∀ (t:KasT α),kok n f P t→kin n f t=true∧P (krun f t)
 | .ret a,h=>⟨rfl,h⟩
 | .ask i j k,h=>by
   obtain ⟨a,b⟩:=Zm5 (k (f i j)) h.2.2;refine ⟨?_,b⟩;unfold kin;rw [n24_ h.1,n24_ h.2.1,a];rfl
section
variable {n:Nat} {f:Nat→Nat→Bool}
def Pm (n:Nat) (p:Array Nat):Prop:=p.toList.Perm (List.range n)
theorem Pm.size (h:Pm n p):p.size=n:=by have:=h.length_eq;simpa using this
theorem Pm.lt (h:Pm n p) (hi:i<n):p.getD i 0<n:=by
 have hs:=h.size
 have:p.getD i 0∈p.toList:=by
  rw [Array.getD_eq_getD_getElem?,Array.getElem?_eq_getElem (show i<p.size by omega)];simp
 exact n34_.mp (h.mem_iff.mp this)
theorem Pm.ne (h:Pm n p) {j:Nat} (hi:i<n) (hj:j<n) (ne:i≠j):p.getD i 0≠p.getD j 0:=fun z=>by
 have hs:=h.size;have nd:p.toList.Nodup:=h.nodup_iff.mpr List.nodup_range;rw [Array.getD_eq_getD_getElem?,Array.getElem?_eq_getElem (show i<p.size by omega),Array.getD_eq_getD_getElem?,Array.getElem?_eq_getElem (show j<p.size by omega)] at z;exact ne ((n66_ (xs:=p.toList) (h₀:=by simpa using (show i<p.size by omega)) (h₁:=by simpa using (show j<p.size by omega)) nd).mp (by simpa using z))
theorem Pm.perm {q:Array Nat} (h:Pm n p) (e:q.Perm p):Pm n q:=(Array.perm_iff_toList_perm.mp e).trans h
noncomputable abbrev at' (p:Array Nat) (i:Nat):Nat:=p.getD i 0
theorem Zcy {q:Array Nat} {j:Nat} (h:p[i]? = q[j]?):at' p i=at' q j:=by simp only [at',Array.getD_eq_getD_getElem?,h]
def Asc (f:Nat→Nat→Bool) (p:Array Nat) (k:Nat):Prop:=∀ i j,i<j→j<k→f (at' p i) (at' p j)=true
def Dsc (f:Nat→Nat→Bool) (p:Array Nat) (k:Nat):Prop:=∀ i j,i<j→j<k→f (at' p j) (at' p i)=true
theorem Ord.flip (o:Ord n f) (h:Pm n p) {j:Nat} (hi:i<n) (hj:j<n) (ne:i≠j) (z:f (at' p i) (at' p j)=false):f (at' p j) (at' p i)=true:=by
 have:=o.ant _ _ (h.lt hi) (h.lt hj) (h.ne hi hj ne)
 rw [this,show f (p.getD i 0) (p.getD j 0)=false from z];rfl
theorem Zn7 (o:Ord n f) (h:Pm n p) (k1:1≤k) (hk:k<n) (a:Asc f p k) (z:f (at' p (k-1)) (at' p k)=true):Asc f p (k+1):=fun i j hij hj=>by
 by_cases e:j=k
 · subst e
   by_cases e2:i=j-1
   · rw [e2];exact z
   · exact o.tr _ _ _ (h.lt (by omega)) (h.lt (by omega)) (h.lt hk) (a i (j-1) (by omega) (by omega)) z
 · exact a i j hij (by omega)
theorem Zj3 (o:Ord n f) (h:Pm n p) (k1:1≤k) (hk:k<n) (a:Dsc f p k) (z:f (at' p k) (at' p (k-1))=true):Dsc f p (k+1):=fun i j hij hj=>by
 by_cases e:j=k
 · subst e
   by_cases e2:i=j-1
   · rw [e2];exact z
   · exact o.tr _ _ _ (h.lt hk) (h.lt (by omega)) (h.lt (by omega)) z (a i (j-1) (by omega) (by omega))
 · exact a i j hij (by omega)
theorem Zik (o:Ord n f) (h:Pm n p) {P:Nat→Prop}:∀ (u k:Nat),1≤k→k+u≤n→Asc f p k→(∀ m,k≤m→m≤k+u→Asc f p m→(m<k+u→f (at' p m) (at' p (m-1))=true)→P m)→kok n f P (kas_asc p u k)
 | 0,k,k1,hu,a,q=>q k (n7_ _) (n7_ _) a (by omega)
 | u+1,k,k1,hu,a,q=>by
   refine ⟨h.lt (by omega),h.lt (by omega),?_⟩;cases c:f (p.getD k 0) (p.getD (k-1) 0) with
   | true=>dsimp only;rw [if_pos rfl];exact q k (n7_ _) (by omega) a fun _=>c
   | false =>
     dsimp only;rw [if_neg (by simp)];exact Zik o h u (k+1) (by omega) (by omega) (Zn7 o h k1 (by omega) a (o.flip h (by omega) (by omega) (by omega) c)) fun m m1 m2 am z=>q m (by omega) (by omega) am fun hm=>z (by omega)
theorem Zj6 (o:Ord n f) (h:Pm n p) {P:Array Nat×Nat×Nat→Prop}:∀ (u k:Nat),1≤k→k+u≤n→Dsc f p k→(∀ m,k≤m→m≤k+u→Dsc f p m→P (p,m,0))→kok n f P (kas_desc u p k 0)
 | 0,k,k1,hu,a,q=>q k (n7_ _) (n7_ _) a
 | u+1,k,k1,hu,a,q=>by
   refine ⟨h.lt (by omega),h.lt (by omega),?_⟩;cases c:f (p.getD k 0) (p.getD (k-1) 0) with
   | true =>
     dsimp only;rw [if_pos rfl,if_neg (by omega)];exact Zj6 o h u (k+1) (by omega) (by omega) (Zj3 o h k1 (by omega) a c) fun m m1 m2 am=>q m (by omega) (by omega) am
   | false =>
     dsimp only;rw [if_neg (by simp)];refine ⟨h.lt (by omega),h.lt (by omega),?_⟩;dsimp only;rw [show f (p.getD (k-1) 0) (p.getD k 0)=true from o.flip h (by omega) (by omega) (by omega) c,if_pos rfl];exact q k (n7_ _) (by omega) a
theorem Zps (hm:m≤p.size) (k:Nat) (hk:k<m):at' (kas_rev p 0 m) k=at' p (m-1-k):=by
 have e:=getElem?_mirror_all (xs:=p) (i:=0) hm k;rw [if_pos ⟨n42_ _,hk⟩] at e;exact Zcy (e.trans (by rw [Nat.zero_add]))
theorem Zmh (o:Ord n f) (h:Pm n p) (h2:2≤n) {P:Nat×Array Nat→Prop} (q:∀ m p',1≤m→m≤n→Pm n p'→Asc f p' m→P (m,p')):kok n f P (kas_count n p):=by
 unfold kas_count;refine Za5 _ (Zik o h (n-1) 1 (n7_ _) (by omega) (fun i j _ _=>by omega) fun m m1 m2 am z=>?_)
 by_cases e:m=n
 · rw [if_pos (by simp [e])];exact q m p m1 (by omega) h am
 rw [if_neg (by simp [e])]
 by_cases g:m>1
 · rw [if_pos g];refine ⟨h.lt (by omega),h.lt (by omega),?_⟩;dsimp only;rw [show f (p.getD 0 0) (p.getD (m-1) 0)=true from am 0 (m-1) (by omega) (by omega),if_pos rfl];exact q m p m1 (by omega) h am
 rw [if_neg g];have em:m=1:=by omega
 subst em;unfold kas_descPart;refine Za5 _ (Zj6 o h (n-2) 2 (by omega) (by omega) (Zj3 o h (n7_ _) (by omega) (fun i j _ _=>by omega) (z (by omega))) fun m m1 m2 dm=>?_);show kok n f P (if 0>0 then _ else kas_tail3 m n p)
 rw [if_neg (by omega)];unfold kas_tail3;have hs:=h.size;have hr:Pm n (kas_rev p 0 m):=h.perm (mirror_perm _ _ _ _);refine Za5 _ (Zik o hr (n-m) m (by omega) (by omega) (fun i j hij hj=>?_) fun m' m1' m2' am' _=>q m' _ (by omega) (by omega) hr am');rw [Zps (by omega) i (by omega),Zps (by omega) j hj];exact dm (m-1-j) (m-1-i) (by omega) (by omega)
theorem Zdp (o:Ord n f) (h:Pm n p) (hk:k<n) (a:Asc f p k) {P:Nat→Prop} (q:∀ l,l≤k→(∀ i,i<l→f (at' p i) (at' p k)=true)→(∀ i,l≤i→i<k→f (at' p k) (at' p i)=true)→P l) :
 ∀ (u l r:Nat),l≤r→r≤k→r-l≤u→(∀ i,i<l→f (at' p i) (at' p k)=true)→(∀ i,r≤i→i<k→f (at' p k) (at' p i)=true)→kok n f P (kas_place p k u l r)
 | 0,l,r,lr,rk,hu,b1,b2=>q l (by omega) b1 fun i h1 h2=>b2 i (by omega) h2
 | u+1,l,r,lr,rk,hu,b1,b2=>by
   unfold kas_place
   by_cases g:l ≥ r
   · rw [if_pos g];exact q l (by omega) b1 fun i h1 h2=>b2 i (by omega) h2
   rw [if_neg g];refine ⟨h.lt hk,h.lt (by omega),?_⟩;cases c:f (p.getD k 0) (p.getD ((l+r)/2) 0) with
   | true =>
     dsimp only;rw [if_pos rfl];refine Zdp o h hk a q u l ((l+r)/2) (by omega) (by omega) (by omega) b1 fun i h1 h2=>?_
     by_cases e:i=(l+r)/2
     · rw [e];exact c
     · exact o.tr _ _ _ (h.lt hk) (h.lt (show (l+r)/2<n by omega)) (h.lt (by omega)) c (a _ i (by omega) h2)
   | false =>
     dsimp only;rw [if_neg (by simp)];have c':=o.flip h hk (show (l+r)/2<n by omega) (by omega) c;refine Zdp o h hk a q u ((l+r)/2+1) r (by omega) rk (by omega) (fun i h1=>?_) b2
     by_cases e:i=(l+r)/2
     · rw [e];exact c'
     · exact o.tr _ _ _ (h.lt (by omega)) (h.lt (show (l+r)/2<n by omega)) (h.lt hk) (a i _ (by omega) (by omega)) c'
theorem Zp1 {d:Nat} (hk:k<p.size) (hd:d≤k) (j:Nat):at' (bubble p k d) j=if j=k-d then at' p k else if k-d<j∧j≤k then at' p (j-1) else at' p j:=by
 have e:=getElem?_bubble hk d hd j
 by_cases h1:j=k-d
 · rw [if_pos h1] at e ⊢;exact Zcy e
 · rw [if_neg h1] at e ⊢
   by_cases h2:k-d<j∧j≤k
   · rw [if_pos h2] at e ⊢;exact Zcy e
   · rw [if_neg h2] at e ⊢;exact Zcy e
theorem Zlh (o:Ord n f) {P:Array Nat→Prop} (q:∀ p,Pm n p→Asc f p n→P p):∀ (u:Nat) (p:Array Nat) (k:Nat),k+u=n→Pm n p→Asc f p k→kok n f P (kas_bin u p k)
 | 0,p,k,e,h,a=>q p h (by rw [← e];exact a)
 | u+1,p,k,e,h,a=>by
   have hk:k<n:=by omega
   have hs:=h.size;unfold kas_bin;refine Za5 _ (Zdp o h hk a (fun l lk b1 b2=>?_) k 0 k (n42_ _) (n7_ _) (by omega) (fun i hi=>by omega) (fun i h1 h2=>by omega));refine Zlh o q u _ (k+1) (by omega) (h.perm (bubble_perm _ _ _)) fun i j hij hj=>?_;rw [Zp1 (by omega) (by omega) i,Zp1 (by omega) (by omega) j];have el:k-(k-l)=l:=by omega
   rw [el]
   by_cases i1:i=l
   · rw [if_pos i1,if_neg (by omega),if_pos (by omega)];exact b2 (j-1) (by omega) (by omega)
   rw [if_neg i1]
   by_cases i2:l<i∧i≤k
   · rw [if_pos i2,if_neg (by omega),if_pos (by omega)];exact a (i-1) (j-1) (by omega) (by omega)
   rw [if_neg i2]
   by_cases j1:j=l
   · rw [if_pos j1];exact b1 i (by omega)
   rw [if_neg j1]
   by_cases j2:l<j∧j≤k
   · rw [if_pos j2]
     by_cases e3:i=j-1
     · omega
     · exact a i (j-1) (by omega) (by omega)
   · rw [if_neg j2];exact a i j hij (by omega)
theorem Zgb (o:Ord n f) (h2:2≤n):kin n f (kas_sort n)=true∧(krun f (kas_sort n)).toList.Perm (List.range n)∧(krun f (kas_sort n)).toList.Pairwise (fun i j=>f i j=true):=by
 have fin:∀ p:Array Nat,Pm n p→Asc f p n→p.toList.Perm (List.range n)∧p.toList.Pairwise (fun i j=>f i j=true):=fun p h a=>by
  refine ⟨h,n77_.mpr fun i j hi hj hij=>?_⟩;have hs:=h.size;have hj':j<p.size:=by simpa using hj
  have:=a i j hij (by omega)
  simp only [at',Array.getD_eq_getD_getElem?] at this;rw [Array.getElem?_eq_getElem (show i<p.size by omega),Array.getElem?_eq_getElem hj'] at this
  simpa using this
 refine Zm5 (P:=fun p:Array Nat=>p.toList.Perm (List.range n)∧p.toList.Pairwise (fun i j=>f i j=true)) (kas_sort n) ?_;unfold kas_sort;have h0:Pm n (List.toArray (List.range n)):=by unfold Pm;simp
 refine Za5 _ (Zmh o h0 h2 fun m p' m1 m2 h a=>?_)
 by_cases g:m<n
 · rw [if_pos g];refine Zlh o fin _ p' _ (by simp only [];omega) h ?_;rw [show max (m,p').1 1=m by simp only [];omega];exact a
 · rw [if_neg g]
   have:m=n:=by omega
   subst this;exact fin p' h a
end
end L2
namespace L2
open PySem PySem.Spec PyProof.Rows PySem.W
variable {b l:Addr} {h:Heap} {ns:List Int} {m:Nat}
section
variable {prog:Program} {w:World} {A:Around} {E:Value→Shared→Prop} {s:Shared}
theorem Zb1 {its its2:Array Value} {ms:List Int} (hl:IsTup s.heap l its) (hb:IsTup s.heap b its2) (hi:IntsAre its.toList ns) (hj:IntsAre its2.toList ms) (hu:A.units<cLine):SeqAt.EqAt A s (.ref l) (.ref b) (decide (ns=ms)):=by
 by_cases e:l=b
 · subst e;obtain ⟨o,e1,_,n,d⟩:=hl;obtain ⟨o2,e2,_,n2,d2⟩:=hb;rw [e1] at e2;cases e2
   rw [d] at d2;cases d2
   rw [n24_ (hi.nums.symm.trans hj.nums)];exact SeqAt.EqAt.same _
 · have a1:=IntsAre.length hi;have a2:=IntsAre.length hj;rw [Array.length_toList] at a1 a2;have h:=SeqAt.RcAt.tuples (A:=A) (s:=s) (e:=fun j=>decide (ns.getD j default=ms.getD j default)) hl hb hu fun j z1 z2=>?_
   · rw [a1,a2,Zh5] at h;exact SeqAt.EqAt.of_refs e h
   · have key:∀ {vs:List Value} {ns:List Int},IntsAre vs ns→∀ j (h:j<vs.length),∃ t,vs[j]=.int (ns.getD j default) t:=by
      intro vs ns h
      induction h with
      | nil=>intro j h;simp at h
      | cons n t r ih =>
        intro j h;cases j with
        | zero=>exact ⟨t,rfl⟩
        | succ j=>obtain ⟨t',e⟩:=ih j (by simpa using h);exact ⟨t',by simpa using e⟩
     obtain ⟨t1,e1⟩:=key hi j (by simpa using z1);obtain ⟨t2,e2⟩:=key hj j (by simpa using z2);rw [Array.getElem_toList] at e1 e2;rw [e1,e2,show decide (ns.getD j default=ms.getD j default)=(ns.getD j default == ms.getD j default) by rw [n56_];simp];exact SeqAt.EqAt.int_int _ _ _ _
end
def lex2 (a b:List Int×List Int):Bool:=if a.1=b.1 then HT.lexLt a.2 b.2 else HT.lexLt a.1 b.1
abbrev Zso (kl:List (List Int×List Int)) (i j:Nat):Bool:=lex2 (kl.getD i ([],[])) (kl.getD j ([],[]))
theorem Zqw {a b c:List Int×List Int} (h1:a.1.length=b.1.length) (h2:b.1.length=c.1.length) (k1:a.2.length=b.2.length) (k2:b.2.length=c.2.length) (x:lex2 a b=true) (y:lex2 b c=true):lex2 a c=true:=by
 unfold lex2 at *
 by_cases e1:a.1=b.1
 · rw [if_pos e1] at x
   by_cases e2:b.1=c.1
   · rw [if_pos e2] at y;rw [if_pos (e1.trans e2)];exact Zc5 _ _ _ k1 k2 x y
   · rw [if_neg e2] at y;rw [if_neg (by rw [e1];exact e2),e1];exact y
 · rw [if_neg e1] at x
   by_cases e2:b.1=c.1
   · rw [if_neg (by rw [← e2];exact e1),← e2];exact x
   · rw [if_neg e2] at y
     have:=Zc5 _ _ _ h1 h2 x y
     rw [if_neg ?_]
     · exact this
     · intro z;rw [z,Zab] at this;cases this
theorem Zo8 (a:List Int×List Int):lex2 a a=false:=by unfold lex2;rw [if_pos rfl];exact Zab _
theorem Zok {a b:List Int×List Int} (h1:a.1.length=b.1.length) (k1:a.2.length=b.2.length) (ne:a≠b):lex2 b a = !lex2 a b:=by
 unfold lex2
 by_cases e:a.1=b.1
 · rw [if_pos e,if_pos e.symm];exact Zda _ _ k1 fun z=>ne (Prod.ext e z)
 · rw [if_neg e,if_neg (Ne.symm e)];exact Zda _ _ h1 e
theorem Zo3 {kl:List (List Int×List Int)} {m':Nat} (nd:kl.Nodup) (hm:∀ k∈kl,k.1.length=m∧k.2.length=m'):Ord kl.length (Zso kl):=by
 have e:∀ i (h:i<kl.length),kl.getD i ([],[])=kl[i]:=fun i h=>by simp [n4_,h]
 have l:∀ i (h:i<kl.length),kl[i].1.length=m∧kl[i].2.length=m':=fun i h=>hm _ (n44_ h);refine ⟨fun i _=>Zo8 _,fun i j hi hj ne=>?_,fun i j k hi hj hk h1 h2=>?_⟩
 · show lex2 _ _ = !lex2 _ _
   rw [e i hi,e j hj];exact Zok (by rw [(l i hi).1,(l j hj).1]) (by rw [(l i hi).2,(l j hj).2]) fun z=>ne ((n66_ nd).mp z)
 · simp only [Zso] at h1 h2 ⊢;rw [e i hi,e j hj] at h1;rw [e j hj,e k hk] at h2;rw [e i hi,e k hk];exact Zqw (by rw [(l i hi).1,(l j hj).1]) (by rw [(l j hj).1,(l k hk).1]) (by rw [(l i hi).2,(l j hj).2]) (by rw [(l j hj).2,(l k hk).2]) h1 h2
def IsTn (K:PySem.W.Frag) (H:Hp) (v:V) (x:List Int×List Int):Prop:=∃ t a b,v=.ref t∧SqT K H t [.ref a,.ref b]∧SqT K H a (x.1.map V.int)∧SqT K H b (x.2.map V.int)
section
variable {X:Cx}
theorem Zem:∀ {vs:List Value},(∀ v∈vs,∃ b o its n c o2,v=Value.ref b∧h.get? b=some o∧o.cls=.type "tuple" ∧ o.data=.seq its n∧its[0]? = some (.ref c)∧h.get? c=some o2∧o2.cls=.type "tuple")→∃ fs:List Value,KatTups h vs fs∧fs.length=vs.length∧∀ v∈fs,∃ c o2,v=Value.ref c∧h.get? c=some o2∧o2.cls=.type "tuple"
 | [],_=>⟨[],.nil,rfl,fun v hv=>by simp at hv⟩
 | v :: vs,hh=>by
   obtain ⟨fs,h1,h2,h3⟩:=Zem (vs:=vs) fun u hu=>hh u (n17_ _ hu);obtain ⟨b,o,its,n,c,o2,rfl,g,cl,d,e,g2,c2⟩:=hh v (by simp);refine ⟨_ :: fs,.cons g cl d e h1,by rw [n15_,n15_,h2],fun u hu=>?_⟩
   rcases n12_.mp hu with rfl|hu
   · exact ⟨_,_,rfl,g2,c2⟩
   · exact h3 u hu
theorem Zcj (hu:X.A.units+3<cLine):Xn X (.builtin "sorted") (fun xs H Q=>∃ (p:Addr) (vs:List V) (kl:List (List Int×List Int)) (m m':Nat),xs=[.ref p]∧SqL X.K H p vs∧Al (IsTn X.K H) vs kl∧kl.Nodup∧kl.length<64∧(∀ k∈kl,k.1.length=m∧k.2.length=m') ∧
 ∀ (l:Addr) (q:List Nat),H l=none→l≠sysModules→q.Perm (List.range kl.length)→(q.map fun i=>kl.getD i ([],[])).Pairwise (fun a b=>lex2 a b=true)→Q (.ref l) (upd H l (.lst (q.map fun i=>vs.getD i .non)))):=by
 intro pins s σ H xs us Q I r h;obtain ⟨p,vs,kl,m,m',rfl,hq,al,nd,h4,hm,q⟩:=h;have hl:=al.1;cases r with
 | cons rx r =>
   cases r
   cases (show _=Value.ref p from rx)
   obtain ⟨its,rv,pl,hz⟩:=I.list hq;have hlen:=rv.length;have o:=Zo3 nd hm
   have tup:∀ i,i<kl.length→∃ t a b,its.getD i Value.none=.ref t∧IsTup s.heap t #[.ref a,.ref b]∧(∃ ia,IsTup s.heap a ia∧IntsAre ia.toList (kl.getD i ([],[])).1)∧(∃ ib,IsTup s.heap b ib∧IntsAre ib.toList (kl.getD i ([],[])).2):=fun i hi=>by
    have hv:i<vs.length:=by omega
    obtain ⟨x,ex,t,a,b,ev,ht,ha,hb⟩:=al.get (n1_ hv);obtain ⟨u,eu,ru⟩:=rv.get (n1_ hv);rw [ev] at ru;cases ru
    obtain ⟨jt,rj,pt,_⟩:=I.tuple ht;obtain ⟨ja,ra,pa,_⟩:=I.tuple ha;obtain ⟨jb,rb,pb,_⟩:=I.tuple hb;cases rj with
    | cons r1 rj=>cases rj with
      | cons r2 rj =>
        cases rj
        cases r1
        cases r2
        have ek:kl.getD i ([],[])=x:=by simp [n4_,ex]
        rw [ek];exact ⟨t,a,b,by simp [n4_,eu],pt,⟨ja.toArray,pa,by simpa using Yi ra⟩,⟨jb.toArray,pb,by simpa using Yi rb⟩⟩
   have up:∀ {h1:Heap} {a:Addr} {it:Array Value},(∀ b u,s.heap.get? b=some u→h1.get? b=some u)→IsTup s.heap a it→IsTup h1 a it:=fun k1 ⟨ob,e,c⟩=>⟨ob,k1 _ _ e,c⟩;refine Zgw (fun q=>q.Perm (List.range kl.length)∧(q.map fun i=>kl.getD i ([],[])).Pairwise (fun a b=>lex2 a b=true)) (fun h2=>?_) pl.isList (by omega) (fun h2 h1 k1=>?_) fun p' gp=>?_
   · have:its.length=kl.length:=by omega
     rw [this];refine ⟨.refl _,?_⟩
     have:kl.length=0∨kl.length=1:=by omega
     rcases this with e|e<;>rw [e]
     · exact .nil
     · exact .cons (by simp) .nil
   · have en:its.length=kl.length:=by omega
     obtain ⟨fs,f1,f2,f3⟩:=Zem (h:=h1) (vs:=its) fun v hv=>by
      obtain ⟨i,hi,e⟩:=n37_ hv;obtain ⟨t,a,b,e1,⟨ot,g1,c1,n1,d1⟩,⟨ia,⟨oa,ga,ca,_⟩,_⟩,_⟩:=tup i (by omega);have ev:its.getD i Value.none=v:=by rw [n4_,n1_ hi];exact e
      exact ⟨t,ot,_,n1,a,oa,ev.symm.trans e1,k1 _ _ g1,c1,d1,rfl,k1 _ _ ga,ca⟩
     refine kat_kind (T:=.type "tuple") f1 (by omega) (fun v hv=>?_) rfl ⟨rfl,?_⟩
     · obtain ⟨c,o2,rfl,g,cl⟩:=f3 v hv;rw [← cl];exact (Looks.ld g).andThen .now
     · obtain ⟨r1,r2,r3⟩:=Zgb o (by omega);rw [en];refine Zhv (n:=kl.length) (f:=Zso kl) (fun i j C hi hj hC=>?_) _ r1 ⟨rfl,r2,List.pairwise_map.mpr r3⟩;obtain ⟨t,a,b,e1,p1,⟨ia,pa,na⟩,⟨ib,pb,nb⟩⟩:=tup i hi;obtain ⟨t',a',b',e1',p1',⟨ia',pa',na'⟩,⟨ib',pb',nb'⟩⟩:=tup j hj;replace p1:=up k1 p1;replace p1':=up k1 p1';replace pa:=up k1 pa;replace pb:=up k1 pb;replace pa':=up k1 pa';replace pb':=up k1 pb';unfold kas_ask;rw [e1,e1'];obtain ⟨ot,g1,_,n1,d1⟩:=p1;obtain ⟨ot',g1',_,n1',d1'⟩:=p1';refine kat_lt g1 d1 g1' d1' ?_;have hu2:X.A.in1.in1.units<cLine:=by rw [Around.in1_units,Around.in1_units];omega
       have hC':C (if (kl.getD i ([],[])).1=(kl.getD j ([],[])).1 then HT.lexLt (kl.getD i ([],[])).2 (kl.getD j ([],[])).2 else HT.lexLt (kl.getD i ([],[])).1 (kl.getD j ([],[])).1) _:=hC;generalize kl.getD i ([],[])=x at hC' na nb;generalize kl.getD j ([],[])=y at hC' na' nb';refine kat_cons (Zb1 (s:={ s with heap:=h1 }) pa pa' na na' hu2 _ _ _ _ ?_)
       by_cases e:x.1=y.1
       · rw [if_pos e] at hC';rw [n24_ e];refine kat_yes (kat_cons (Zb1 (s:={ s with heap:=h1 }) pb pb' nb nb' hu2 _ _ _ _ ?_))
         by_cases e2:x.2=y.2
         · rw [e2,Zab] at hC';rw [n24_ e2];exact kat_yes (kat_nil hC')
         · rw [n25_ e2];exact kat_no (kat_one _ _ (HT.lt_tupInts (s:={ s with heap:=h1 }) pb pb' nb nb' hu2 hC'))
       · rw [if_neg e] at hC';rw [n25_ e];exact kat_no (kat_one _ _ (HT.lt_tupInts (s:={ s with heap:=h1 }) pa pa' na na' hu2 hC'))
   · obtain ⟨e,he⟩:=sortedAll_at s.heap its (p'.map fun i=>its.getD i Value.none).toArray;have fr:H (s.z+1)=none:=I.hok.fresh (Nat.le_succ _);have lt:∀ i∈p',i<vs.length:=fun i hi=>by rw [hl];exact n34_.mp (gp.1.mem_iff.mp hi)
     refine ⟨.ref (s.z+1),_,I.laid (o:=.lst (p'.map fun i=>vs.getD i .non)) (t':=s.toks) (fun b u e=>sortedAll_old e) (Nat.le_succ _) ⟨?_,p'.map fun i=>its.getD i Value.none,e,Zfi rv p' lt,he⟩,rfl,q _ p' fr (n59_ (n68_ I.big)) gp.1 gp.2⟩;rw [n5_,gp.1.length_eq,n73_,sizeLine_eq];omega
theorem Xl:Xn X (.builtin "sorted") (fun xs H Q=>∃ (p:Addr) (vs:List V) (kl:List (List Int)) (m:Nat),xs=[.ref p]∧SqL X.K H p vs∧vs.length=kl.length∧(∀ (i:Nat) (v:V),vs[i]? = some v→∃ (b:Addr) (k:List Int),v=.ref b∧kl[i]? = some k∧SqT X.K H b (k.map V.int))∧kl.Nodup∧kl.length<64∧(∀ k∈kl,k.length=m)∧0<m ∧
 ∀ (l:Addr) (q:List Nat),H l=none→q.Perm (List.range kl.length)→(q.map fun i=>kl.getD i []).Pairwise (fun a b=>HT.lexLt a b=true)→Q (.ref l) (upd H l (.lst (q.map fun i=>vs.getD i .non)))):=by
 intro pins s σ H xs us Q I r h;obtain ⟨p,vs,kl,m,rfl,hq,hl,hk,nd,h4,hm,m0,q⟩:=h;cases r with
 | cons rx r =>
   cases r
   cases (show _=Value.ref p from rx)
   obtain ⟨its,rv,pl,hz⟩:=I.list hq;have hlen:=rv.length;have o:=Zrn nd hm
   have tup:∀ i,i<kl.length→∃ b ob jt n,its.getD i Value.none=.ref b∧s.heap.get? b=some ob∧ob.cls=.type "tuple" ∧ ob.data=.seq jt n∧IntsAre jt.toList (kl.getD i [])∧(kl.getD i []).length=m:=fun i hi=>by
    have hv:i<vs.length:=by omega
    obtain ⟨b,k,e1,e2,hb⟩:=hk i vs[i] (n1_ hv);obtain ⟨u,eu,ru⟩:=rv.get (n1_ hv);rw [e1] at ru;cases ru
    obtain ⟨jt,rj,⟨ob,g,c,n,d⟩,_⟩:=I.tuple hb;have ek:kl.getD i []=k:=by simp [n4_,e2]
    refine ⟨b,ob,jt.toArray,n,by simp [n4_,eu],g,c,d,by rw [ek];simpa using Yi rj,?_⟩;rw [ek];exact hm k (n10_ e2)
   refine Zgw (fun q=>q.Perm (List.range kl.length)∧(q.map fun i=>kl.getD i []).Pairwise (fun a b=>HT.lexLt a b=true)) (fun h2=>?_) pl.isList (by omega) (fun h2 h1 k1=>?_) fun p' gp=>?_
   · have:its.length=kl.length:=by omega
     rw [this];refine ⟨.refl _,?_⟩
     have:kl.length=0∨kl.length=1:=by omega
     rcases this with e|e<;>rw [e]
     · exact .nil
     · exact .cons (by simp) .nil
   · have en:its.length=kl.length:=by omega
     have keep:∀ i,i<kl.length→∃ b ob jt n,its.getD i Value.none=.ref b∧h1.get? b=some ob∧ob.cls=.type "tuple" ∧ ob.data=.seq jt n∧IntsAre jt.toList (kl.getD i [])∧(kl.getD i []).length=m:=fun i hi=>by
      obtain ⟨b,ob,jt,n,e1,e2,e3⟩:=tup i hi;exact ⟨b,ob,jt,n,e1,k1 b ob e2,e3⟩
     have prd:∀ (us:List Value) (ks:List (List Int)),us.length=ks.length→(∀ i,i<ks.length→∃ b ob jt n,us.getD i Value.none=.ref b∧h1.get? b=some ob∧ob.cls=.type "tuple" ∧ ob.data=.seq jt n∧IntsAre jt.toList (ks.getD i [])∧(ks.getD i []).length=m)→Paired (fun v k=>∃ b o its n,v=Value.ref b∧h1.get? b=some o∧o.cls=.type "tuple" ∧ o.data=.seq its n∧IntsAre its.toList k∧0<k.length) us ks:=by
      intro us
      induction us with
      | nil=>intro ks e _;cases ks with
        | nil=>exact .nil
        | cons _ _=>simp at e
      | cons u us ih =>
        intro ks e hh;cases ks with
        | nil=>simp at e
        | cons k ks =>
          refine .cons ?_ (ih ks (by simpa using e) fun i hi=>by simpa using hh (i+1) (by simpa using hi));obtain ⟨b,ob,jt,n,e1,e2,e3,e4,e5,e6⟩:=hh 0 (by simp);exact ⟨b,ob,jt,n,by simpa using e1,e2,e3,e4,by simpa using e5,(by have e7:k.length=m:=(by simpa using e6);omega)⟩
     obtain ⟨fs,f1,f2,f3⟩:=Zc3 (prd its kl en keep);refine kat_kind (T:=.type "int") f1 (by omega) (fun v hv=>?_) rfl ⟨rfl,?_⟩
     · obtain ⟨x,t,rfl⟩:=f3 v hv;exact Looks.of_pure rfl
     · obtain ⟨r1,r2,r3⟩:=Zgb o (by omega);rw [en];refine Zhv (n:=kl.length) (f:=lexF kl) (fun i j C hi hj hC=>?_) _ r1 ⟨rfl,r2,?_⟩
       · obtain ⟨b,ob,jt,n,e1,e2,e3,e4,e5,e6⟩:=keep i hi;obtain ⟨b',ob',jt',n',e1',e2',e3',e4',e5',e6'⟩:=keep j hj;unfold kas_ask;rw [e1,e1']
         have z:jt.size=jt'.size:=by
          have a1:=IntsAre.length e5;have a2:=IntsAre.length e5';rw [Array.length_toList] at a1 a2;omega
         refine kat_lt e2 e4 e2' e4' ?_;rw [n25_ (by omega)];exact Zkc 0 e5 e5' (by rw [e6,e6']) hC
       · exact List.pairwise_map.mpr r3
   · obtain ⟨e,he⟩:=sortedAll_at s.heap its (p'.map fun i=>its.getD i Value.none).toArray;have fr:H (s.z+1)=none:=I.hok.fresh (Nat.le_succ _);have lt:∀ i∈p',i<vs.length:=fun i hi=>by rw [hl];exact n34_.mp (gp.1.mem_iff.mp hi)
     refine ⟨.ref (s.z+1),_,I.laid (o:=.lst (p'.map fun i=>vs.getD i .non)) (t':=s.toks) (fun b u e=>sortedAll_old e) (Nat.le_succ _) ⟨?_,p'.map fun i=>its.getD i Value.none,e,Zfi rv p' lt,he⟩,rfl,q _ p' fr gp.1 gp.2⟩;rw [n5_,gp.1.length_eq,n73_,sizeLine_eq];omega
end
end L2
namespace L2
open PySem PySem.Spec PyProof.Rows PySem.W
variable {S:Addr} {s:Shared} {Q:Value→Shared→Prop}
section
variable {prog:Program} {w:World} {A:Around} {R:Result→Shared→Prop} {I:Addr} {fp wr:List Addr} {n:Nat} {P:Nat→Value→Prop} {St:Nat→Heap→Prop}
abbrev Lft (wr:List Addr) (S:Addr) (h h':Heap):Prop:=∀ b o,b∉wr→b≠S→h.get? b=some o→h'.get? b=some o
structure MinW (prog:Program) (w:World) (A:Around) (I:Addr) (fp wr:List Addr) (n:Nat) (P:Nat→Value→Prop) (St:Nat→Heap→Prop) (S:Addr) (G:Heap→Prop) (bt:Nat→Nat→Bool):Prop where
 W:Walks prog w A.in1 I fp wr n P St
 hSf:S∉fp
 hG:∀ h h',G h→Lft wr S h h'→G h'
 cmp:∀ i j vi vj (s:Shared) (Q:Value→Shared→Prop) (E:Value→Shared→Prop),P i vi→P j vj→G s.heap→Q (.bool (bt i j)) s→wpAny (model prog w) A.in1 (richCompare .Lt vi vj) Q E s
theorem Zjl:(toString "min" ++ toString ".loop" : String) = "min.loop" := by decide
theorem Zuc {G:Heap→Prop} {bt:Nat→Nat→Bool} (M:MinW prog w A I fp wr n P St S G bt):∀ (k j:Nat) (s:Shared) (vb:Value) (c:Nat),n-(j+1)=k→j+1≤n→St (j+1) s.heap→G s.heap→P (argBest bt j) vb →
 s.heap.get? S=some { cls:=.type "list",dict:=none,data:=.seq #[vb,vb] c,slots:=#[] } →
 (∀ v h' tk,P (argBest bt (n-1)) v→Lft wr S s.heap h'→R (.ok (.ret v)) { s with heap:=h',toks:=tk }) →
 codeAny (model prog w) A (.builtin "min.loop" ⟨[.ref I,.none,.ref S],[]⟩) R s:=by
 have W:=M.W;have hSw:S∉wr:=fun h=>M.hSf (W.sub _ h);intro k
 induction k with
 | zero =>
   intro j s vb c hk hj hst g hPb hS hR;have hin:j+1=n:=by omega
   refine codeAny_builtin F.entry_min_loop ?_;rw [Around.under_plainId F.plain_min_loop _];show wpAny _ A.in1 (seqItems? (.ref S) >>= _) _ _ s
   refine n0_ (wpAny_seqItems hS rfl ?_);show wpAny _ A.in1 (tryCatch (pyNext (.ref I)) _ >>= _) _ _ s
   refine n0_ (wpAny_tryCatch (W.done s _ _ (hin ▸ hst) fun h' tk hk'=>?_));have hS':=hk' S _ hSw hS;show wpAny _ A.in1 (updateSeq S (fun _=>#[]) >>= _) _ _ _
   refine n0_ ?_;refine wpAny_updateSeq hS' rfl (n0_ (wpAny_letGo (n3_ ?_)));exact hR vb _ tk (by rw [← hin];exact hPb) fun b o hbw hbS e=>(n41_ _ _ (Ne.symm hbS)).trans (hk' b o hbw e)
 | succ k ih =>
   intro j s vb c hk hj hst g hPb hS hR;have hlt:j+1<n:=by omega
   refine codeAny_builtin F.entry_min_loop ?_;rw [Around.under_plainId F.plain_min_loop _];show wpAny _ A.in1 (seqItems? (.ref S) >>= _) _ _ s
   refine n0_ (wpAny_seqItems hS rfl ?_);show wpAny _ A.in1 (tryCatch (pyNext (.ref I)) _ >>= _) _ _ s
   refine n0_ (wpAny_tryCatch (W.item (j+1) s _ _ hlt hst fun v h' tk hP hst' hk'=>?_));have hS':=hk' S _ hSw hS;have g':G h':=M.hG _ _ g fun b o hbw _ e=>hk' b o hbw e;show wpAny _ A.in1 (tryCatch (holding [v,v] (richCompare .Lt v vb >>= _)) _ >>= _) _ _ _
   refine n0_ (wpAny_tryCatch (n31_ (n0_ (M.cmp (j+1) (argBest bt j) v vb _ _ _ hP hPb g' ?_))));refine n0_ (n31_ (wpAny_truthy_bool ?_));refine n0_ (wpAny_letGo (n3_ ?_));cases hb:bt (j+1) (argBest bt j) with
   | true =>
     simp only [if_true];refine n0_ ?_;refine wpAny_updateSeq hS' rfl (n0_ (wpAny_letGo ?_));rw [Zjl];refine n3_ ⟨plainId_quiet F.plain_min_loop _,ih (j+1) _ v _ (by omega) hlt (W.frame _ _ _ hst' fun b hbf o e=>?_) (M.hG _ _ g' fun b o _ hbS e=>(n41_ _ _ (Ne.symm hbS)).trans e) (by simp only [argBest,hb,if_true];exact hP) (n50_ _ hS' rfl) fun v' h'' tk'' hP' hk''=>?_⟩
     · exact (n41_ _ _ (fun h:S=b=>M.hSf (by rw [h];exact hbf))).trans e
     · exact hR v' h'' tk'' hP' fun b o hbw hbS e=>hk'' b o hbw hbS ((n41_ _ _ (Ne.symm hbS)).trans (hk' b o hbw e))
   | false =>
     simp only [n21_,if_false];refine n0_ (wpAny_letGo ?_);rw [Zjl];refine n3_ ⟨plainId_quiet F.plain_min_loop _,ih (j+1) _ vb c (by omega) hlt hst' g' (by simp only [argBest,hb,n21_,if_false];exact hPb) hS' fun v' h'' tk'' hP' hk''=>?_⟩;exact hR v' h'' tk'' hP' fun b o hbw hbS e=>hk'' b o hbw hbS (hk' b o hbw e)
theorem Zlz {G:Heap→Prop} {bt:Nat→Nat→Bool} (M:MinW prog w A I fp wr n P St S G bt) (hn:0<n) {c:Nat} (hst:St 0 s.heap) (g:G s.heap)
 (hS:s.heap.get? S=some { cls:=.type "list",dict:=none,data:=.seq #[] c,slots:=#[] })
 (hR:∀ v h' tk,P (argBest bt (n-1)) v→Lft wr S s.heap h'→R (.ok (.ret v)) { s with heap:=h',toks:=tk }) :
 codeAny (model prog w) A (.builtin "min.loop" ⟨[.ref I,.none,.ref S],[]⟩) R s:=by
 have W:=M.W;have hSw:S∉wr:=fun h=>M.hSf (W.sub _ h);refine codeAny_builtin F.entry_min_loop ?_;rw [Around.under_plainId F.plain_min_loop _];show wpAny _ A.in1 (seqItems? (.ref S) >>= _) _ _ s
 refine n0_ (wpAny_seqItems hS rfl ?_);show wpAny _ A.in1 (tryCatch (pyNext (.ref I)) _ >>= _) _ _ s
 refine n0_ (wpAny_tryCatch (W.item 0 s _ _ hn hst fun v h' tk hP hst' hk'=>?_));have hS':=hk' S _ hSw hS;have g':G h':=M.hG _ _ g fun b o hbw _ e=>hk' b o hbw e;show wpAny _ A.in1 (updateSeq S (fun _=>#[v,v]) >>= _) _ _ _
 refine n0_ ?_;refine wpAny_updateSeq hS' rfl ?_;rw [Zjl];refine n3_ ⟨plainId_quiet F.plain_min_loop _,Zuc M _ 0 _ v _ rfl hn (W.frame _ _ _ hst' fun b hbf o e=>?_) (M.hG _ _ g' fun b o _ hbS e=>(n41_ _ _ (Ne.symm hbS)).trans e) hP (n50_ _ hS' rfl) fun v' h'' tk'' hP' hk''=>?_⟩
 · exact (n41_ _ _ (fun h:S=b=>M.hSf (by rw [h];exact hbf))).trans e
 · exact hR v' h'' tk'' hP' fun b o hbw hbS e=>hk'' b o hbw hbS ((n41_ _ _ (Ne.symm hbS)).trans (hk' b o hbw e))
end
section
variable {prog:Program} {w:World} {A:Around} {E:Value→Shared→Prop} {s:Shared}
theorem Zj9 {x:Value}
 (h:wpAny (model prog w) A.in1 (pyIter x) (fun it s₂=>∃ I fp wr n P St G bt,it=.ref I∧MinW prog w A I fp wr n P St s₂.z G bt∧St 0 s₂.heap∧G s₂.heap∧0<n ∧
   ∀ v h' tk,P (argBest bt (n-1)) v→(∀ b o,b∉wr→s₂.heap.get? b=some o→h'.get? b=some o)→Q v { s₂ with heap:=h',toks:=tk }) E s) :
 wpAny (model prog w) A (call (.builtin "min") [x]) Q E s:=by
 refine call_function_tree F.kind_min F.plain_min F.entry_min (F.args_min1 _) ?_;show wpAny _ A.in1 (Builtin.Builtins.bindParams "min" ["key","default"] 0 ⟨[],[]⟩ >>= _) _ _ s
 refine n0_ (wpAny_of_eq (show Builtin.Builtins.bindParams "min" ["key","default"] 0 ⟨[],[]⟩=pure [none,none] from rfl) ?_);refine n0_ (n3_ ?_);refine n0_ (n45_ h (fun it s₂ h₂=>?_) fun _ _ e=>e);obtain ⟨I,fp,wr,n,P,St,G,bt,rfl,M,hst,g,hn,hQ⟩:=h₂;refine n0_ (wpAny_newObj_type ?_);rw [Zjl];refine n3_ ⟨plainId_quiet F.plain_min_loop _,Zlz M hn (M.W.frame _ _ _ hst fun b _ o e=>n2_ _ e) (M.hG _ _ g fun b o _ _ e=>n2_ _ e) (n8_ _ rfl) fun v h' tk hP hk=>?_⟩;exact hQ v h' tk hP fun b o hbw e=>hk b o hbw (n22_ (n11_ e)) (n2_ _ e)
def Xf (kl:List (List Int)):Nat:=argBest (fun i j=>HT.lexLt (kl.getD i []) (kl.getD j [])) (kl.length-1)
theorem Za7 (bt:Nat→Nat→Bool):∀ n,argBest bt n≤n
 | 0=>n7_ _
 | n+1=>by unfold argBest;split;exact n7_ _;exact Nat.le_succ_of_le (Za7 bt n)
end
section
variable {X:Cx}
theorem Zgh (hc:X.calm=true) (hu:X.A.units+2<cLine):Xn X (.builtin "min") (fun xs H Q=>∃ (p:Addr) (vs:List V) (kl:List (List Int)) ,xs=[.ref p]∧(SqL X.K H p vs∨SqT X.K H p vs)∧Al (fun v k=>∃ b,v=.ref b∧SqT X.K H b (k.map V.int)) vs kl∧0<kl.length∧Q (vs.getD (Xf kl) .non) H):=by
 intro pins s σ H xs us Q I r h;obtain ⟨p,vs,kl,rfl,hq,al,h0,q⟩:=h;have hl:=al.1;obtain ⟨u,rfl,ru⟩:=Ziy r;cases (show _=Value.ref p from ru)
 have hlt:Xf kl<vs.length:=by have:=Za7 (fun i j=>HT.lexLt (kl.getD i []) (kl.getD j [])) (kl.length-1);unfold Xf;omega
 have main:∀ (its:List Value) (fp wr:List Addr) (St:Nat→Heap→Prop) (it:Addr) (s2:Shared),Vals vs its→(∀ b o,s.heap.get? b=some o→s2.heap.get? b=some o)→s2={ s with heap:=s2.heap }→(∀ b∈fp,b<s2.z)→s.z≤s2.z→wr=[it]→s.z≤it→Walks X.prog X.w X.A.in1 it fp wr its.toArray.size (fun i v=>its.toArray[i]? = some v) St→St 0 s2.heap →
  ∃ I fp wr n P St G bt,Value.ref it=.ref I∧MinW X.prog X.w X.A I fp wr n P St s2.z G bt∧St 0 s2.heap∧G s2.heap∧0<n ∧
  ∀ v h' tk,P (argBest bt (n-1)) v→(∀ b o,b∉wr→s2.heap.get? b=some o→h'.get? b=some o)→EP X pins σ Q v { s2 with heap:=h',toks:=tk }:=by
  intro its fp wr St it s2 rv k2 e2 hfp hs2 hwr hit W st;have hlen:=rv.length;refine ⟨it,fp,wr,_,_,St,fun h=>∀ (i:Nat) (v:Value),its[i]? = some v→∃ b jt,v=.ref b∧IsTup h b jt∧IntsAre jt.toList (kl.getD i [])∧b<s.z,fun i j=>HT.lexLt (kl.getD i []) (kl.getD j []),rfl,⟨W,fun hm=>n78_ _ (hfp _ hm),fun h h' g k i v e=>?_,fun i j vi vj s3 Q3 E3 hi hj g q3=>?_⟩,st,fun i v e=>?_,by rw [n9_];omega,fun v h' tk hv k3=>?_⟩
  · obtain ⟨b,jt,rfl,⟨o,e1,e3⟩,hI,lt⟩:=g i v e;refine ⟨b,jt,rfl,⟨o,k b o ?_ ?_ e1,e3⟩,hI,lt⟩
    · rw [hwr];simpa using n22_ (n14_ lt hit)
    · exact n22_ (n14_ lt hs2)
  · obtain ⟨b,jt,rfl,p1,i1,_⟩:=g i vi (by simpa using hi);obtain ⟨b',jt',rfl,p2,i2,_⟩:=g j vj (by simpa using hj);exact HT.lt_tupInts (s:=s3) p1 p2 i1 i2 (by rw [Around.in1_units];omega) q3
  · have hi:i<its.length:=(n19_.mp e).1;obtain ⟨x,ex,b,ev,hb⟩:=al.get (n1_ (show i<vs.length by omega));obtain ⟨u,eu,ru⟩:=rv.get (n1_ (show i<vs.length by omega));rw [ev] at ru;cases ru
    rw [e] at eu;cases eu
    obtain ⟨jt,rj,⟨o,g1,c1⟩,_⟩:=I.tuple hb;have ek:kl.getD i []=x:=by simp [n4_,ex]
    exact ⟨b,jt.toArray,rfl,⟨o,k2 _ _ g1,c1⟩,by rw [ek];simpa using Yi rj,n11_ g1⟩
  · rw [n9_,← hlen,hl] at hv;have hv':its[Xf kl]? = some v:=by rw [← List.getElem?_toArray];exact hv
    obtain ⟨u,eu,ru⟩:=rv.get (n1_ hlt);rw [hv'] at eu;cases eu
    rw [e2];refine ⟨vs[Xf kl],H,I.kept (t':=tk) fun b o e=>k3 b o ?_ (k2 b o e),ru,?_⟩
    · rw [hwr]
      simpa using n22_ (n14_ (n11_ e) hit)
    · rw [n4_,n1_ hlt] at q;exact q
 have hh:X.A.in1.handled=none:=I.ok.hd hc;have big:∀ (o:Obj),(s.heap.push o).objs.size=s.z+1:=fun o=>n54_ ..
 rcases hq with hq|hq
 · obtain ⟨its,rv,pl,_⟩:=I.list hq;have lt:p<s.z:=let ⟨o,_,e,_⟩:=pl;n11_ e;refine Zj9 (wpAny_pyIter_list pl.isList ?_)
   exact main its [s.z,p] [s.z] _ s.z { s with heap:=s.heap.push { cls:=.type "list_iterator",data:=.fields #[.ref p,.int 0 0] } } rv (fun b o e=>n2_ _ e) rfl (fun b hb=>by
    show b<(s.heap.push _).objs.size
    rw [big]
    rcases n12_.mp hb with rfl|hb
    · exact Nat.lt_succ_self _
    · rw [n39_.mp hb];exact n68_ lt) (by show _≤(s.heap.push _).objs.size;rw [big];exact Nat.le_succ _) rfl (n7_ _) (Walks.list hh _ p (n22_ lt) its.toArray) ⟨⟨_,n8_ _ rfl,rfl,rfl⟩,pl.isList.push _⟩
 · obtain ⟨its,rv,pl,_⟩:=I.tuple hq;have pl':s.heap.IsTuple p its.toArray:=pl;have lt:p<s.z:=let ⟨o,e,_⟩:=pl;n11_ e;refine Zj9 (wpAny_pyIter_tuple pl' ?_)
   exact main its [s.z,p] [s.z] _ s.z { s with heap:=s.heap.push { cls:=.type "tuple_iterator",data:=.fields #[.ref p,.int 0 0] } } rv (fun b o e=>n2_ _ e) rfl (fun b hb=>by
    show b<(s.heap.push _).objs.size
    rw [big]
    rcases n12_.mp hb with rfl|hb
    · exact Nat.lt_succ_self _
    · rw [n39_.mp hb];exact n68_ lt) (by show _≤(s.heap.push _).objs.size;rw [big];exact Nat.le_succ _) rfl (n7_ _) (Walks.tuple hh _ p (n22_ lt) its.toArray) ⟨⟨_,n8_ _ rfl,rfl,rfl⟩,pl'.push _⟩
end
end L2
namespace L2
open PySem PySem.Spec PyProof.Rows PySem.W
variable {a:Addr} {k:Nat} {o:Obj}
section
variable {prog:Program} {w:World} {A:Around} {E:Value→Shared→Prop} {s:Shared}
theorem Zea:typeLookup (.type "list") "keys" = pure none:=am_miss_of_fast (by kernel_rfl)
theorem Zfl:typeLookup (.type "zip") "keys" = pure none:=am_miss_of_fast (by kernel_rfl)
theorem Zct:typeLookup (.type "zip") "__getattr__" = pure none:=am_miss_of_fast (by kernel_rfl)
theorem Zat:entryFor table "zip.__getattribute__" = some Builtin.«object.__getattribute__» :=
 entryFor_alias (id' := "object.__getattribute__") (by kernel_rfl) (by decide +kernel) (by decide +kernel) (by kernel_rfl)
theorem Zg3 {xs:Array Value} {Q:Option Value→Shared→Prop} (hx:s.heap.get? a=some o) (hc:o.cls=.type "list") (hdat:o.data=.seq xs k) (hd:o.dict=none) (hA:A.handled=none)
 (h:∀ h' tk,(∀ b o,s.heap.get? b=some o→h'.get? b=some o)→Q none { s with heap:=h',toks:=tk }):wpAny (model prog w) A (getAttr? (.ref a) "keys") Q E s:=by
 obtain ⟨c,dct,dat,sl⟩:=o;simp only at hc hdat hd;subst hc hdat hd;obtain ⟨hp,g,d,tk,os⟩:=s;have hT:∀ tk',(⟨hp,g,d,tk',os⟩:Shared).TypeIs (.ref a) "list" := fun _=>⟨_,hx,rfl⟩;have f1:=sub_AttributeError;have f3:=F.slot_list_getattribute.lookup;have f4:=F.slot_list_getattribute.bind (.ref a);have f5:=am_list_getattr_none;unfold getAttr? getAttrBy? getAttrBy
 repeat (any_goals (first|assumption|exact hT _|((with_reducible show wpAny _ _ (call (Value.builtin "list.__getattribute__") _ _) _ _ _);refine call_meets F.slot_list_getattribute (hT _) am_entry_list_getattribute (F.args_list_getattribute_2 _ _) (meets_getattribute_miss_list a xs k sl "keys" _ Zea (by decide +kernel) (by decide +kernel)) ⟨hx,hA,fun h' tk' e hx'=>?_⟩)|wp_step))
 obtain ⟨t',u',he⟩:=hx'.there;show wpAny _ _ (getattributeRaised _ _ _ _ _ _ _) _ _ _
 unfold getattributeRaised
 repeat (any_goals (first|assumption|wp_step))
 exact h _ _ hx'.keeps
theorem Zo2 (a:Addr) (xs:Array Value) (sl:Array (Option Value)) (u:Tok) :
 Meets (Builtin.«object.__getattribute__» ⟨[.ref a,.str "keys" u],[]⟩) (fun A R s=>s.heap.get? a=some { cls:=.type "zip",dict:=none,data:=.fields xs,slots:=sl }∧raisesAttr (.ref a) "keys" A R s) :=
 Meets.of_wp fun prog w A R s hs=>by
  obtain ⟨hp,g,d,tk,os⟩:=s;obtain ⟨hx,hs⟩:=hs;have hT:(⟨hp,g,d,tk,os⟩:Shared).TypeIs (.ref a) "zip" := ⟨_,hx,rfl⟩;have hmiss:=Zfl;have hname:(["__module__","__name__","__qualname__","__doc__","__annotations__"]:List Str).contains ("keys" : Str)=false:=by decide +kernel
  unfold Builtin.«object.__getattribute__»
  repeat (any_goals (first|assumption|wp_step))
  exact wpAny_raiseAttrError hs.1 hs.2 (attrMsg_fits (by decide +kernel) (by decide +kernel))
theorem Zh8 {xs:Array Value} {sl:Array (Option Value)} {Q:Option Value→Shared→Prop} (hx:s.heap.get? a=some { cls:=.type "zip",dict:=none,data:=.fields xs,slots:=sl }) (hA:A.handled=none)
 (h:∀ h' tk,(∀ b o,s.heap.get? b=some o→h'.get? b=some o)→Q none { s with heap:=h',toks:=tk }):wpAny (model prog w) A (getAttr? (.ref a) "keys") Q E s:=by
 obtain ⟨hp,g,d,tk,os⟩:=s;have hT:∀ tk',(⟨hp,g,d,tk',os⟩:Shared).TypeIs (.ref a) "zip" := fun _=>⟨_,hx,rfl⟩;have f1:=sub_AttributeError;have f3:=F.slot_zip_getattribute.lookup;have f4:=F.slot_zip_getattribute.bind (.ref a);have f5:=Zct;unfold getAttr? getAttrBy? getAttrBy
 repeat (any_goals (first|assumption|exact hT _|((with_reducible show wpAny _ _ (call (Value.builtin "zip.__getattribute__") _ _) _ _ _);refine call_meets F.slot_zip_getattribute (hT _) Zat (F.args_zip_getattribute_2 _ _) (Zo2 a xs sl _) ⟨hx,hA,fun h' tk' e hx'=>?_⟩)|wp_step))
 obtain ⟨t',u',he⟩:=hx'.there;show wpAny _ _ (getattributeRaised _ _ _ _ _ _ _) _ _ _
 unfold getattributeRaised
 repeat (any_goals (first|assumption|wp_step))
 exact h _ _ hx'.keeps
end
end L2
namespace L2
open PySem PySem.Spec PyProof.Rows PySem.W
theorem Xc:entryFor table "dict.update.loop" = some Builtin.«dict.update.loop»:=entryFor_of_tree (by kernel_rfl)
theorem Yc:plainId "dict.update.loop" = true:=by decide +kernel
variable {D a b it j t z:Addr} {A:Around} {ys:Array Value} {X:Cx} {H1:Hp} {pins:List (Addr×Obj)} {fp:List Addr} {m n:Nat} {R:Result→Shared→Prop} {σ:St} {c d:Value}
section
variable {prog:Program} {w:World} {A:Around} {E:Value→Shared→Prop} {s:Shared} {k l:SK}
theorem Zex {o i:Addr} {xs:Array Value} {x y:Value} {Q:Option Value→Shared→Prop} (D:ZP z t o i j a b)
 (hz:ZSt s.heap z t o) (ht:IsPair s.heap t (.ref i) (.ref j)) (ho:IsPair s.heap o c d)
 (hi:k.It s.heap i a m) (hj:l.It s.heap j b n) (ha:k.Is s.heap a xs) (hb:l.Is s.heap b ys) (hx:xs[m]? = some x) (hy:ys[n]? = some y)
 (q:∀ h1,ZSt h1 z t o→(∃ c d,IsPair h1 o c d)→k.It h1 i a (m+1)→l.It h1 j b (n+1)→IsPair h1 s.z x y→h1.objs.size=s.z+1 →
   (∀ e u,e≠z→e≠o→e≠i→e≠j→s.heap.get? e=some u→h1.get? e=some u)→Q (some (.ref s.z)) { s with heap:=h1 }) :
 wpAny (model prog w) A (pyNext (.ref z)) Q E s:=by
 have hT:s.TypeIs (.ref z) "zip" := let ⟨_,_,h,_⟩:=hz;⟨_,h,rfl⟩;unfold pyNext
 exact n0_ (wpAny_attempt (wpAny_callSpecial?_slot (name:=Str.ofString "__next__") hT F.slot_zip_next (wpAny_call_entry F.slot_zip_next hT F.entry_zip_next
  (Zf7 D hz ht ho hi hj ha hb hx hy fun h1 r1 r2 r3 r4 r5 r6 r7=>n3_ (q h1 r1 r2 r3 r4 r5 r6 r7)) (F.args_zip_next_1 _))))
theorem Zhn {o i:Addr} {xs:Array Value} {Q:Option Value→Shared→Prop} (hh:A.handled=none) (D:ZP z t o i j a b)
 (hz:ZSt s.heap z t o) (ht:IsPair s.heap t (.ref i) (.ref j)) (ho:IsPair s.heap o c d)
 (hi:k.It s.heap i a m) (hj:l.It s.heap j b n) (ha:k.Is s.heap a xs) (hb:l.Is s.heap b ys) (hx:xs[m]? = none∨ys[n]? = none)
 (q:∀ h1,(∀ e u,e≠z→e≠o→e≠i→e≠j→s.heap.get? e=some u→h1.get? e=some u)→Q none { s with heap:=h1 }) :
 wpAny (model prog w) A (pyNext (.ref z)) Q E s:=by
 have hT:s.TypeIs (.ref z) "zip" := let ⟨_,_,h,_⟩:=hz;⟨_,h,rfl⟩;unfold pyNext
 refine n0_ (wpAny_attempt (wpAny_callSpecial?_slot (name:=Str.ofString "__next__") hT F.slot_zip_next (wpAny_call_entry F.slot_zip_next hT F.entry_zip_next
  (Zjf hh D hz ht ho hi hj ha hb hx fun h1 e r1 ⟨u,g,cu⟩=>?_) (F.args_zip_next_1 _))))
 exact n0_ (wpAny_isInstance (T := "StopIteration") (b:=true) ⟨u,g,cu⟩ isSubtype_stop (n3_ (q _ r1)))
end
structure PIt (X:Cx) (pins:List (Addr×Obj)) (σ:St) (H1:Hp) (D it:Addr) (fp:List Addr) (st:Nat→Heap→Prop) (ps:List (List Key×V)):Prop where
 obj:∀ i h,st i h→∀ b∈fp,∃ o,h.get? b=some o∧∀ v,o.data≠.cell v
 keep:∀ i h h',st i h→(∀ b∈fp,∀ o,h.get? b=some o→h'.get? b=some o)→st i h'
 fpk:∀ b∈fp,FpOk X pins H1 b∧b≠D
 item:∀ (A:Around) (i:Nat) (s:Shared) (kvs:List (List Key×V)) (k:List Key) (y:V) (Q:Option Value→Shared→Prop) (E:Value→Shared→Prop),A.handled=none→ps[i]? = some (k,y)→Inv X pins σ (upd H1 D (.dT kvs)) s→st i s.heap →
  (∀ T b u s',IsTup s'.heap T #[.ref b,u]→H1 b=some (.tup (k.map kV))→RelV y u→Inv X pins σ (upd H1 D (.dT kvs)) s'→st (i+1) s'.heap→Q (some (.ref T)) s')→wpAny (model X.prog X.w) A (pyNext (.ref it)) Q E s
 done:∀ (A:Around) (s:Shared) (kvs:List (List Key×V)) (Q:Option Value→Shared→Prop) (E:Value→Shared→Prop),A.handled=none→Inv X pins σ (upd H1 D (.dT kvs)) s→st ps.length s.heap →
  (∀ s',Inv X pins σ (upd H1 D (.dT kvs)) s'→Q none s')→wpAny (model X.prog X.w) A (pyNext (.ref it)) Q E s
noncomputable def Zbw (kvs ps:List (List Key×V)):List (List Key×V):=ps.foldl (fun d p=>putK d p.1 p.2) kvs
theorem Zka {st:Nat→Heap→Prop} {ps:List (List Key×V)} (hu:A.units+1<cLine) (hh:A.handled=none) (hD:H1 D=none) (hz:ps.length≤1000) (P:PIt X pins σ H1 D it fp st ps) :
 ∀ (m i:Nat) (s:Shared) (kvs:List (List Key×V)),ps.length-i=m→i≤ps.length→Inv X pins σ (upd H1 D (.dT kvs)) s→st i s.heap→kvs.length≤i→(∀ s',Inv X pins σ (upd H1 D (.dT (Zbw kvs (ps.drop i)))) s'→R (.ok (.ret .none)) s') →
   codeAny (model X.prog X.w) A (.builtin "dict.update.loop" ⟨[.ref D,.ref it,rawInt i,.none],[]⟩) R s:=by
 intro m
 induction m with
 | zero =>
   intro i s kvs hm hi I st0 hk hR;have e:i=ps.length:=by omega
   subst e;refine codeAny_builtin Xc ?_;rw [Around.under_plainId Yc _];show wpAny _ A.in1 (pyNext (.ref it) >>= _) _ _ s
   refine n0_ (P.done A.in1 s kvs _ _ hh I st0 fun s' I'=>?_);show wpAny _ A.in1 (Builtin.Dict.addKeywords D [] >>= _) _ _ s'
   refine n0_ (n3_ (n3_ (hR s' ?_)));rw [List.drop_length];exact I'
 | succ m ih =>
   intro i s kvs hm hi I st0 hk hR;have hlt:i<ps.length:=by omega
   obtain ⟨⟨k,y⟩,ek⟩:∃ p,ps[i]? = some p:=⟨ps[i],n1_ hlt⟩;refine codeAny_builtin Xc ?_;rw [Around.under_plainId Yc _];show wpAny _ A.in1 (pyNext (.ref it) >>= _) _ _ s
   refine n0_ (P.item A.in1 i s kvs k y _ _ hh ek I st0 fun T b u s' hT hb ru I' st1=>?_);have hTi:s'.TypeIs (.ref T) "tuple" := let ⟨o,e,c,_⟩:=hT;⟨o,e,c⟩;have bD:b≠D:=fun z=>by rw [z,hD] at hb;cases hb
   have hf:∀ c∈fp,FpOk X pins (upd H1 D (.dT kvs)) c:=fun c hc=>by
    obtain ⟨⟨f0,f1⟩,ne⟩:=P.fpk c hc;exact ⟨by rw [Zj ne];exact f0,f1⟩
   have Ip:=I'.pinned hf (P.obj _ _ st1);show wpAny _ A.in1 (holding [.ref T] (tryCatch (Builtin.Dict.pairItems (.ref T)) _ >>= _) >>= _) _ _ s'
   refine n0_ (n31_ (n0_ (wpAny_tryCatch ?_)));unfold Builtin.Dict.pairItems;refine n0_ (wpAny_typeOf hTi ?_);rw [if_pos (by decide)];obtain ⟨o,e1,_,n1,d1⟩:=hT;refine n0_ (wpAny_seqItems e1 d1 (n3_ ?_));show wpAny _ A.in1 (holding [.ref b,u] (dictSet D (.ref b) u)) _ _ s'
   refine n31_ (Zhg (k:=k) (v:=y) (by rw [Around.in1_units];omega) Ip Zc (by rw [Zj bD];exact hb) ru (by rw [sizeLine_eq];omega) fun s2 I2=>?_)
   have eH:upd (upd H1 D (.dT kvs)) D (.dT (putK kvs k y))=upd H1 D (.dT (putK kvs k y)):=by
    funext c
    by_cases z:c=D
    · subst z;rw [Zc,Zc]
    · rw [Zj z,Zj z,Zj z]
   rw [eH] at I2;have st2:st (i+1) s2.heap:=P.keep _ _ _ st1 fun c hc o e=>(I2.pin (c,o) (n27_ _ (n27_ _ (Y5 hc e)))).1;refine n3_ ⟨plainId_quiet Yc _,?_⟩;refine ih (i+1) s2 _ (by omega) hlt I2.unpinned st2 ?_ fun s3 I3=>hR s3 ?_
   · have:=Zc0 kvs k y;omega
   · rw [List.drop_eq_getElem_cons hlt,show ps[i]=(k,y) by rw [n1_ hlt] at ek;exact Option.some.inj ek];exact I3
end L2
namespace L2
open PySem PySem.Spec PyProof.Rows PySem.W
variable {D a b j t z:Addr} {H H' H1:Hp} {xs:List V} {pos:Pos} {ta:TA}
theorem Same.sqT {K:PySem.W.Frag} (e:Same H H') (h:SqT K H a xs):SqT K H' a xs:=by
 rcases h with h|h
 · left
   rcases h with h|⟨o,h⟩
   · exact .inl (e _ _ h)
   · exact .inr ⟨o,e _ _ h⟩
 · exact .inr h
theorem Same.sk {k:SK} {K:PySem.W.Frag} (e:Same H H') (h:k.Sq K H a xs):k.Sq K H' a xs:=by
 cases k
 · exact e.seq h
 · exact e.sqT h
section
variable {X:Cx} {pins:List (Addr×Obj)} {σ:St} {H:Hp} {s:Shared}
structure ZRdy (X:Cx) (pins:List (Addr×Obj)) (k l:SK) (H:Hp) (h:Heap) (z t o i j a b:Addr):Prop where
 zp:ZP z t o i j a b
 zip:IsZip h z t o .none
 two:IsPair h t (.ref i) (.ref j)
 own:IsPair h o .none .none
 fst:k.It h i a 0
 snd:l.It h j b 0
 fpo:∀ c∈[z,t,o,i,j],FpOk X pins H c∧c<h.objs.size
theorem Zjd (k l:SK) {a b:Expr} {p:Pos} (hg:Gl X "zip") (hm:X.mg "zip" = none) (ha:PA X [a,b] ta) {C:Addr→Addr→Hp→Prop}
 (I:Inv X pins σ H s) (h:ta σ H fun vs H1=>∃ a b,vs=[.ref a,.ref b]∧(∃ xs,k.Sq X.K H1 a xs)∧(∃ ys,l.Sq X.K H1 b ys)∧C a b H1) (hs:starEach [a,b] X.env=[(false,eval a X.env),(false,eval b X.env)]:=by rfl) (hs2:starEach [b] X.env=[(false,eval b X.env)]:=by rfl) :
 wpAny (model X.prog X.w) X.A (eval (.Call (.Name "zip" p) [a,b] [] pos) X.env) (fun v s'=>∃ z t o i j a b H1,v=.ref z∧Inv X pins σ H1 s'∧ZRdy X pins k l H1 s'.heap z t o i j a b∧C a b H1) X.xe s:=by
 refine wpAny_Call_Name_kw (Zas I hg hm Zdh (n43_ (thn (ha pos pins s σ H _ I h) fun us s1 ⟨vs,H1,I1,r1,q1⟩=>?_) (by rw [hs,hs2]) (by rw [hs2];rfl)));obtain ⟨a,b,e,⟨xs,hx⟩,⟨ys,hy⟩,q⟩:=q1;subst e;obtain ⟨u,u',rfl,ru1,ru2⟩:=Zry r1;cases ru1
 cases ru2
 obtain ⟨us,ru,pu⟩:=hx.is I1;obtain ⟨ws,rw',pw⟩:=hy.is I1;have la:a<s1.z:=by obtain ⟨_,_,e,_⟩:=pu.ex;exact n11_ e
 have lb:b<s1.z:=by obtain ⟨_,_,e,_⟩:=pw.ex;exact n11_ e
 refine Zfa pu pw fun h1 m1 m2 m3 m4 m5 m6 m7=>?_;refine ⟨_,_,_,_,_,a,b,H1,rfl,I1.kept (t':=s1.toks) m7,⟨Zm9 la lb,m1,m2,m3,m4,m5,fun c hc=>⟨?_,?_⟩⟩,q⟩
 · refine I1.fps (fp:=[s1.z+4,s1.z+2,s1.z+3,s1.z,s1.z+1]) ?_ c hc;intro e he;simp only [n12_,n13_,or_false] at he
   rcases he with rfl|rfl|rfl|rfl|rfl<;>omega
 · show @LT.lt Nat _ c h1.objs.size
   rw [m6];simp only [n12_,n13_,or_false] at hc
   rcases hc with rfl|rfl|rfl|rfl|rfl<;>(show @LT.lt Nat _ _ _;omega)
theorem Zqz {k l:SK} {h0:Heap} {o i:Addr} {ys:List V} {kl:List (List Key)} (hc:X.calm=true) (Z:ZRdy X pins k l H1 h0 z t o i j a b) (hD:H1 D=none) (lD:h0.objs.size≤D) (q1:k.Sq X.K H1 a xs) (q2:l.Sq X.K H1 b ys)
 (al:Al (fun v key=>∃ c,v=.ref c∧H1 c=some (.tup (key.map kV))) xs kl) :
 PIt X pins σ H1 D z [z,t,o,i,j] (fun n h=>ZSt h z t o∧IsPair h t (.ref i) (.ref j)∧(∃ c d,IsPair h o c d)∧k.It h i a n∧l.It h j b n) (kl.zip ys):=by
 have D':=Z.zp;have fpk:∀ c∈[z,t,o,i,j],FpOk X pins H1 c∧c≠D:=fun c hc=>⟨(Z.fpo c hc).1,n22_ (n14_ (Z.fpo c hc).2 lD)⟩
 have hf:∀ kvs,∀ c∈[z,o,i,j],FpOk X pins (upd H1 D (.dT kvs)) c:=fun kvs c hc=>by
  have hc':c∈[z,t,o,i,j]:=by
   simp only [n12_,n13_,or_false] at hc ⊢
   rcases hc with q|q|q|q<;>simp [q]
  obtain ⟨⟨f0,f1⟩,ne⟩:=fpk c hc';exact ⟨by rw [Zj ne];exact f0,f1⟩
 have sm:∀ kvs,Same H1 (upd H1 D (.dT kvs)):=fun kvs=>Same.new hD;refine ⟨fun n h st e he=>?_,fun n h h' st f=>?_,fpk,fun A n s kvs key y Q E hh hp I st q=>?_,fun A s kvs Q E hh I st q=>?_⟩
 · obtain ⟨⟨f0,f1,h1,_⟩,h2,⟨c,d,h3⟩,h4,h5⟩:=st;simp only [n12_,n13_,or_false] at he
   rcases he with rfl|rfl|rfl|rfl|rfl
   · exact ⟨_,h1,fun v q=>by cases (show Data.fields _=Data.cell v from q)⟩
   · exact ⟨_,h2,fun v q=>by cases (show Data.seq _ _=Data.cell v from q)⟩
   · exact ⟨_,h3,fun v q=>by cases (show Data.seq _ _=Data.cell v from q)⟩
   · obtain ⟨u,e,_,q⟩:=h4.ex;exact ⟨u,e,fun v r=>by rw [q] at r;cases r⟩
   · obtain ⟨u,e,_,q⟩:=h5.ex;exact ⟨u,e,fun v r=>by rw [q] at r;cases r⟩
 · obtain ⟨⟨f0,f1,h1,h1'⟩,h2,⟨c,d,h3⟩,h4,h5⟩:=st;exact ⟨⟨f0,f1,f z (by simp) _ h1,h1'⟩,f t (by simp) _ h2,⟨c,d,f o (by simp) _ h3⟩,h4.at fun u e=>f i (by simp) u e,h5.at fun u e=>f j (by simp) u e⟩
 · obtain ⟨h1,h2,⟨c,d,h3⟩,h4,h5⟩:=st;obtain ⟨us,ru,pu⟩:=((sm kvs).sk q1).is I;obtain ⟨vs,rv,pv⟩:=((sm kvs).sk q2).is I;obtain ⟨e1,e2⟩:=n51_.mp hp;obtain ⟨x,ex,c',rfl,hc'⟩:=al.got e1;obtain ⟨u,hu,ux⟩:=ru.get ex;obtain ⟨v,hv,vy⟩:=rv.get e2;cases ux
   refine Zex D' h1 h2 h3 h4 h5 pu pv (x:=.ref c') (y:=v) (by simpa using hu) (by simpa using hv) fun g r1 r2 r3 r4 r5 r6 r7=>?_;refine q _ c' v { s with heap:=g } ⟨_,r5,rfl,_,rfl⟩ hc' vy ?_ ⟨r1,r7 _ _ D'.tz D'.to D'.ti D'.tj h2,r2,r3,r4⟩;refine I.turnOnly (t':=s.toks) (ch:=[z,o,i,j]) (fun e o' ne q=>?_) (hf kvs);simp only [n12_,n13_,or_false,not_or] at ne;exact r7 e o' ne.1 ne.2.1 ne.2.2.1 ne.2.2.2 q
 · obtain ⟨h1,h2,⟨c,d,h3⟩,h4,h5⟩:=st;obtain ⟨us,ru,pu⟩:=((sm kvs).sk q1).is I;obtain ⟨vs,rv,pv⟩:=((sm kvs).sk q2).is I;have e1:=ru.length;have e2:=rv.length;have e3:=al.1;have e4:(kl.zip ys).length=min kl.length ys.length:=List.length_zip;refine Zhn hh D' h1 h2 h3 h4 h5 pu pv ?_ fun g r=>q { s with heap:=g } ?_
   · by_cases z:kl.length≤ys.length
     · left;simp;omega
     · right;simp;omega
   · refine I.turnOnly (t':=s.toks) (ch:=[z,o,i,j]) (fun e o' ne q=>?_) (hf kvs);simp only [n12_,n13_,or_false,not_or] at ne;exact r e o' ne.1 ne.2.1 ne.2.2.1 ne.2.2.2 q
end
end L2
namespace L2
open PySem PySem.Spec PyProof.Rows PySem.W
variable {p2 pos:Pos} {ta:TA} {Q:Value→Shared→Prop}
section
variable {prog:Program} {w:World} {A:Around} {E:Value→Shared→Prop} {s:Shared}
theorem Zhh {x:Addr} {T:String} (hT:s.TypeIs (.ref x) T) (hne:(Value.type T != Value.type "dict")=true)
 (h:wpAny (model prog w) A.in1.in1 (getAttr? (.ref x) "keys") (fun r s2=>r=none∧wpAny (model prog w) A.in1.in1 (pyIter (.ref x)) (fun it s3=>codeAny (model prog w) A.in1 (.builtin "dict.update.loop" ⟨[.ref s.z,it,rawInt 0,.none],[]⟩) (wants (fun r s₂=>r=.none∧Q (.ref s.z) s₂) E) s3) (fun _ _=>False) s2) (fun _ _=>False) { s with heap:=s.heap.push { cls:=.type "dict",data:=.dict #[] } }) :
 wpAny (model prog w) A (call (.type "dict") [.ref x]) Q E s:=by
 refine callType_codes (Q₁:=fun obj s₁=>obj=.ref s.z∧s₁={ s with heap:=s.heap.push { cls:=.type "dict",data:=.dict #[] } }) F.kt_called_dict (F.kt_typeCall_dict_1 _) F.entry_dict_init (kt_code_dict_new _ ⟨rfl,rfl⟩) ?_;rintro obj s₁ ⟨rfl,rfl⟩
 have hd:({ s with heap:=s.heap.push { cls:=.type "dict",data:=.dict #[] } }:Shared).TypeIs (.ref s.z) "dict" := ⟨_,n8_ _ rfl,rfl⟩
 have hT':({ s with heap:=s.heap.push { cls:=.type "dict",data:=.dict #[] } }:Shared).TypeIs (.ref x) T:=by
  obtain ⟨o,e,c⟩:=hT;exact ⟨o,n2_ _ e,c⟩
 refine ⟨hd,F.args_dict_init_2 _ _,?_⟩;unfold Builtin.«dict.__init__»;refine n0_ ?_;unfold Builtin.Dict.selfAndRest;refine n0_ (wpAny_notOrdered_dict hd ?_);show wpAny _ _ (pure (s.z,[Value.ref x])) _ _ _
 refine n3_ ?_;show wpAny _ _ (Builtin.Dict.updateFrom "dict.__init__" s.z (.ref x) [] .none) _ _ _
 unfold Builtin.Dict.updateFrom;refine n0_ (wpAny_typeOf hT' ?_);rw [if_pos hne];refine n0_ (n45_ h (fun r s2 h2=>?_) fun _ _ z=>z.elim);obtain ⟨rfl,h2⟩:=h2;rw [if_pos (show (none:Option Value).isNone=true from rfl)];refine n0_ (wpAny_rule (n0_ (n45_ h2 (fun it s3 h3=>?_) fun _ _ z=>z.elim)));exact n3_ ⟨plainId_quiet Yc _,h3⟩
end
section
variable {X:Cx}
theorem Zla:bootBuiltins "dict" = some (.type "dict"):=by decide +kernel
def tDz (k l:SK) (K:PySem.W.Frag) (ta:TA):TE:=fun σ H Q=>ta σ H fun vs H1=>∃ a b,vs=[.ref a,.ref b]∧(∃ xs,k.Sq K H1 a xs)∧(∃ ys,l.Sq K H1 b ys)∧∃ (xs ys:List V) (kl:List (List Key)),k.Sq K H1 a xs∧l.Sq K H1 b ys∧Al (fun v (key:List Key)=>∃ c,v=.ref c∧H1 c=some (.tup (key.map kV))) xs kl∧xs.length≤1000 ∧
 ∀ D,H1 D=none→Q (.ref D) (upd H1 D (.dT (Zbw [] (kl.zip ys))))
theorem Zrz (k l:SK) {a b:Expr} {p pos2:Pos} (hc:X.calm=true) (hu:X.A.units+4<cLine) (hg:Gl X "dict") (hm:X.mg "dict" = none) (hg2:Gl X "zip") (hm2:X.mg "zip" = none) (ha:PA X [a,b] ta)
 (he:starEach [.Call (.Name "zip" p2) [a,b] [] pos2] X.env=[(false,eval (.Call (.Name "zip" p2) [a,b] [] pos2) X.env)]:=by rfl) (hs:starEach [a,b] X.env=[(false,eval a X.env),(false,eval b X.env)]:=by rfl) (hs2:starEach [b] X.env=[(false,eval b X.env)]:=by rfl) :
 PE X (.Call (.Name "dict" p) [.Call (.Name "zip" p2) [a,b] [] pos2] [] pos) (tDz k l X.K ta):=by
 intro pins s σ H Q I h;refine wpAny_Call_Name_kw (Zas I hg hm Zla (n43_ ?_ (by rw [he];rfl) rfl));rw [he]
 refine Calls.spliced_cons (thn (Zjd k l hg2 hm2 ha (C:=fun a b H1=>∃ (xs ys:List V) (kl:List (List Key)),k.Sq X.K H1 a xs∧l.Sq X.K H1 b ys∧Al (fun v (key:List Key)=>∃ c,v=.ref c∧H1 c=some (.tup (key.map kV))) xs kl∧xs.length≤1000 ∧
  ∀ D,H1 D=none→Q (.ref D) (upd H1 D (.dT (Zbw [] (kl.zip ys))))) I h hs hs2) fun v s1 h1=>Calls.spliced_nil ?_)
 · obtain ⟨z,t,o,i,j,a',b',H1,rfl,I1,Z,xs,ys,kl,q1,q2,al,hz,q⟩:=h1;have hh:X.A.handled=none:=I1.ok.hd hc;refine Zhh (T := "zip") ⟨_,Z.zip,rfl⟩ (by decide) ?_;have hD:H1 s1.z=none:=I1.hok.fresh (n7_ _)
   have I2:Inv X pins σ (upd H1 s1.z (.dT [])) { s1 with heap:=s1.heap.push { cls:=.type "dict",data:=.dict #[] } } :=
    I1.laid (t':=s1.toks) (fun b o e=>n2_ _ e) (n7_ _) (Zf5 s1.heap I1.big)
   refine Zh8 (n2_ _ Z.zip) hh fun h' tk k'=>⟨rfl,?_⟩;have up:∀ b o,s1.heap.get? b=some o→h'.get? b=some o:=fun b o e=>k' b o (n2_ _ e);refine wpAny_pyIter_zip (show IsZip h' z t o .none from up _ _ Z.zip) ?_;have P:=Zqz (σ:=σ) (D:=s1.z) hc Z hD (n7_ _) q1 q2 al;have n1:=al.1;have n2:(kl.zip ys).length≤1000:=by rw [List.length_zip];omega
   refine Zka (A:=X.A.in1) (by rw [Around.in1_units];omega) hh hD n2 P _ 0 { s1 with heap:=h',toks:=tk } [] rfl (n42_ _) (I2.kept (t':=tk) k') ?_ (n7_ _) fun s' I'=>?_
   · exact ⟨⟨_,_,up _ _ Z.zip,.inl rfl⟩,up _ _ Z.two,⟨_,_,up _ _ Z.own⟩,Z.fst.at fun u e=>up _ u e,Z.snd.at fun u e=>up _ u e⟩
   · exact ⟨rfl,.ref s1.z,_,I',rfl,q _ hD⟩
end
end L2
namespace L2
open PySem PySem.Spec PyProof.Rows PySem.W
theorem Zk1:typeLookup (.type "zip") "__len__" = pure none:=by rw [typeLookup_type,builtinLookup_eq_fast];kernel_rfl
theorem Zid:typeLookup (.type "zip") "__length_hint__" = pure none:=by rw [typeLookup_type,builtinLookup_eq_fast];kernel_rfl
abbrev PrAt (H:Hp) (v:V) (p:V×V):Prop:=∃ c,v=.ref c∧H c=some (.tup [p.1,p.2])
variable {D S a b it j t z:Addr} {A:Around} {X:Cx} {elt i0 i1 t0 t1:Expr} {H1:Hp} {fr:List (Option Nat)} {cl:List (Str×Addr)} {N:List Str} {xs:List V} {p2 pos:Pos} {prog:Program} {R:Result→Shared→Prop} {scope:Scope} {ta:TA} {te:TE} {wi:TI} {w:World}
section
variable {X:Cx} {pins:List (Addr×Obj)} {σ:St}
theorem Zqv {k l:SK} {h0:Heap} {o i:Addr} {ys:List V} (hh:A.handled=none) (Z:ZRdy X pins k l H1 h0 z t o i j a b) (hS1:H1 S=none) (lS:h0.objs.size≤S) (q1:k.Sq X.K H1 a xs) (q2:l.Sq X.K H1 b ys) (hz:xs.length≤1000)
 (q:∀ s' H' us,Inv X pins σ H' s'→Same H1 H'→H' S=some (.lst us)→Al (PrAt H') us (xs.zip ys)→R (.ok (.ret .none)) s') :
 ∀ (m n:Nat) (s:Shared) (H:Hp) (us:List V),(xs.zip ys).length-n=m→n≤(xs.zip ys).length→Inv X pins σ H s→Same H1 H→H S=some (.lst us)→Al (PrAt H) us ((xs.zip ys).take n)→(∀ c∈[z,t,o,i,j],FpOk X pins H c) →
   (ZSt s.heap z t o∧IsPair s.heap t (.ref i) (.ref j)∧(∃ c d,IsPair s.heap o c d)∧k.It s.heap i a n∧l.It s.heap j b n)→codeAny (model X.prog X.w) A (.builtin "list.extend.loop" ⟨[.ref S,.ref z,.none],[]⟩) R s:=by
 have D':=Z.zp;have lz:(xs.zip ys).length=min xs.length ys.length:=List.length_zip
 have four:∀ {H:Hp},(∀ c∈[z,t,o,i,j],FpOk X pins H c)→∀ c∈[z,o,i,j],FpOk X pins H c:=fun hf c hc=>hf c (by
  simp only [n12_,n13_,or_false] at hc ⊢
  rcases hc with q|q|q|q<;>simp [q])
 intro m
 induction m with
 | zero =>
   intro n s H us hm hn I sm hS al hf ⟨h1,h2,⟨c,d,h3⟩,h4,h5⟩;have en:n=(xs.zip ys).length:=by omega
   refine codeAny_builtin F.entry_extend_loop ?_;rw [Around.under_plainId F.plain_extend_loop _];show wpAny _ A.in1 (pyNext (.ref z) >>= _) _ _ s
   obtain ⟨ul,ru,pu⟩:=(sm.sk q1).is I;obtain ⟨vl,rv,pv⟩:=(sm.sk q2).is I;have e1:=ru.length;have e2:=rv.length;refine n0_ (Zhn hh D' h1 h2 h3 h4 h5 pu pv ?_ fun g r=>?_)
   · by_cases z:xs.length≤ys.length
     · left;simp;omega
     · right;simp;omega
   · refine n3_ (q { s with heap:=g } H us ?_ sm hS (by rw [en,List.take_length] at al;exact al));refine I.turnOnly (t':=s.toks) (ch:=[z,o,i,j]) (fun e o' ne q=>?_) (four hf);simp only [n12_,n13_,or_false,not_or] at ne;exact r e o' ne.1 ne.2.1 ne.2.2.1 ne.2.2.2 q
 | succ m ih =>
   intro n s H us hm hn I sm hS al hf ⟨h1,h2,⟨c,d,h3⟩,h4,h5⟩;have hlt:n<(xs.zip ys).length:=by omega
   obtain ⟨⟨x,y⟩,exy⟩:∃ p,(xs.zip ys)[n]? = some p:=⟨_,n1_ hlt⟩;obtain ⟨ex,ey⟩:=n51_.mp exy;refine codeAny_builtin F.entry_extend_loop ?_;rw [Around.under_plainId F.plain_extend_loop _];show wpAny _ A.in1 (pyNext (.ref z) >>= _) _ _ s
   obtain ⟨ul,ru,pu⟩:=(sm.sk q1).is I;obtain ⟨vl,rv,pv⟩:=(sm.sk q2).is I;obtain ⟨u,hu,ux⟩:=ru.get ex;obtain ⟨v,hv,vy⟩:=rv.get ey;refine n0_ (Zex D' h1 h2 h3 h4 h5 pu pv (x:=u) (y:=v) (by simpa using hu) (by simpa using hv) fun g r1 r2 r3 r4 r5 r6 r7=>?_);have hp:H s.z=none:=I.hok.fresh (n7_ _)
   have I2:Inv X pins σ (upd H s.z (.tup [x,y])) { s with heap:=g,toks:=s.toks }:=by
    refine I.turnNew (ch:=[z,o,i,j]) (fun e o' ne q=>?_) (four hf) (n7_ _) ⟨z2_,[u,v],.cons ux (.cons vy .nil),⟨_,r5,rfl,_,rfl⟩⟩;simp only [n12_,n13_,or_false,not_or] at ne;exact r7 e o' ne.1 ne.2.1 ne.2.2.1 ne.2.2.2 q
   have sm2:Same H (upd H s.z (.tup [x,y])):=Same.new hp;have hS2:=sm2 _ _ hS;have nS:s.z≠S:=fun z=>by rw [z,hS] at hp;cases hp
   obtain ⟨zz,its,nn,r,hl,e⟩:=I2.lstM hS2;have al1:=al.1;rw [n47_] at al1;show wpAny _ A.in1 (updateSeq S (·.push (.ref s.z)) >>= _) _ _ { s with heap:=g }
   refine n0_ (wpAny_updateSeq e rfl ?_ (by rw [n9_];rw [sizeLine_eq];omega) (by show (its.toArray.push _).size≤_;rw [Array.size_push,n9_,sizeLine_eq];omega));have I3:=I2.lset (its':=its++[.ref s.z]) (ys:=us++[.ref s.z]) (f:=(·.push (.ref s.z))) (t':=s.toks) hS2 e (by simp) (r.append (.cons (show RelV (.ref s.z) (Value.ref s.z) from rfl) .nil)) (by rw [n26_,List.length_singleton,sizeLine_eq];omega);have oth:∀ e',e'≠S→∀ u',g.get? e'=some u'→(g.update S (Obj.mapSeq (·.push (.ref s.z)))).get? e'=some u':=fun e' ne u' q=>(n41_ _ _ (Ne.symm ne)).trans q;have neS:∀ c∈[z,t,o,i,j],c≠S:=fun c hc=>n22_ (n14_ (Z.fpo c hc).2 lS);refine n3_ ⟨plainId_quiet F.plain_extend_loop _,ih (n+1) _ _ _ (by omega) hlt I3 ?_ Zc ?_ ?_ ?_⟩
   · intro b' o' e'
     have:=sm2 _ _ (sm _ _ e')
     rw [Zj (fun z=>by rw [z,hS1] at e';cases e')];exact this
   · rw [List.take_succ,exy];refine ⟨by rw [n26_,n26_,al.1];rfl,fun p v' pr e1 e2=>?_⟩
     by_cases hp1:p<us.length
     · rw [n58_ hp1] at e1;rw [n58_ (by rw [← al.1];exact hp1)] at e2;obtain ⟨cc,rfl,hcc⟩:=al.2 p v' pr e1 e2;refine ⟨cc,rfl,?_⟩;rw [Zj (fun z=>by rw [z,hS] at hcc;cases hcc)];exact sm2 _ _ hcc
     · rw [n55_ (by omega)] at e1;rw [n55_ (by rw [← al.1];omega),← al.1] at e2
       have p0:p-us.length=0:=by
        have:=(n19_.mp e1).1
        simp at this;omega
       rw [p0] at e1 e2;cases e1
       cases e2
       exact ⟨_,rfl,by rw [Zj nS];exact Zc⟩
   · intro c hc;obtain ⟨f0,f1⟩:=hf c hc;refine ⟨?_,f1⟩;rw [Zj (neS c hc)]
     have lc:c<s.z:=by
      simp only [n12_,n13_,or_false] at hc
      rcases hc with rfl|rfl|rfl|rfl|rfl
      · obtain ⟨_,_,q,_⟩:=h1;exact n11_ q
      · exact n11_ h2
      · exact n11_ h3
      · obtain ⟨_,q,_⟩:=h4.ex;exact n11_ q
      · obtain ⟨_,q,_⟩:=h5.ex;exact n11_ q
     rw [Zj (n22_ lc)];exact f0
   · obtain ⟨c1,d1,r2⟩:=r2;obtain ⟨f0,f1,r1,r1'⟩:=r1;exact ⟨⟨f0,f1,oth _ (neS z (by simp)) _ r1,r1'⟩,oth _ (neS t (by simp)) _ (r7 _ _ D'.tz D'.to D'.ti D'.tj h2),⟨c1,d1,oth _ (neS o (by simp)) _ r2⟩,r3.at fun u' e=>oth _ (neS i (by simp)) u' e,r4.at fun u' e=>oth _ (neS j (by simp)) u' e⟩
def tLz (k l:SK) (K:PySem.W.Frag) (ta:TA):TE:=fun σ H Q=>ta σ H fun vs H1=>∃ a b,vs=[.ref a,.ref b]∧(∃ xs,k.Sq K H1 a xs)∧(∃ ys,l.Sq K H1 b ys)∧∃ (xs ys:List V),k.Sq K H1 a xs∧l.Sq K H1 b ys∧xs.length≤1000 ∧
 ∀ H' S us,H1 S=none→Same H1 H'→H' S=some (.lst us)→Al (PrAt H') us (xs.zip ys)→Q (.ref S) H'
theorem Zkj:bootBuiltins "list" = some (.type "list"):=by decide +kernel
theorem Zsj (k l:SK) {a b:Expr} {p pos2:Pos} (hc:X.calm=true) (hg:Gl X "list") (hm:X.mg "list" = none) (hg2:Gl X "zip") (hm2:X.mg "zip" = none) (ha:PA X [a,b] ta)
 (he:starEach [.Call (.Name "zip" p2) [a,b] [] pos2] X.env=[(false,eval (.Call (.Name "zip" p2) [a,b] [] pos2) X.env)]:=by rfl) (hs:starEach [a,b] X.env=[(false,eval a X.env),(false,eval b X.env)]:=by rfl) (hs2:starEach [b] X.env=[(false,eval b X.env)]:=by rfl) :
 PE X (.Call (.Name "list" p) [.Call (.Name "zip" p2) [a,b] [] pos2] [] pos) (tLz k l X.K ta):=by
 intro pins s σ H Q I h;refine wpAny_Call_Name_kw (Zas I hg hm Zkj (n43_ ?_ (by rw [he];rfl) rfl));rw [he]
 refine Calls.spliced_cons (thn (Zjd k l hg2 hm2 ha (C:=fun a b H1=>∃ (xs ys:List V),k.Sq X.K H1 a xs∧l.Sq X.K H1 b ys∧xs.length≤1000 ∧
  ∀ H' S us,H1 S=none→Same H1 H'→H' S=some (.lst us)→Al (PrAt H') us (xs.zip ys)→Q (.ref S) H') I h hs hs2) fun v s1 h1=>Calls.spliced_nil ?_)
 obtain ⟨z,t,o,i,j,a',b',H1,rfl,I1,Z,xs,ys,q1,q2,hz,q⟩:=h1;have hh:X.A.handled=none:=I1.ok.hd hc;have hD:H1 s1.z=none:=I1.hok.fresh (n7_ _);refine callType_codes (Q₁:=fun obj s₁=>obj=.ref s1.z∧s₁={ s1 with heap:=s1.heap.push { cls:=.type "list",data:=.seq #[] } }) F.called_list (F.typeCall_list_1 _) F.entry_list_init (code_list_new _ ⟨rfl,rfl⟩) ?_;rintro obj s₁ ⟨rfl,rfl⟩
 have hS:(s1.heap.push { cls:=.type "list",data:=.seq #[] }).get? s1.z=some { cls:=.type "list",data:=.seq #[] }:=n8_ _ rfl;refine ⟨⟨_,hS,rfl⟩,F.args_list_init_2 _ _,?_⟩;have zne:s1.z≠z:=n59_ (n11_ Z.zip)
 have I2:Inv X pins σ (upd H1 s1.z (.lst [])) { s1 with heap:=s1.heap.push { cls:=.type "list",data:=.seq #[] },toks:=s1.toks } :=
  I1.laid (fun b o e=>n2_ _ e) (n7_ _) ⟨n42_ _,[],0,.nil,hS⟩
 show wpAny _ X.A.in1.in1 (do let old ← Builtin.List.listItems (.ref s1.z);Builtin.List.listUpdate (.ref s1.z) (fun _=>#[]);letGo old.toList.reverse;Builtin.List.listExtendWith (.ref s1.z) (.ref z) .none) _ _ _
 refine n0_ ?_;unfold Builtin.List.listItems;refine n0_ (wpAny_seqItems hS rfl (n3_ ?_));show wpAny _ _ (updateSeq s1.z (fun _=>#[]) >>= fun _=>letGo (#[]:Array Value).toList.reverse >>= fun _=>Builtin.List.listExtendWith (.ref s1.z) (.ref z) .none) _ _ _
 refine n0_ (wpAny_updateSeq hS rfl ?_);have hS₂:=n50_ (Obj.mapSeq (fun _=>(#[]:Array Value))) hS rfl
 have oth:∀ b o,b≠s1.z→(s1.heap.push { cls:=.type "list",data:=.seq #[] }).get? b=some o→((s1.heap.push { cls:=.type "list",data:=.seq #[] }).update s1.z (Obj.mapSeq (fun _=>(#[]:Array Value)))).get? b=some o :=
  fun b o hb e=>(n41_ _ _ (Ne.symm hb)).trans e
 have I3:=I2.lset (its:=[]) (n:=0) (its':=[]) (ys:=[]) (f:=fun _=>(#[]:Array Value)) (t':=s1.toks) Zc hS rfl .nil (n42_ _);generalize hg3:(s1.heap.push { cls:=.type "list",data:=.seq #[] }).update s1.z (Obj.mapSeq (fun _=>(#[]:Array Value)))=g3 at hS₂ oth I3 ⊢;have up3:∀ b o,s1.heap.get? b=some o→g3.get? b=some o:=fun b o e=>oth b o (n22_ (n11_ e)) (n2_ _ e);refine n0_ (wpAny_letGo ?_);unfold Builtin.List.listExtendWith;have hT:∀ tk (h:Heap) (e:h.get? z=g3.get? z),({ s1 with heap:=h,toks:=tk }:Shared).TypeIs (.ref z) "zip" := fun tk h e=>⟨_,by show h.get? z=_;rw [e];exact up3 _ _ Z.zip,rfl⟩;refine n0_ (wpAny_typeOf (hT s1.toks g3 rfl) ?_);have h1:Builtin.List.listSameRef (.ref s1.z) (.ref z)=false:=by simp [Builtin.List.listSameRef,zne]
 have h2:(Value.type "zip" == Value.type "list")=false:=by decide
 have h3:(Value.type "zip" == Value.type "tuple")=false:=by decide
 simp only [h1,h2,h3,Bool.or_false,n21_,if_false];refine n0_ (wpAny_pyIter_zip (show IsZip g3 z t o .none from up3 _ _ Z.zip) ?_);refine n0_ (n31_ ?_);unfold Builtin.List.listLengthHint;refine n0_ (wpAny_specialOf (hT s1.toks g3 rfl) Zk1 ?_);show wpAny _ _ (specialOf (Value.ref z) (Str.ofString "__length_hint__") >>= _) _ _ _
 refine n0_ (wpAny_specialOf (hT s1.toks g3 rfl) Zid ?_);refine n3_ ?_
 show wpAny _ _ (rule "list.extend.makes-room" >>= fun _=>Builtin.List.listTouch (.ref s1.z) >>= fun _ =>
  again (.builtin "list.extend.loop" ⟨[.ref s1.z,.ref z,.none],[]⟩)) _ _ _
 refine n0_ (wpAny_rule ?_);refine n0_ ?_;show wpAny _ _ (updateSeq s1.z (·.push .none) >>= fun _=>updateSeq s1.z (·.pop)) _ _ _
 refine n0_ (wpAny_updateSeq hS₂ rfl ?_);have hS₃:=n50_ (Obj.mapSeq (·.push Value.none)) hS₂ rfl;refine wpAny_updateSeq (hz:=by seq_fits) hS₃ rfl ?_;have hS₄:=n50_ (Obj.mapSeq (·.pop)) hS₃ rfl
 have oth4:∀ b o,b≠s1.z→g3.get? b=some o→((g3.update s1.z (Obj.mapSeq (·.push Value.none))).update s1.z (Obj.mapSeq (·.pop))).get? b=some o :=
  fun b o hb e=>(n41_ _ _ (Ne.symm hb)).trans ((n41_ _ _ (Ne.symm hb)).trans e)
 have I4:=I3.lset (its:=[]) (n:=_) (its':=[.none]) (ys:=[.non]) (f:=(·.push Value.none)) (t':=s1.toks) Zc hS₂ rfl (.cons (show RelV .non Value.none from rfl) .nil) (z1_);have I5:=I4.lset (its:=[.none]) (n:=_) (its':=[]) (ys:=[]) (f:=(·.pop)) (t':=s1.toks) Zc hS₃ rfl .nil (n42_ _);have up5:∀ b o,s1.heap.get? b=some o→((g3.update s1.z (Obj.mapSeq (·.push Value.none))).update s1.z (Obj.mapSeq (·.pop))).get? b=some o:=fun b o e=>oth4 b o (n22_ (n11_ e)) (up3 b o e);refine n3_ ⟨plainId_quiet F.plain_extend_loop _,Zqv (S:=s1.z) (A:=X.A.in1) hh Z hD (n7_ _) q1 q2 hz (fun s' H' us I' sm' hS' al'=>⟨rfl,.ref s1.z,H',I',rfl,q H' _ us hD sm' hS' al'⟩) _ 0 _ _ [] rfl (n42_ _) I5 (fun b' o' e'=>?_) Zc (by rw [List.take_zero];exact ⟨rfl,fun i v x e _=>by simp at e⟩) (fun c hc=>?_) ?_⟩
 · have ne:b'≠s1.z:=fun z=>by rw [z,hD] at e';cases e'
   rw [Zj ne,Zj ne,Zj ne,Zj ne];exact e'
 · obtain ⟨⟨f0,f1⟩,f2⟩:=Z.fpo c hc;have ne:c≠s1.z:=n22_ f2;refine ⟨?_,f1⟩;rw [Zj ne,Zj ne,Zj ne,Zj ne];exact f0
 · exact ⟨⟨_,_,up5 _ _ Z.zip,.inl rfl⟩,up5 _ _ Z.two,⟨_,_,up5 _ _ Z.own⟩,Z.fst.at fun u e=>up5 _ u e,Z.snd.at fun u e=>up5 _ u e⟩
theorem Zpq {h0:Heap} {L:Addr} {us:List V} {ps:List (List Key×V)} (hc:X.calm=true) (hD:H1 D=none) (hn:it≠D) (hf:FpOk X pins H1 it) (hL:H1 L=some (.lst us))
 (al:Al (fun v (p:List Key×V)=>∃ c b,v=.ref c∧H1 c=some (.tup [.ref b,p.2])∧H1 b=some (.tup (p.1.map kV))) us ps) :
 PIt X pins σ H1 D it [it] (fun n h=>h.IsListIter it L n) ps:=by
 have sm:∀ kvs,Same H1 (upd H1 D (.dT kvs)):=fun kvs=>Same.new hD;have nL:L≠it:=fun z=>by rw [z,hf.1] at hL;cases hL
 have hf':∀ kvs,∀ c∈[it],FpOk X pins (upd H1 D (.dT kvs)) c:=fun kvs c hc=>by
  rw [n39_.mp hc];exact ⟨by rw [Zj hn];exact hf.1,hf.2⟩
 refine ⟨fun n h st e he=>?_,fun n h h' st f=>?_,fun b hb=>?_,fun A n s kvs key y Q E hh hp I st q=>?_,fun A s kvs Q E hh I st q=>?_⟩
 · rw [n39_.mp he];obtain ⟨o,e,_,d⟩:=st;exact ⟨o,e,fun v q=>by rw [d] at q;cases q⟩
 · exact st.at fun o e=>f it (by simp) o e
 · rw [n39_.mp hb];exact ⟨hf,hn⟩
 · obtain ⟨its,rv,pl,_⟩:=I.list (SqL.of (sm kvs _ _ hL));obtain ⟨v,ev,c,b,rfl,hc',hb⟩:=al.got hp;obtain ⟨u,eu,ru⟩:=rv.get ev;cases ru
   refine wpAny_pyNext_list_item st pl.isList (x:=.ref c) (by simpa using eu) fun h' hit' hs'=>?_;obtain ⟨jt,rj,pt,_⟩:=I.tuple (SqT.of (sm kvs _ _ hc'));cases rj with
   | cons r1 rj=>cases rj with
     | cons r2 rj =>
       cases rj
       cases r1
       have I':Inv X pins σ (upd H1 D (.dT kvs)) { s with heap:=h',toks:=s.toks }:=I.turnOnly (ch:=[it]) (fun e o' ne q=>hs'.extBut _ _ (fun z=>ne (by simp [z])) q) (hf' kvs);obtain ⟨jt',rj',pt',_⟩:=I'.tuple (SqT.of (sm kvs _ _ hc'));cases rj' with
       | cons r1' rj'=>cases rj' with
         | cons r2' rj' =>
           cases rj'
           cases r1'
           exact q c b _ _ pt' hb r2' I' hit'
 · obtain ⟨its,rv,pl,_⟩:=I.list (SqL.of (sm kvs _ _ hL));have e1:=rv.length;have e2:=al.1;refine wpAny_pyNext_list_end hh st pl.isList (by simp;omega) fun h' he'=>?_;exact q { s with heap:=h' } (I.turnOnly (t':=s.toks) (ch:=[it]) (fun e o' ne q=>he' _ _ (fun z=>ne (by simp [z])) q) (hf' kvs))
theorem Zko (hc:X.calm=true) (hu:X.A.units+4<cLine):Xn X (.type "dict") (fun xs H Q=>∃ (L:Addr) (us:List V) (ps:List (List Key×V)),xs=[.ref L]∧H L=some (.lst us)∧us.length≤1000∧Al (fun v (p:List Key×V)=>∃ c b,v=.ref c∧H c=some (.tup [.ref b,p.2])∧H b=some (.tup (p.1.map kV))) us ps ∧
 ∀ D,H D=none→Q (.ref D) (upd H D (.dT (Zbw [] ps)))):=by
 intro pins s σ H xs vs Q I r h;obtain ⟨L,us,ps,rfl,hL,hz,al,q⟩:=h;obtain ⟨u,rfl,ru⟩:=Ziy r;cases (show _=Value.ref L from ru)
 have hh:X.A.handled=none:=I.ok.hd hc;obtain ⟨its,rv,⟨ob,n,e0,c0,d0,dt0⟩,_⟩:=I.list (SqL.of hL);refine Zhh (T := "list") ⟨_,e0,c0⟩ (by decide) ?_;have hD:H s.z=none:=I.hok.fresh (n7_ _)
 have I2:Inv X pins σ (upd H s.z (.dT [])) { s with heap:=s.heap.push { cls:=.type "dict",data:=.dict #[] } } :=
  I.laid (t':=s.toks) (fun b o e=>n2_ _ e) (n7_ _) (Zf5 s.heap I.big)
 refine Zg3 (n2_ _ e0) c0 dt0 d0 hh fun h' tk k'=>⟨rfl,?_⟩;have I3:Inv X pins σ (upd H s.z (.dT [])) { s with heap:=h',toks:=tk }:=I2.kept k';have hL':upd H s.z (.dT []) L=some (.lst us):=Same.new (o:=.dT []) hD _ _ hL;obtain ⟨its',rv',pl',_⟩:=I3.list (SqL.of hL');refine wpAny_pyIter_list (s:={ s with heap:=h',toks:=tk }) pl'.isList ?_;have lt:s.z<h'.objs.size:=n11_ (k' _ _ (n8_ _ rfl));have hit:H h'.objs.size=none:=I.hok.fresh (Nat.le_of_lt lt);have fI:FpOk X pins H h'.objs.size:=I.fpOk (Nat.le_of_lt lt) hit;have P:=Zpq (X:=X) (pins:=pins) (σ:=σ) (h0:=h') (D:=s.z) (it:=h'.objs.size) hc hD (n59_ lt) fI hL al;have n2:ps.length≤1000:=by have:=al.1;omega
 refine Zka (A:=X.A.in1) (by rw [Around.in1_units];omega) hh hD n2 P _ 0 _ [] rfl (n42_ _) (I3.kept (t':=tk) fun b o e=>n2_ _ e) ⟨_,n8_ _ rfl,rfl,rfl⟩ (n7_ _) fun s' I'=>?_;exact ⟨rfl,.ref s.z,_,I',rfl,q _ hD⟩
end
abbrev lc2 (elt t0 i0 t1 i1:Expr) (scope:Scope) (pos:Pos):Expr:=.ListComp elt [⟨t0,i0,[],0⟩,⟨t1,i1,[],0⟩] scope pos
theorem Zuo:C2Ok prog w (lc2 elt t0 i0 t1 i1 scope pos) t0 i0 t1 i1 elt "list.append" (fun acc v=>do let _ ← call (.builtin "list.append") [acc,v]):=by
 refine ⟨fun _ _ _ _ _=>rfl,fun _ _ _ _=>rfl,fun _ _ _ _=>rfl,fun _ _ _=>rfl,fun _ _ _=>rfl,fun A acc x s P E h=>n0_ (n45_ h (fun _ s5 h5=>n3_ h5) fun _ _ h'=>h'.elim),fun A k hk it acc env R s4 h0 h=>?_⟩;refine codeAny_of_tree ?_;show wpAny _ _ ((compStart (lc2 elt t0 i0 t1 i1 scope pos) k it acc env).onRaise (fun x=>do noteFrame x env;standAt theWindowsPlace)) _ _ s4
 refine wpAny_notedAt ?_;have hk':k=0∨k=1:=by omega
 rcases hk' with rfl|rfl <;>
 · unfold compStart;show wpAny _ _ (ask >>= _) _ _ s4
   refine n0_ (wpAny_askSetting (wpAny_ite ?_));split
   · first
      | exact n0_ (n3_ (n3_ (And.intro rfl h0)))
      | exact n3_ (And.intro rfl h0)
   · first
      | exact n0_ (wpAny_rule (n0_ (wpAny_standAt (n0_ (n45_ (h NoX) (fun it' s' h'=>n3_ (And.intro rfl h')) fun _ _ x=>x.elim)))))
      | (refine n0_ (wpAny_rule ?_);show wpAny _ _ (standAt _ >>= _) _ _ s4;exact n0_ (wpAny_standAt (n0_ (n45_ (h NoX) (fun it' s' h'=>n3_ (And.intro rfl h')) fun _ _ x=>x.elim))))
abbrev Zs0:=C2Go adL (.lst [])
def tLC2 (wi:TI) (g0:TG) (wi1:TI) (g1:TG) (te:TE) (fr:List (Option Nat)):TE:=fun σ H Q=>wi σ H fun J H1=>∀ D,H1 D=none→Zs0 J g0 wi1 g1 te (Zah fr σ) H1 D Q
theorem Zug {wi1:TI} {g0 g1:TG}
 (hc:X.calm=true) (L:LcO X scope cl N fr) (hi:PI X t0 i0 wi) (hg:∀ C s3 H3 fp,PG (blk X scope cl C N s3 H3 fp) t0 g0) (hi1:∀ C s3 H3 fp,PI (blk X scope cl C N s3 H3 fp) t1 i1 wi1) (hg1:∀ C s3 H3 fp,PG (blk X scope cl C N s3 H3 fp) t1 g1)
 (he:∀ C s3 H3 fp,PE (blk X scope cl C N s3 H3 fp) elt te)
 (hs:∀ x,foldedSetIterable i0 X.env x=pure x:=by intro _;rfl) (hs1:∀ env x,foldedSetIterable i1 env x=pure x:=by intro _ _;rfl):PE X (lc2 elt t0 i0 t1 i1 scope pos) (tLC2 wi g0 wi1 g1 te fr):=by
 intro pins s σ H Q I h;rw [eval_ListComp];refine wpAny_comprehension_free (use:=none) rfl hs L.clos L.kind L.names (thn (hi pins s σ H _ I h) fun v s1 h1=>thn h1 fun itv s2 h2=>?_);obtain ⟨it,fp,tn,J,H2,e,I2,T,st2,f2,h⟩:=h2;subst e;refine wpAny_newObj_type ?_;exact Zng (ac:=.lst []) rfl hc L hg hi1 hg1 he Zvy I2 T st2 f2 ⟨n42_ _,[],0,.nil,n8_ _ rfl⟩ (h _ (I2.hok.fresh (n7_ _))) hs1 Zuo
end L2
namespace PySem
section
variable {prog:Program} {w:World} {A:Around} {E:Value→Shared→Prop} {s:Shared} {it d:Addr} {i ep:Nat} {es:Array DictEntry}
theorem Zpk {x:DictEntry} {Q:Option Value→Shared→Prop} (hit:s.heap.IsKeyIter it d i es.size ep) (hm:EntAt s.heap d es ep) (hx:es[i]? = some x)
 (hQ:∀ h',h'.IsKeyIter it d (i+1) es.size ep→Heap.SameBut it s.heap h'→Q (some x.key) { s with heap:=h' }):wpAny (model prog w) A (pyNext (.ref it)) Q E s:=by
 obtain ⟨o,ho,hc,hd⟩:=id hit;obtain ⟨od,e0,q0⟩:=hm;obtain ⟨li,rfl⟩:=Array.getElem?_eq_some_iff.mp hx;unfold pyNext;refine n0_ <| wpAny_attempt <| wpAny_callSpecial?_slot (name:=Str.ofString "__next__") hit.typeIs F.slot_dict_keyiterator_next <| wpAny_call_entry F.slot_dict_keyiterator_next hit.typeIs F.entry_dict_keyiterator_next ?_ (F.args_dict_keyiterator_next_1 _);refine n0_ <| n3_ <| n0_ <| n0_ <| n0_ <| wpAny_typeNameOfWhole_keyiter hit.typeIs <| n3_ <| n0_ <| wpAny_fieldsOf ho hd ?_;have own:Builtin.Dict_items.ownsTuple "dict_keyiterator" = false:=by decide
 simp only [own,n21_,if_false];show wpAny _ _ (if (Value.ref d == Value.none)=true then _ else _) _ _ _
 rw [if_neg (by intro z;cases z)];refine n0_ <| n3_ <| n0_ <| wpAny_dictEntries e0 q0 ?_;rw [if_neg (by simp)];refine n0_ <| n3_ <| n0_ <| wpAny_dictEpoch e0 q0 ?_;rw [if_neg (by simp)];refine n3_ ?_;have nn:¬ ((i:Int)<0):=by omega
 simp only [nn,if_false,n57_,hx];refine n0_ <| n0_ <| wpAny_typeNameOfWhole_keyiter hit.typeIs <| n3_ <| n0_ <| wpAny_isOneOf_keyiter hit.typeIs ?_;show wpAny _ _ (setField (.ref it) 1 (rawInt ((i:Int)+1)) >>= _) _ _ s
 refine n0_ (wpAny_setField ho hd (by simp) ?_)
 have hit':(s.heap.update it (Obj.mapFields (·.setIfInBounds 1 (rawInt ((i:Int)+1))))).IsKeyIter it d (i+1) es.size ep :=
  ⟨_,n50_ _ ho (Obj.isFreed_of_fields (Obj.data_mapFields hd _)),(Obj.cls_mapFields ..).trans hc,by rw [Obj.data_mapFields hd];simp [rawInt]⟩
 refine n0_ (n31_ ?_);refine n0_ (wpAny_isOneOf_keyiter (s:={ s with heap:=s.heap.update it (Obj.mapFields (·.setIfInBounds 1 (rawInt ((i:Int)+1)))) }) hit'.typeIs ?_);show wpAny _ _ (pure es[i].key) _ _ _
 exact n3_ (n3_ ⟨_,rfl,n3_ (hQ _ hit' (Heap.SameBut.update ..))⟩)
theorem Zrt {Q:Option Value→Shared→Prop} (hh:A.handled=none) (hit:s.heap.IsKeyIter it d i es.size ep) (hm:EntAt s.heap d es ep) (hx:es[i]? = none)
 (hQ:∀ h',Heap.ExtBut it s.heap h'→Q none { s with heap:=h' }):wpAny (model prog w) A (pyNext (.ref it)) Q E s:=by
 obtain ⟨o,ho,hc,hd⟩:=id hit;obtain ⟨od,e0,q0⟩:=hm;unfold pyNext;refine n0_ <| wpAny_attempt <| wpAny_callSpecial?_slot (name:=Str.ofString "__next__") hit.typeIs F.slot_dict_keyiterator_next <| wpAny_call_entry F.slot_dict_keyiterator_next hit.typeIs F.entry_dict_keyiterator_next ?_ (F.args_dict_keyiterator_next_1 _);refine n0_ <| n3_ <| n0_ <| n0_ <| n0_ <| wpAny_typeNameOfWhole_keyiter hit.typeIs <| n3_ <| n0_ <| wpAny_fieldsOf ho hd ?_;have own:Builtin.Dict_items.ownsTuple "dict_keyiterator" = false:=by decide
 simp only [own,n21_,if_false];show wpAny _ _ (if (Value.ref d == Value.none)=true then _ else _) _ _ _
 rw [if_neg (by intro z;cases z)];refine n0_ <| n3_ <| n0_ <| wpAny_dictEntries e0 q0 ?_;rw [if_neg (by simp)];refine n0_ <| n3_ <| n0_ <| wpAny_dictEpoch e0 q0 ?_;rw [if_neg (by simp)];refine n3_ ?_;have nn:¬ ((i:Int)<0):=by omega
 simp only [nn,if_false,n57_,hx];refine n0_ <| n0_ <| wpAny_typeNameOfWhole_keyiter hit.typeIs <| n3_ ?_;show wpAny _ _ (setField (.ref it) 0 .none >>= _) _ _ s
 refine n0_ (wpAny_setField ho hd (by simp) ?_);show wpAny _ _ (newExc (.type "StopIteration") [] >>= _) _ _ _
 refine n0_ ?_;simp only [newExc,newTuple];refine n0_ (wpAny_newObj_type ?_ (by size_fits));refine n0_ (m:=firstArgMember _ _) (wpAny_of_eq (a:=Value.none) (by first|rfl|(simp only [firstArgMember];rfl)) ?_);refine wpAny_newObj_type ?_ (by size_fits);simp only [raiseNew];refine n0_ (wpAny_handled ?_);rw [show A.in1.handled=none from hh];refine n0_ (n3_ (wpAny_throw ?_));refine n0_ (wpAny_isInstance (T := "StopIteration") (b:=true) ⟨_,n8_ _ rfl,rfl⟩ isSubtype_stop ?_);exact n3_ (hQ _ (((Heap.SameBut.update ..).extBut.push _).push _))
theorem Zjs {Q:Value→Shared→Prop} (hT:s.TypeIs (.ref d) "dict") (hd:(d == sysModules)=false) (hm:EntAt s.heap d es ep)
 (hQ:Q (.ref s.z) { s with heap:=s.heap.push { cls:=.type "dict_keyiterator",data:=.fields #[.ref d,.int 0 0,.int es.size 0,.int ep 0] } }):wpAny (model prog w) A (pyIter (.ref d)) Q E s:=by
 obtain ⟨o,ho,hdat⟩:=hm;refine wpAny_pyIter_slot hT F.slot_dict_iter (wpAny_call_entry F.slot_dict_iter hT F.entry_dict_iter ?_ (F.args_dict_iter_1 _));unfold Builtin.«dict.__iter__»;refine n0_ ?_;unfold Builtin.Dict.dictSlotNone;refine n0_ (wpAny_notOrdered_dict hT ?_);show wpAny _ _ (pure (Value.ref d)) _ _ s
 refine n3_ ?_;show wpAny _ _ (Builtin.Dict.showsAll d >>= _) _ _ s
 unfold Builtin.Dict.showsAll;rw [if_neg (by rw [hd];exact n23_)];refine n0_ (n3_ ?_);refine n0_ (wpAny_dictEntries ho hdat (n0_ (wpAny_dictEpoch ho hdat ?_)));refine n0_ (wpAny_newObj_type (n3_ ⟨_,rfl,"dict_keyiterator",_,⟨_,n8_ _ rfl,rfl⟩,F.slot_dict_keyiterator_next.lookup,?_⟩))
 simpa [rawInt] using hQ
end
end PySem
namespace L2
open PySem PySem.Spec PyProof.Rows
def Itk (o:Obj) (d:Addr):It where
 go:=fun i H=>∃ kvs,H d=some (.frz o (.dT kvs))∧i<kvs.length
 yld:=fun i H v H'=>∃ (b:Addr) (k:List Key) (y:V),v=.ref b∧H'=H∧H b=some (.tup (k.map kV))∧∀ kvs,H d=some (.frz o (.dT kvs))→kvs[i]? = some (k,y)
 stop:=fun i H=>∃ kvs,H d=some (.frz o (.dT kvs))∧kvs.length≤i
variable {it:Addr} {tg:Expr} {ep:Nat} {o:Obj} {P:Program} {w:World}
theorem Zgd {K:PySem.W.Frag} {d:Addr} {es:Array DictEntry} (od:o.data=.dict es ep) (nd:d≠it) :
 Turn P w K tg (Itk o d) [it] it (fun n h=>h.IsKeyIter it d n es.size ep) where
 mem:=by simp
 obj:=fun n h st b hb=>by
  rw [n39_.mp hb];obtain ⟨u,e,_,q⟩:=st;exact ⟨u,e,fun v r=>by rw [q] at r;cases r⟩
 keep:=fun n h h' st f=>st.at fun u e=>f it (by simp) u e
 item:=by
  intro X hP hw hK hc n pins s σ H E I hf st hg;subst hP hw hK;obtain ⟨kvs,hd,hn⟩:=hg;obtain ⟨ent,sz,at_⟩:=Ze3 I.hok hd od;obtain ⟨⟨k,y⟩,ek⟩:∃ p,kvs[n]? = some p:=⟨kvs[n],n1_ hn⟩;obtain ⟨b,u,t,ex,hb,ru⟩:=at_ n k y ek
  refine Zpk st ent ex fun h' r1 r2=>?_;refine ⟨_,rfl,letGo_keyiter (s':={ s with heap:=h' }) r1 ?_⟩;refine ⟨.ref b,H,I.turnOnly (t':=s.toks) (ch:=[it]) (fun c o' ne q=>r2.extBut _ _ (fun z=>ne (by simp [z])) q) hf,rfl,⟨b,k,y,rfl,rfl,hb,fun kvs' e'=>?_⟩,r1,fun c hc=>(hf c hc).1⟩;rw [hd] at e';cases e';exact ek
 done:=by
  intro X hP hw hK hc n pins s σ H E I hf st hg;subst hP hw hK;obtain ⟨kvs,hd,hn⟩:=hg;obtain ⟨ent,sz,_⟩:=Ze3 I.hok hd od;refine Zrt (show X.A.handled=none from I.ok.hd hc) st ent (Array.getElem?_eq_none (by omega)) fun h' x=>⟨rfl,?_⟩;exact I.turnOnly (t':=s.toks) (ch:=[it]) (fun c o' ne q=>x c o' (fun z=>ne (by rw [z];simp)) q) hf
 self:=fun A i s Q E st q=>wpAny_pyIter_keyiter st q
section
variable {X:Cx} {tg:Expr}
def Zs7 (td:TE):TI:=fun σ H R=>td σ H fun x H1=>∃ d kvs,x=.ref d∧((H1 d=some (.dT kvs)∧∀ o,R (Itk o d) (upd H1 d (.frz o (.dT kvs))))∨∃ o,H1 d=some (.frz o (.dT kvs))∧R (Itk o d) H1)
theorem Zpl {o:Expr} {td:TE} (ho:PE X o td):PI X tg o (Zs7 td):=by
 intro pins s σ H R I h;refine thn (ho pins s σ H _ I h) fun v s1 ⟨x,H1,I1,r1,d,kvs,ex,hq⟩=>?_;subst ex;cases (show v=Value.ref d from r1)
 rcases hq with ⟨hd,q⟩|⟨o,hd,q⟩
 · obtain ⟨t1,t2,_⟩:=Zge I1 (.inr ⟨kvs,.inl hd⟩);obtain ⟨ob,es,ep,od,nm,ent,I2⟩:=I1.freeze hd;have ld:d<s1.z:=let ⟨_,e,_⟩:=ent;n11_ e;refine Zjs t1 nm ent ?_;refine ⟨s1.z,[s1.z],_,_,_,rfl,I2.kept (t':=s1.toks) fun b o e=>n2_ _ e,Zgd od (n22_ ld),⟨_,n8_ _ rfl,rfl,rfl⟩,fun b hb=>?_,q ob⟩;rw [n39_.mp hb];exact I2.fpOk (n7_ _) (I2.hok.fresh (n7_ _))
 · obtain ⟨t1,t2,nm⟩:=Zge I1 (.inr ⟨kvs,.inr ⟨o,hd⟩⟩);obtain ⟨g,_,_,xs,rel,o2,es,ep,g2,_,d2,_,_⟩:=I1.hok d _ hd;rw [g] at g2;cases g2
   have ent:EntAt s1.heap d es ep:=⟨_,g,d2⟩;have ld:d<s1.z:=n11_ g;refine Zjs t1 nm ent ?_;refine ⟨s1.z,[s1.z],_,_,_,rfl,I1.kept (t':=s1.toks) fun b o e=>n2_ _ e,Zgd d2 (n22_ ld),⟨_,n8_ _ rfl,rfl,rfl⟩,fun b hb=>?_,q⟩;rw [n39_.mp hb];exact I1.fpOk (n7_ _) (I1.hok.fresh (n7_ _))
end
end L2
namespace L2
open PySem PySem.Spec PyProof.Rows PySem.W
section
variable {X:Cx}
theorem Zds:OpR X (binaryOp .Add) (fun x y H Q=>∃ a b xs ys,x=.ref a∧y=.ref b∧H a=some (.lst xs)∧H b=some (.lst ys)∧xs.length+ys.length≤1000∧∀ p,H p=none→Q (.ref p) (upd H p (.lst (xs++ys)))):=by
 intro pins s σ H x y v u Q I rx ry h;obtain ⟨a,b,xs,ys,rfl,rfl,ha,hb,hz,q⟩:=h;cases rx
 cases ry
 obtain ⟨_,its,n,r,l1,e1⟩:=I.lstM ha;obtain ⟨_,its2,n2,r2,l2,e2⟩:=I.lstM hb;refine concat_meets ⟨_,e1,rfl⟩ ⟨_,e2,rfl⟩ noFill_list_add seq_list_add PySem.F.slot_list_add PySem.F.entry_list_add (PySem.F.args_list_add_2 _ _) (list_addW a b its.toArray its2.toArray n n2 none none #[] #[] (by rw [n9_,n9_,sizeLine_eq];omega)) ⟨e1,e2,?_⟩;have e:its.toArray++its2.toArray=(its++its2).toArray:=by simp
 refine ⟨.ref s.z,_,I.laid (t':=s.toks) (o:=.lst (xs++ys)) (fun b ob q=>n2_ _ q) (n7_ _) ⟨by rw [n26_,sizeLine_eq];omega,its++its2,0,r.append r2,?_⟩,rfl,q _ I.fresh⟩;rw [← e];exact n8_ _ rfl
end
def KTu (K:PySem.W.Frag) (a:Addr) (us:List V):Prop:=∃ (o:Obj) (its:Array Value) (n:Nat),K.lookup a=some o∧o.cls=.type "tuple" ∧ o.data=.seq its n∧its.size≤sizeLine∧Vals us its.toList
variable {α:Type} {D a:Addr} {H H':Hp} {M ns:List Int} {i m n:Nat} {g:TG} {v:V}
theorem KTu.sq {K:PySem.W.Frag} {us:List V} (h:KTu K a us):SqT K H a us:=.inr h
def MATS:List (List Int):=[[1,0,0,1],[1,0,0,-1],[-1,0,0,1],[-1,0,0,-1],[0,1,1,0],[0,1,-1,0],[0,-1,1,0],[0,-1,-1,0]]
def MatK (K:PySem.W.Frag) (mg:Str→Option Value):Prop:=∃ (m:Addr) (rs:List V),mg "MATRICES" = some (.ref m)∧KTu K m rs∧Al (fun v ns=>∃ a,v=.ref a∧KTu K a (ns.map V.int)) rs MATS
abbrev gz (M:List Int) (i:Nat):Int:=M.getD i 0
def img (M:List Int) (p:Pnt):Pnt:=(gz M 0*p.1+gz M 1*p.2,gz M 2*p.1+gz M 3*p.2)
noncomputable abbrev pl (p:Pnt):List Int:=[p.1,p.2]
def Yt (cs:List Pnt):Pnt:=cs.getD (Xf (cs.map pl)) (0,0)
noncomputable def mv (s p:Pnt):Pnt:=(p.1+s.1,p.2+s.2)
def shf (cs:List Pnt) (M:List Int):Pnt:=((Yt cs).1-(Yt (cs.map (img M))).1,(Yt cs).2-(Yt (cs.map (img M))).2)
noncomputable def Xe (cs:List Pnt) (q:Pnt):Option Nat:=cs.findIdx? fun c=>decide (c=q)
def ordB (cs:List Pnt) (M:List Int):List (Option Nat):=cs.map fun p=>Xe cs (mv (shf cs M) (img M p))
noncomputable def oV:Option Nat→V
 | some i=>.int i
 | none=>.non
noncomputable abbrev kI (ns:List Int):List Key:=ns.map Sum.inl
theorem kI_V (ns:List Int):(kI ns).map kV=ns.map V.int:=by rw [n74_];rfl
abbrev kp (p:Pnt):List Key:=kI (pl p)
noncomputable def numD (cs:List Pnt):List (List Key×V):=cs.zipIdx.map fun (p,i)=>(kp p,V.int i)
theorem Zqf {a b:List Int} (h:kI a=kI b):a=b:=(List.map_inj_right (fun _ _ h=>by injection h)).mp h
theorem Ztk {p q:Pnt} (h:kp p=kp q):p=q:=by
 have:=Zqf h
 simp only [pl,List.cons.injEq,and_true] at this;exact Prod.ext this.1 this.2
theorem Zlm (q:Pnt):∀ (cs:List Pnt) (k:Nat),valV ((cs.zipIdx k).map fun (p,i)=>(kp p,V.int (i:Nat))) (kp q)=(Xe cs q).map fun i=>V.int ((i+k:Nat):Int)
 | [],k=>rfl
 | c :: cs,k=>by
   rw [List.zipIdx_cons,n46_];unfold Xe;rw [List.findIdx?_cons]
   by_cases e:c=q
   · subst e;rw [Zbr rfl,n24_ rfl]
     simp
   · rw [Zby (fun z=>e (Ztk z)),n25_ e,Zlm q cs (k+1)];unfold Xe;simp only [n21_,if_false,Option.map_map]
     congr 1
     funext i
     show V.int ((i+(k+1):Nat):Int)=V.int ((i+1+k:Nat):Int)
     rw [show i+(k+1)=i+1+k by omega]
theorem Zjx (cs:List Pnt) (q:Pnt):valV (numD cs) (kp q)=(Xe cs q).map fun i=>V.int (i:Nat):=by
 have:=Zlm q cs 0
 unfold numD
 simpa using this
theorem Zqu {cs:List Pnt} (nd:cs.Nodup) {p:Pnt} (e:cs[i]? = some p):putK (numD (cs.take i)) (kp p) (.int i)=numD (cs.take (i+1)):=by
 have hi:i<cs.length:=(n19_.mp e).1
 have en:Xe (cs.take i) p=none:=by
  unfold Xe;rw [List.findIdx?_eq_none_iff];intro x hx;obtain ⟨j,hj,ej⟩:=n37_ hx;rw [n47_] at hj;rw [List.getElem_take] at ej;refine n25_ fun z=>?_;have e2:cs[i]=p:=by rw [n1_ hi] at e;exact Option.some.inj e
  have:=(n66_ nd).mp ((ej.trans z).trans e2.symm)
  omega
 have ea:((numD (cs.take i)).any fun kv=>decide (kv.1=kp p))=false:=by rw [Ze5,Zjx,en];rfl
 unfold putK;rw [if_neg (by rw [ea];simp)];unfold numD;rw [List.take_succ,e,n75_,List.zipIdx_append,List.map_append];simp only [List.zipIdx_cons,List.zipIdx_nil,n46_,List.map_nil,n47_];rw [Nat.zero_add,Nat.min_eq_left (Nat.le_of_lt hi)]
theorem Zoq (cs:List Pnt):(numD cs).length=cs.length:=by unfold numD;rw [n5_,List.length_zipIdx]
theorem Zum {J:It} {tk tv:TE} {σ0:St} {Q:VK} (Pv:Nat→St→Hp→Prop) (h0:Pv 0 σ0 (upd H D (.dT [])))
 (hg:∀ i σ H,i<n→Pv i σ H→J.go i H) (hs:∀ σ H,Pv n σ H→J.stop n H)
 (hb:∀ i x σ H2 H3,i<n→J.yld i H2 x H3→Pv i σ H2→g x σ H3 fun σ4 H4=>tk σ4 H4 fun k H5=>tv σ4 H5 fun y H6=>∃ kvs key b,H6 D=some (.dT kvs)∧k=.ref b∧H6 b=some (.tup (key.map kV))∧kvs.length<sizeLine∧∃ m',m'<n-i∧LcN n Pv (i+1) m' σ4 (upd H6 D (.dT (putK kvs key y))))
 (hd:∀ σ H,Pv n σ H→Q (.ref D) H):DcGo J g tk tv σ0 H D Q:=by
 refine ⟨LcN n Pv,⟨_,n42_ _,rfl,h0⟩,?_⟩;rintro i m σ2 H2 ⟨hi,rfl,p⟩
 by_cases hlt:i<n
 · exact .inr ⟨hg i σ2 H2 hlt p,fun x H3 y=>hb i x σ2 H2 H3 hlt y p⟩
 · have e:i=n:=by omega
   subst e;exact .inl ⟨hs _ _ p,hd _ _ p⟩
noncomputable def srtI (ns:List Int):List Int:=ns.mergeSort (fun a b=>decide (a≤b))
theorem Zlf (ns:List Int):(srtI ns).Perm ns:=List.mergeSort_perm _ _
theorem Zq3 (ns:List Int):(srtI ns).Pairwise (·≤·):=by
 have:=List.pairwise_mergeSort (le:=fun a b:Int=>decide (a≤b)) (fun a b c h1 h2=>n24_ (Int.le_trans (n35_ h1) (n35_ h2))) (fun a b=>by
  rcases Int.le_total a b with h|h
  · rw [n24_ h];rfl
  · rw [n24_ h];simp) ns
 exact this.imp fun h=>n35_ h
theorem Zih {ms:List Int} (h:ms.Perm ns) (p:ms.Pairwise (·≤·)):ms=srtI ns:=lks_uniq (h.trans (Zlf ns).symm) p (Zq3 ns)
noncomputable def dP (P:Pl):List (List Key×V):=(P.ps.map kI).zip (P.ts.map V.int)
theorem Zgo:∀ (l acc:List (List Key×V)),((acc++l).map (·.1)).Nodup→Zbw acc l=acc++l
 | [],acc,_=>by unfold Zbw;simp
 | (k,v) :: l,acc,h=>by
   have e:putK acc k v=acc++[(k,v)]:=by
    unfold putK;rw [if_neg];intro z;obtain ⟨x,hx,e⟩:=List.any_eq_true.mp z;rw [List.map_append,List.nodup_append] at h;exact h.2.2 _ (List.mem_map_of_mem hx) k (by simp) (n35_ e)
   show Zbw (putK acc k v) l=_
   rw [e,Zgo l (acc++[(k,v)]) (by rw [n28_];exact h),n28_];rfl
theorem Zt3 {a b:List Int} (h:HT.lexLt a b=true):a≠b:=fun z=>by rw [z,Zab] at h;cases h
theorem Zl7 {ks:List (List Int)} (hm:∀ k∈ks,k.length=m) (h:∀ i:Nat,i+1<ks.length→HT.lexLt (ks.getD i []) (ks.getD (i+1) [])=true):∀ (d i:Nat),i+d+1<ks.length→HT.lexLt (ks.getD i []) (ks.getD (i+d+1) [])=true
 | 0,i,hi=>h i hi
 | d+1,i,hi=>by
   have l:∀ j,j<ks.length→(ks.getD j []).length=m:=fun j hj=>by
    have:ks.getD j []=ks[j]:=by simp [n4_,hj]
    rw [this];exact hm _ (n44_ hj)
   exact Zc5 _ _ _ (by rw [l i (by omega),l (i+d+1) (by omega)]) (by rw [l (i+d+1) (by omega),l (i+(d+1)+1) hi]) (Zl7 hm h d i (by omega)) (h (i+d+1) (by omega))
theorem PlOk.pnd {P:Pl} (ok:PlOk P):P.ps.Nodup:=by
 rw [n48_,n77_];intro i j hi hj hij
 have:=Zl7 (m:=3) (fun k hk=>(ok.pc k hk).len) ok.rise (j-i-1) i (by omega)
 rw [show i+(j-i-1)+1=j by omega] at this;have e:∀ n (h:n<P.ps.length),P.ps.getD n []=P.ps[n]:=fun n h=>by simp [n4_,h]
 rw [e i hi,e j hj] at this;exact Zt3 this
theorem Zgt {ks:List (List Int)} (h:ks.Nodup):(ks.map kI).Nodup:=by
 rw [n48_] at h ⊢;exact List.pairwise_map.mpr (h.imp fun ne z=>ne (Zqf z))
theorem Zne {P:Pl} (ok:PlOk P):(dP P).map (·.1)=P.ps.map kI:=by
 unfold dP;rw [List.map_fst_zip];rw [n5_,n5_,ok.t1];exact n7_ _
theorem Zqc {P:Pl} (ok:PlOk P):Zbw [] (dP P)=dP P:=by
 rw [Zgo _ _ (by rw [n65_,Zne ok];exact Zgt ok.pnd)];rfl
def Zb9 (os:List Nat) (p:List Int):List Int:=srtI (p.map fun c=>((os.getD c.toNat 0:Nat):Int))
def Zbb (P:Pl) (os:List Nat):Bool:=(P.ps.zip P.ts).all fun x=>decide (valV (dP P) (kI (Zb9 os x.1))=some (V.int x.2))
noncomputable def full (l:List (Option Nat)):Option (List Nat):=if l.all Option.isSome then some (l.map (·.getD 0)) else none
def tOne (P:Pl) (M:List Int):Option (List Int×List Int):=(full (ordB P.cs M)).bind fun os=>if Zbb P os then some (os.map fun i=>((i:Nat):Int),M) else none
def Xj (P:Pl):List (List Int×List Int):=MATS.filterMap (tOne P)
theorem Zv2 (l:List (Option Nat)):inV .non (l.map oV) = !l.all Option.isSome:=by
 unfold inV
 induction l with
 | nil=>rfl
 | cons x l ih =>
   rw [n46_,List.any_cons,ih,n60_];cases x<;>rfl
theorem Zq8 (l:List (Option Nat)):(l.map oV).all Zft=true:=by
 rw [List.all_map];exact n32_.mpr fun x _=>by cases x<;>rfl
theorem Zq2 {l:List (Option Nat)} (h:l.all Option.isSome=true):full l=some (l.map (·.getD 0))∧l.map oV=(l.map (·.getD 0)).map fun i=>V.int ((i:Nat):Int):=by
 refine ⟨if_pos h,?_⟩;rw [n74_];refine List.map_congr_left fun x hx=>?_
 have:=n32_.mp h x hx
 cases x with
 | none=>cases this
 | some i=>rfl
theorem Zfb (cs:List Pnt) (M:List Int):(ordB cs M).length=cs.length:=by unfold ordB;rw [n5_]
theorem Zcz {P:Pl} {x:List Int×List Int} (h:tOne P M=some x):x.1.length=P.cs.length∧x.2=M:=by
 unfold tOne at h;obtain ⟨os,h1,h2⟩:=Option.bind_eq_some_iff.mp h;unfold full at h1;split at h1
 · cases h1
   split at h2
   · cases h2
     exact ⟨by rw [n5_,n5_,Zfb],rfl⟩
   · cases h2
 · cases h1
theorem Zmp:∀ M∈MATS,M.length=4∧∀ m∈M,m.natAbs≤1:=by decide
theorem Zro:MATS.Nodup:=by decide
theorem Zr6 {P:Pl}:∀ (Ms:List (List Int)),Ms.Nodup→(Ms.filterMap (tOne P)).Nodup
 | [],_=>.nil
 | M :: Ms,h=>by
   have ih:=Zr6 (P:=P) Ms (n64_.mp h).2;rw [List.filterMap_cons];split
   · exact ih
   · rename_i x e
     refine n64_.mpr ⟨fun hm=>?_,ih⟩;obtain ⟨M',hM,e'⟩:=n62_.mp hm
     have:=(Zcz e).2.symm.trans (Zcz e').2
     exact (n64_.mp h).1 (this ▸ hM)
theorem Zm1 {P:Pl}:∀ x∈Xj P,x.1.length=P.cs.length∧x.2.length=4:=fun x hx=>by
 obtain ⟨M,hM,e⟩:=n62_.mp hx;obtain ⟨e1,e2⟩:=Zcz e;exact ⟨e1,by rw [e2];exact (Zmp M hM).1⟩
def IsTk (K:PySem.W.Frag) (H:Hp) (v:V) (x:List Int×List Int):Prop:=∃ t a b,v=.ref t∧H t=some (.tup [.ref a,.ref b])∧H a=some (.tup (x.1.map V.int))∧KTu K b (x.2.map V.int)
theorem IsTk.tk {K:PySem.W.Frag} {x:List Int×List Int} (t:Tk H H') (h:IsTk K H v x):IsTk K H' v x:=let ⟨p,a,b,e,h1,h2,h3⟩:=h;⟨p,a,b,e,t _ _ h1,t _ _ h2,h3⟩
theorem IsTk.tn {K:PySem.W.Frag} {x:List Int×List Int} (h:IsTk K H v x):IsTn K H v x:=let ⟨p,a,b,e,h1,h2,h3⟩:=h;⟨p,a,b,e,SqT.of h1,SqT.of h2,h3.sq⟩
theorem al_q {R:V→α→Prop} {us:List V} {xs:List α} {d:α} (a:Al R us xs) {q:List Nat} (hq:∀ i∈q,i<xs.length):Al R (q.map fun i=>us.getD i .non) (q.map fun i=>xs.getD i d):=by
 refine ⟨by simp,fun j v x e1 e2=>?_⟩;rw [n6_] at e1 e2;obtain ⟨i,ei,rfl⟩:=n16_.mp e1;rw [ei] at e2;cases e2
 have hi:=hq i (n10_ ei);have l1:=a.1;show R (us.getD i .non) (xs.getD i d)
 rw [n4_,n4_,n1_ (show i<us.length by omega),n1_ hi];exact a.2 i _ _ (n1_ _) (n1_ _)
theorem Zgs {xs:List α} {d:α} {q:List Nat} (h:q.Perm (List.range xs.length)):(q.map fun i=>xs.getD i d).Perm xs:=by
 refine (h.map _).trans (.of_eq ?_);refine List.ext_getElem (by simp) fun i h1 h2=>?_;simp [n4_,h2]
def MSRT:List (List Int):=[[-1,0,0,-1],[-1,0,0,1],[0,-1,-1,0],[0,-1,1,0],[0,1,-1,0],[0,1,1,0],[1,0,0,-1],[1,0,0,1]]
def MRAW:List (List Int):=[[1,0,0,1],[1,0,0,-1],[0,1,1,0],[0,1,-1,0],[-1,0,0,1],[-1,0,0,-1],[0,-1,1,0],[0,-1,-1,0]]
theorem Zod:MSRT.Perm MRAW:=by decide
theorem Zdc:MSRT.Perm MATS:=by decide
theorem Zq1:MSRT.Pairwise (fun a b=>HT.lexLt a b=true):=by decide
theorem Zrh:MRAW.Nodup:=by decide
theorem Zkb {lt:α→α→Bool} (irr:∀ a,lt a a=false):∀ {xs ys:List α},(∀ a∈xs,∀ b∈xs,∀ c∈xs,lt a b=true→lt b c=true→lt a c=true)→xs.Perm ys→xs.Pairwise (fun a b=>lt a b=true)→ys.Pairwise (fun a b=>lt a b=true)→xs=ys
 | [],ys,_,p,_,_=>by rw [List.nil_perm.mp p]
 | x :: xs,[],_,p,_,_=>by have:=p.length_eq;simp at this
 | x :: xs,y :: ys,tr,p,h1,h2=>by
   have e:x=y:=by
    have mx:x∈y :: ys:=p.mem_iff.mp (by simp);have my:y∈x :: xs:=p.mem_iff.mpr (by simp)
    rcases n12_.mp mx with e|mx
    · exact e
    · rcases n12_.mp my with e|my
      · exact e.symm
      · have l1:=(List.pairwise_cons.mp h2).1 x mx;have l2:=(List.pairwise_cons.mp h1).1 y my
        have:=tr x (by simp) y (n17_ _ my) x (by simp) l2 l1
        rw [irr] at this;cases this
   subst e;rw [Zkb irr (fun a ha b hb c hc=>tr a (n17_ _ ha) b (n17_ _ hb) c (n17_ _ hc)) ((List.perm_cons x).mp p) (List.pairwise_cons.mp h1).2 (List.pairwise_cons.mp h2).2]
theorem Zjh {xs ys:List (List Int)} (hm:∀ k∈xs,k.length=m) (p:xs.Perm ys) (h1:xs.Pairwise (fun a b=>HT.lexLt a b=true)) (h2:ys.Pairwise (fun a b=>HT.lexLt a b=true)):xs=ys :=
 Zkb (lt:=HT.lexLt) Zab (fun a ha b hb c hc=>Zc5 a b c (by rw [hm a ha,hm b hb]) (by rw [hm b hb,hm c hc])) p h1 h2
theorem Zlj {kl:List (List Int)} (hm:∀ k∈kl,k.length=m):∀ n,n<kl.length→∀ i,i≤n→HT.lexLt (kl.getD i []) (kl.getD (argBest (fun i j=>HT.lexLt (kl.getD i []) (kl.getD j [])) n) [])=false
 | 0,h,i,hi=>by
   have:i=0:=by omega
   subst this;exact Zab _
 | n+1,h,i,hi=>by
   have e:∀ j,j<kl.length→(kl.getD j []).length=m:=fun j hj=>by
    have:kl.getD j []=kl[j]:=by simp [n4_,hj]
    rw [this];exact hm _ (n44_ hj)
   have bl:=Za7 (fun i j=>HT.lexLt (kl.getD i []) (kl.getD j [])) n;have ih:=Zlj hm n (by omega);unfold argBest;split
   · rename_i hb
     by_cases hi':i=n+1
     · subst hi';exact Zab _
     · have:=ih i (by omega)
       rw [n69_];intro z;rw [n69_] at this;exact this (Zc5 _ _ _ (by rw [e i (by omega),e (n+1) h]) (by rw [e (n+1) h,e _ (by omega)]) z hb)
   · rename_i hb
     by_cases hi':i=n+1
     · subst hi';simpa using hb
     · exact ih i (by omega)
theorem Zjt:∀ (ps:List Pnt),∀ k∈ps.map pl,k.length=2:=fun ps k hk=>by
 obtain ⟨p,_,rfl⟩:=n40_.mp hk;rfl
theorem Zc8 {ps:List Pnt} (h:0<ps.length):Yt ps∈ps:=by
 have l:=Za7 (fun i j=>HT.lexLt ((ps.map pl).getD i []) ((ps.map pl).getD j [])) ((ps.map pl).length-1);rw [n5_] at l;unfold Yt Xf;rw [n5_,n4_,n1_ (by omega)];exact n44_ _
theorem Zdr {ps:List Pnt} {p:Pnt} (h:p∈ps):HT.lexLt (pl p) (pl (Yt ps))=false:=by
 obtain ⟨i,hi,rfl⟩:=n37_ h;have l:=Za7 (fun i j=>HT.lexLt ((ps.map pl).getD i []) ((ps.map pl).getD j [])) ((ps.map pl).length-1)
 have:=Zlj (Zjt ps) ((ps.map pl).length-1) (by rw [n5_];omega) i (by rw [n5_];omega)
 rw [n5_] at l this;have e:∀ j,j<ps.length→(ps.map pl).getD j []=pl (ps.getD j (0,0)):=fun j hj=>by simp [n4_,hj]
 rw [e i hi,e _ (by omega)] at this;unfold Yt Xf;rw [n5_];rw [show ps.getD i (0,0)=ps[i] by simp [n4_,hi]] at this;exact this
theorem Zms {p q:Pnt} (h:pl p=pl q):p=q:=by
 simp only [pl,List.cons.injEq,and_true] at h;exact Prod.ext h.1 h.2
theorem Zj1 {ps:List Pnt} {p:Pnt} (h:p∈ps) (hm:∀ q∈ps,HT.lexLt (pl q) (pl p)=false):Yt ps=p:=by
 have h0:0<ps.length:=List.length_pos_of_mem h
 by_cases e:Yt ps=p
 · exact e
 · have a:=Zda (pl (Yt ps)) (pl p) rfl (fun z=>e (Zms z));rw [hm _ (Zc8 h0),Zdr h] at a;cases a
theorem Zt7 (s p q:Pnt):HT.lexLt (pl (mv s p)) (pl (mv s q))=HT.lexLt (pl p) (pl q):=by
 simp only [pl,mv,HT.lexLt_cons];have e1:(p.1+s.1=q.1+s.1)=(p.1=q.1):=by simp
 have e2:(p.2+s.2=q.2+s.2)=(p.2=q.2):=by simp
 have e3:(p.1+s.1<q.1+s.1)=(p.1<q.1):=by simp
 have e4:(p.2+s.2<q.2+s.2)=(p.2<q.2):=by simp
 simp only [e1,e2,e3,e4]
theorem Zpj {ps:List Pnt} (s:Pnt) (h:0<ps.length):Yt (ps.map (mv s))=mv s (Yt ps):=by
 refine Zj1 (List.mem_map_of_mem (Zc8 h)) fun q hq=>?_;obtain ⟨p,hp,rfl⟩:=n40_.mp hq;rw [Zt7];exact Zdr hp
theorem Zkt {ps qs:List Pnt} (p:ps.Perm qs) (h:0<ps.length):Yt ps=Yt qs :=
 (Zj1 (p.mem_iff.mp (Zc8 h)) fun q hq=>Zdr (p.mem_iff.mpr hq)).symm
theorem Zpa {cs:List Pnt} {s:Pnt} (h:0<cs.length) (p:((cs.map (img M)).map (mv s)).Perm cs):s=shf cs M:=by
 have h':0<(cs.map (img M)).length:=by simpa using h
 have e:=(Zpj s h').symm.trans (Zkt p (by simpa using h));unfold shf;rw [← e];unfold mv;refine Prod.ext ?_ ?_<;>(simp only [];omega)
theorem Zdi [DecidableEq α]:∀ (xs ys:List α),xs.Nodup→(∀ x∈xs,x∈ys)→ys.length≤xs.length→xs.Perm ys
 | [],ys,_,_,hl=>by
   have:ys=[]:=List.length_eq_zero_iff.mp (by simpa using hl)
   subst this;exact .nil
 | x :: xs,ys,nd,sub,hl=>by
   have hx:x∈ys:=sub x (by simp);have p:=List.perm_cons_erase hx
   have hl':(ys.erase x).length≤xs.length:=by
    have:=p.length_eq
    simp only [n15_] at this hl;omega
   refine (List.Perm.cons x (Zdi xs (ys.erase x) (n64_.mp nd).2 (fun y hy=>?_) hl')).trans p.symm;have ne:y≠x:=fun z=>(n64_.mp nd).1 (z ▸ hy);exact (List.mem_erase_of_ne ne).mpr (sub y (n17_ _ hy))
def mvd (cs:List Pnt) (M:List Int) (s:Pnt):List Pnt:=(cs.map (img M)).map (mv s)
theorem Zrc (h:M∈MATS) {p q:Pnt} (e:img M p=img M q):p=q:=by
 have e1:(img M p).1=(img M q).1:=by rw [e]
 have e2:(img M p).2=(img M q).2:=by rw [e]
 simp only [MATS,n12_,n13_,or_false] at h
 rcases h with rfl|rfl|rfl|rfl|rfl|rfl|rfl|rfl<;>(simp only [img,gz,List.getD_cons_zero,List.getD_cons_succ] at e1 e2;refine Prod.ext ?_ ?_<;>omega)
theorem Zss {s p q:Pnt} (e:mv s p=mv s q):p=q:=by
 have e1:p.1+s.1=q.1+s.1:=congrArg Prod.fst e;have e2:p.2+s.2=q.2+s.2:=congrArg Prod.snd e;exact Prod.ext (by omega) (by omega)
theorem Zp2 {cs:List Pnt} {s:Pnt} (nd:cs.Nodup) (h:M∈MATS):(mvd cs M s).Nodup:=by
 unfold mvd;rw [n48_] at nd ⊢;exact List.pairwise_map.mpr (List.pairwise_map.mpr (nd.imp fun ne z=>ne (Zrc h (Zss z))))
theorem Zf4 {cs:List Pnt} {q:Pnt}:(Xe cs q).isSome=true↔q∈cs:=by
 unfold Xe;rw [List.findIdx?_isSome,List.any_eq_true];exact ⟨fun ⟨x,hx,e⟩=>(n35_ e) ▸ hx,fun h=>⟨q,h,n24_ rfl⟩⟩
theorem Zoz {cs:List Pnt}:(ordB cs M).all Option.isSome=true↔∀ q∈mvd cs M (shf cs M),q∈cs:=by
 unfold ordB mvd;rw [n74_,List.all_map,n32_];constructor
 · intro h q hq;obtain ⟨p,hp,rfl⟩:=n40_.mp hq;exact Zf4.mp (h p hp)
 · intro h p hp;exact Zf4.mpr (h _ (List.mem_map_of_mem hp))
theorem Zg6 {cs:List Pnt} (nd:cs.Nodup) (h:M∈MATS):(ordB cs M).all Option.isSome=true↔(mvd cs M (shf cs M)).Perm cs:=by
 rw [Zoz];constructor
 · intro a;exact Zdi _ _ (Zp2 nd h) a (by unfold mvd;simp)
 · intro p q hq;exact p.mem_iff.mp hq
def shi (cs:List Pnt) (M:List Int) (p:Pnt):Pnt:=(p.1-(img M (cs.getD 0 (0,0))).1,p.2-(img M (cs.getD 0 (0,0))).2)
theorem Zr4 {cs:List Pnt} (h0:0<cs.length) (nd:cs.Nodup) (h:M∈MATS) (no:∀ p∈cs,¬ (mvd cs M (shi cs M p)).Perm cs):full (ordB cs M)=none:=by
 unfold full;rw [if_neg];intro a;have p:=(Zg6 nd h).mp a;have e0:cs.getD 0 (0,0)=cs[0]:=by simp [n4_,h0]
 have m0:mv (shf cs M) (img M (cs.getD 0 (0,0)))∈cs:=p.mem_iff.mp (by
  unfold mvd;exact List.mem_map_of_mem (List.mem_map_of_mem (by rw [e0];exact n44_ h0)))
 refine no _ m0 ?_
 have:shi cs M (mv (shf cs M) (img M (cs.getD 0 (0,0))))=shf cs M:=by
  unfold shi mv;refine Prod.ext ?_ ?_<;>(simp only [];omega)
 rw [this];exact p
theorem some_of {cs:List Pnt} {s:Pnt} (h0:0<cs.length) (nd:cs.Nodup) (h:M∈MATS) (p:(mvd cs M s).Perm cs):full (ordB cs M)=some ((mvd cs M s).map fun q=>(Xe cs q).getD 0)∧∀ q∈mvd cs M s,∃ j:Nat,Xe cs q=some j∧cs[j]? = some q∧∀ m,m<j→cs[m]?≠some q:=by
 have e:=Zpa h0 p;subst e;have a:=(Zg6 nd h).mpr p;refine ⟨?_,fun q hq=>?_⟩
 · unfold full;rw [if_pos a];unfold ordB mvd;rw [n74_,n74_,n74_];rfl
 · have:=Zf4.mpr (p.mem_iff.mp hq)
   obtain ⟨j,ej⟩:=Option.isSome_iff_exists.mp this;refine ⟨j,ej,?_⟩;unfold Xe at ej;obtain ⟨hj,h1,h2⟩:=List.findIdx?_eq_some_iff_getElem.mp ej;refine ⟨?_,fun m hm z=>?_⟩
   · rw [n1_ hj,n35_ h1]
   · have hm':m<cs.length:=by omega
     rw [n1_ hm'] at z
     have:=h2 m hm
     simp at this;exact this (Option.some.inj z)
theorem Zip (cs:List Pnt) (M:List Int) (s:Pnt):(mvd cs M s).length=cs.length:=by unfold mvd;simp
theorem Znb {xs ys:List Pnt} {as bs:List (List Int)} (pa:as.Perm (xs.map pl)) (pb:bs.Perm (ys.map pl)) (la:as.Pairwise (fun a b=>HT.lexLt a b=true)) (lb:bs.Pairwise (fun a b=>HT.lexLt a b=true)):as=bs↔xs.Perm ys:=by
 have un:∀ (xs ys:List Pnt),(xs.map pl).Perm (ys.map pl)→xs.Perm ys:=fun xs ys p=>by
  have:=p.map (fun k:List Int=>((k.getD 0 0,k.getD 1 0):Pnt))
  rw [n74_,n74_] at this;have e:((fun k:List Int=>((k.getD 0 0,k.getD 1 0):Pnt)) ∘ pl)=id:=by funext p;rfl
  rw [e,List.map_id,List.map_id] at this;exact this
 constructor
 · intro e;subst e;exact un _ _ (pa.symm.trans pb)
 · intro p;refine Zjh (m:=2) (fun k hk=>Zjt xs k (pa.mem_iff.mp hk)) (pa.trans ((p.map pl).trans pb.symm)) la lb
end L2
namespace L2
open PySem PySem.Spec PyProof.Rows PySem.W
variable {k:Nat}
theorem Ze0:∀ (ns:List Int),Zr (ns.map PyData.int)=2*ns.length
 | []=>rfl
 | n :: ns=>by
   rw [n46_];show 1+1+Zr (ns.map PyData.int)=_
   rw [Ze0 ns,n15_];omega
theorem Ze2:∀ (ns:List Int),PyData.depthAll (ns.map PyData.int)≤1
 | []=>by simp [PyData.depthAll]
 | n :: ns=>by
   have:=Ze2 ns
   simp only [n46_,PyData.depthAll,PyData.depth];omega
section
variable {X:Cx} {pins:List (Addr×Obj)} {σ:St} {H:Hp} {s:Shared}
end
section
variable {X:Cx}
def SmT (ts:List (List Int×List Int)):Prop:=ts.length≤8∧∀ x∈ts,x.1.length≤30∧x.2.length=4∧(∀ n∈x.1,n.natAbs<2^64)∧∀ n∈x.2,n.natAbs<2^64
end
variable {α:Type} {D a:Addr} {X:Cx} {H:Hp} {ns:List Int} {vs:List V} {m:Nat} {u0 u1:Option V} {rest:St} {te:TE} {tt:TT} {v:V}
theorem Zsw (K:PySem.W.Frag) (hK:X.K=K) {o e:Expr} {es:List Expr} {to:TE} {t:TA} {name:Str} {apos cpos:Pos} {T:String} {r:V→List V→Hp→VK→Prop} (h:PE X (.Call (.Attribute o name apos) (e :: es) [] cpos) (tBM X.K T r to t)):PE X (.Call (.Attribute o name apos) (e :: es) [] cpos) (tBM K T r to t):=hK ▸ h
theorem Zu0 {k:SK} {K:PySem.W.Frag} {Q:VK} (R:Hp→V→α→Prop) (hR:∀ H1 H2 v x,Tk H1 H2→R H1 v x→R H2 v x) (f:Nat→Option α) (hz:vs.length≤1000) (hD:H D=none) (ha:k.At H a vs)
 (hp:∀ (i:Nat) (w:V),vs[i]? = some w→∃ p x y,w=.ref p∧H p=some (.tup [x,y]))
 (hs:∀ (i:Nat) (p:Addr) (x y:V) (H2:Hp) (C:V→Hp→Prop) (N:Hp→Prop),vs[i]? = some (.ref p)→H p=some (.tup [x,y])→Same H H2→(∀ y H5 z,Same H2 H5→f i=some z→R H5 y z→C y H5)→(∀ H5,Same H2 H5→f i=none→N H5)→tt (some x :: some y :: rest) H2 fun b H5=>if b=true then te (some x :: some y :: rest) H5 C else N H5)
 (hd:∀ H2 us,Same H H2→H2 D=some (.lst us)→Al (R H2) us ((List.range vs.length).filterMap f)→Q (.ref D) H2):LcGo (k.Itk K a) (gTup K 2 (Y6 (Yr 0) (Y6 (Yr 1) gNil))) tt te (u0 :: u1 :: rest) H D Q:=by
 refine Zjw (n:=vs.length) (fun i σ H2=>Same H H2∧(∃ u u',σ=u :: u' :: rest)∧∃ us,H2 D=some (.lst us)∧us.length≤i∧Al (R H2) us ((List.range i).filterMap f)) ⟨Same.new hD,⟨_,_,rfl⟩,[],Zc,n7_ _,.nil⟩ (fun i σ H2 hi p=>Zmj (ha.same p.1) hi) (fun σ H2 p=>Zfv (ha.same p.1) (n7_ _)) (fun i x σ2 H2 H3 hi y p=>?_) (fun σ2 H2 p=>?_)
 · obtain ⟨s2,⟨u,u',rfl⟩,us,e2,l2,a2⟩:=p;obtain ⟨rfl,ex⟩:=Zh3 (ha.same s2) y
   have rg:(List.range (i+1)).filterMap f=(List.range i).filterMap f++(f i).toList:=by
    rw [List.range_succ,List.filterMap_append];cases h:f i<;>simp [h]
   obtain ⟨p,x1,y1,rfl,e3⟩:=hp i x ex;refine ⟨p,[x1,y1],rfl,SqT.of (s2 _ _ e3),rfl,x1,[y1],rfl,y1,[],rfl,rfl,?_⟩;refine hs i p x1 y1 H3 _ _ ex e3 s2 (fun y H5 z s5 ef r=>?_) (fun H5 s5 ef=>?_)
   · have sD:∀ us',Tk H5 (upd H5 D (.lst us')):=fun us'=>Tk.upd_lst (s5 _ _ e2);refine ⟨us,s5 _ _ e2,by rw [sizeLine_eq];omega,_,n14_ (Nat.sub_succ_lt_self _ _ hi) (n7_ _),hi,rfl,fun b o e=>?_,⟨_,_,rfl⟩,_,Zc,by simp;omega,?_⟩
     · rw [Zj (Zm e hD)];exact s5 _ _ (s2 _ _ e)
     · rw [rg,ef];exact (a2.imp fun v x r=>hR _ _ v x (s5.tk.trans (sD _)) r).snoc (hR _ _ _ _ (sD _) r)
   · refine ⟨_,n14_ (Nat.sub_succ_lt_self _ _ hi) (n7_ _),hi,rfl,s2.trans s5,⟨_,_,rfl⟩,us,s5 _ _ e2,by omega,?_⟩;rw [rg,ef]
     simpa using a2.imp fun v x r=>hR _ _ v x s5.tk r
 · obtain ⟨s2,⟨u,u',rfl⟩,us,e2,l2,a2⟩:=p;exact hd H2 us s2 e2 a2
noncomputable def datP (P:Pl):PyData:=.tuple [.tuple (P.cs.map fun p=>.tuple ((pl p).map .int)),.tuple (P.ps.map fun p=>.tuple (p.map .int)),.tuple (P.ts.map .int),.tuple ([P.l,P.m].map .int)]
section
variable {N:Addr→Prop} {H:Hp}
theorem Za9:∀ {ns:List Int},(∀ n∈ns,n.natAbs<2^64)→Dts N H 64 (ns.map V.int) (ns.map .int)
 | [],_=>.nil
 | n :: ns,h=>.cons (.int (h n (by simp))) (Za9 fun m hm=>h m (n17_ _ hm))
theorem dt_I (h:IsI H v ns) (hb:∀ n∈ns,n.natAbs<2^64):Dt N H 64 v (.tuple (ns.map .int)):=by
 obtain ⟨a,rfl,e⟩:=h;exact .tup e (Za9 hb)
theorem Zn0 {R:V→α→Prop} {f:α→PyData}:∀ {us:List V} {xs:List α},Al R us xs→(∀ v x,x∈xs→R v x→Dt N H 64 v (f x))→Dts N H 64 us (xs.map f)
 | [],xs,al,_=>by
   have:xs=[]:=List.length_eq_zero_iff.mp al.1.symm
   subst this;exact .nil
 | u :: us,xs,al,hf=>by
   match xs,al with
   | [],al=>exact absurd al.1 (by simp)
   | x :: xs,al=>exact .cons (hf u x (by simp) (al.2 0 u x rfl rfl)) (Zn0 ⟨by simpa using al.1,fun i v y e1 e2=>al.2 (i+1) v y e1 e2⟩ fun v y hy r=>hf v y (n17_ _ hy) r)
theorem dt_P {P:Pl} (h:IsPl H v P) (ok:PlOk P):Dt N H 64 v (datP P):=by
 obtain ⟨a,c,p,t,s,rfl,e,⟨ca,cv,rfl,hc,cal⟩,⟨pa,pv,rfl,hp,pal⟩,ht,hs⟩:=h;have c30:=ok.c30;have big:(1000:Nat)<2^64:=by decide
 refine .tup e (.cons (.tup hc (Zn0 cal fun v x hx r=>dt_I r fun n hn=>?_)) (.cons (.tup hp (Zn0 pal fun v x hx r=>dt_I r fun n hn=>?_)) (.cons (dt_I ht fun n hn=>?_) (.cons (dt_I hs fun n hn=>?_) .nil))))
 · obtain ⟨⟨h1,h2⟩,h3,h4⟩:=ok.nr x hx;simp only [n12_,n13_,or_false] at hn
   rcases hn with rfl|rfl<;>omega
 · have:=(ok.pc x hx).bd n hn
   omega
 · have:=ok.t9 n hn
   omega
 · have l9:=ok.l9;have m9:=ok.m9;simp only [n12_,n13_,or_false] at hn
   rcases hn with rfl|rfl<;>omega
end
theorem Zh4 {f:α→List Int}:∀ {xs:List α},(∀ x∈xs,(f x).length=m)→Zr (xs.map fun x=>PyData.tuple ((f x).map .int))=(2*m+2)*xs.length∧PyData.depthAll (xs.map fun x=>PyData.tuple ((f x).map .int))≤2
 | [],_=>⟨by simp [Zr],by simp [PyData.depthAll]⟩
 | x :: xs,h=>by
   obtain ⟨i1,i2⟩:=Zh4 (xs:=xs) fun y hy=>h y (n17_ _ hy);have d:=Ze2 (f x);have l:=h x (by simp);refine ⟨?_,?_⟩
   · simp only [n46_,Zr,nz,Ze0,i1,n15_,l];rw [Nat.mul_add];omega
   · simp only [n46_,PyData.depthAll,PyData.depth];omega
theorem Ztb {P:Pl} (ok:PlOk P) {ts:List (List Int×List Int)} (pm:ts.Perm (Xj P)):SmT ts:=by
 have tl:(Xj P).length≤8:=n33_ (n70_ _ _) (by decide);refine ⟨by rw [pm.length_eq];exact tl,fun x hx=>?_⟩;have c30:=ok.c30;have big:(1000:Nat)<2^64:=by decide
 have mx:=pm.mem_iff.mp hx;obtain ⟨l1,l2⟩:=Zm1 x mx;obtain ⟨M,hM,e⟩:=n62_.mp mx;refine ⟨by omega,l2,fun n hn=>?_,fun n hn=>?_⟩
 · unfold tOne at e;obtain ⟨os,h1,h2⟩:=Option.bind_eq_some_iff.mp e;split at h2
   · cases h2
     obtain ⟨i,hi,rfl⟩:=n40_.mp hn;unfold full at h1;split at h1
     · cases h1
       obtain ⟨o,ho,rfl⟩:=n40_.mp hi;cases o with
       | none=>show (0:Int).natAbs<_;decide
       | some j =>
         unfold ordB at ho;obtain ⟨p,_,ep⟩:=n40_.mp ho;unfold Xe at ep;obtain ⟨hj,_⟩:=List.findIdx?_eq_some_iff_getElem.mp ep;show ((j:Nat):Int).natAbs<_
         omega
     · cases h1
   · cases h2
 · rw [(Zcz e).2] at hn
   have:=(Zmp M hM).2 n hn
   omega
end L2
namespace L2
open PySem PySem.Spec PyProof.Rows PySem.W
variable {N:List Str}
theorem fsc {P:List Str} {sc:Scope} (h:sc.kind=.function∧sc.isCoroutine=false∧sc.isGenerator=false∧N.Nodup∧N.take P.length=P∧(∀ x∈P,sc.names.lookup x=some .local∨sc.names.lookup x=some .cell)∧∀ y∈sc.names,y.2≠.free):FnScope N P sc:=let ⟨a,b,c,d,e,f,g⟩:=h;⟨a,b,c,d,e,f,g⟩
abbrev lts (d:PyData):List Nat:=d.shown.cps.toList
theorem Zsc {i j:Int} (h:lts (.int i)=lts (.int j)):i=j:=by
 rw [lts,lts,PyData.shown_int,PyData.shown_int,signs_ofString,signs_ofString] at h;have h2:(toString i).toList=(toString j).toList:=(List.map_inj_right fun _ _ e=>Char.toNat_inj.mp e).mp h;rw [Int.toString_eq_repr,Int.toString_eq_repr,Int.repr_eq_if,Int.repr_eq_if] at h2
 have nat:∀ {m n:Nat},m.repr.toList=n.repr.toList→m=n:=fun {m n} e=>by
  rw [Nat.toList_repr,Nat.toList_repr] at e
  have:=congrArg (fun l=>Nat.ofDigitChars 10 l 0) e
  simpa using this
 have no:∀ {m n:Nat},m.repr.toList=("-" ++ n.repr).toList→False:=fun {m n} e=>by
  have:'-'∈m.repr.toList:=by rw [e];simp [String.toList_append]
  rw [Nat.toList_repr] at this;exact absurd (Nat.isDigit_of_mem_toDigits (by decide) (by decide) this) (by decide)
 split at h2<;>split at h2
 · have:=nat h2;omega
 · exact (no h2).elim
 · exact (no h2.symm).elim
 · rw [String.toList_append,String.toList_append] at h2
   have:=nat (List.append_cancel_left h2)
   omega
def Dg (c:Nat):Prop:=c=45∨(48≤c∧c≤57)
theorem Zi3 (i:Int):∀ c∈lts (.int i),Dg c:=fun c hc=>by
 by_cases h:Dg c
 · exact h
 · exact absurd hc (shown_int_free' (by unfold Dg at h;omega) i)
theorem Zsx (i:Int):lts (.int i)≠[]:=fun h=>by
 rw [lts,PyData.shown_int,signs_ofString] at h;have h2:(toString i).toList=[]:=by simpa using h
 rw [Int.toString_eq_repr,Int.repr_eq_if] at h2;split at h2
 · rw [Nat.toList_repr] at h2;exact Nat.toDigits_ne_nil h2
 · rw [String.toList_append] at h2;simp at h2
theorem Zes:∀ (ts:List Str) (k:Nat) (acc:Str),∃ r,(textFrom k acc ts).cps.toList=acc.cps.toList++r
 | [],k,acc=>⟨[],(n71_ _).symm⟩
 | t :: ts,k,acc=>by
   obtain ⟨r,e⟩:=Zes ts (k+1) (acc++(if k>0 then ", " else "" : String)++t);unfold textFrom;rw [e,cps_toList_append,cps_toList_append,n28_,n28_];exact ⟨_,rfl⟩
theorem Zdd (f:Nat→List Nat):∀ (l:List Nat) (acc:Array Nat),∃ r,(l.foldl (fun out c=>out++(f c).toArray) acc).toList=acc.toList++r
 | [],acc=>⟨[],(n71_ _).symm⟩
 | c :: l,acc=>by
   obtain ⟨r,e⟩:=Zdd f l (acc++(f c).toArray);rw [List.foldl_cons,e,Array.toList_append,n28_];exact ⟨_,rfl⟩
theorem Zi6 {a b c:Str} {x:Nat} (h:a.cps.toList=[x]):(a++b++c).cps.toList=x :: (b.cps.toList++c.cps.toList):=by
 rw [cps_toList_append,cps_toList_append,h];rfl
theorem fc (d:PyData):∃ c r,lts d=c :: r∧((∃ i,d=.int i)∧Dg c∨(∃ ds,d=.tuple ds)∧c=40∨(c=78∨c=84∨c=70∨c=39∨c=34∨c=91∨c=123)):=by
 cases d with
 | none=>exact ⟨78,_,rfl,by simp⟩
 | bool b=>cases b<;>exact ⟨_,_,rfl,by simp⟩
 | int i =>
   cases e:lts (.int i) with
   | nil=>exact absurd e (Zsx i)
   | cons c r=>exact ⟨c,r,rfl,.inl ⟨⟨i,rfl⟩,Zi3 i c (by rw [e];simp)⟩⟩
 | str x =>
   obtain ⟨r,e⟩:=Zdd (PySem.Builtin.Str.reprChar (reprQuote x)) x.cps.toList #[reprQuote x]
   have e2:lts (.str x)=reprQuote x :: (r++[reprQuote x]):=by
    show (reprText x).cps.toList=_
    unfold reprText;simp only [Array.toList_push,← Array.foldl_toList];rw [e];rfl
   refine ⟨_,_,e2,.inr (.inr ?_)⟩;unfold reprQuote;split<;>simp
 | list xs =>
   obtain ⟨r,e⟩:=Zes (PyData.shownAll xs) 0 "["
   have e2:lts (.list xs)=91 :: (r++[93]):=by
    show (textFrom 0 "[" (PyData.shownAll xs) ++ "]").cps.toList=_
    rw [cps_toList_append,e];rfl
   exact ⟨_,_,e2,by simp⟩
 | tuple xs=>exact ⟨40,_,Zi6 (a := "(") (b:=Str.join ", " (PyData.shownAll xs)) (c:=((if (PyData.shownAll xs).length == 1 then ",)" else ")" : String):Str)) rfl,.inr (.inl ⟨⟨xs,rfl⟩,rfl⟩)⟩
 | dict kvs=>exact ⟨123,_,Zi6 (a := "{") (b:=Str.join ", " (PyData.shownKv kvs)) (c := "}") rfl,by simp⟩
def Dl (r:List Nat):Prop:=r=[]∨∃ t,r=44 :: t∨r=41 :: t
def Uq (D:PyData):Prop:=∀ d r r',Dl r→Dl r'→lts d++r=lts D++r'→d=D∧r=r'
theorem Zjp:∀ (xs ys r r':List Nat),(∀ c∈xs,Dg c)→(∀ c∈ys,Dg c)→Dl r→Dl r'→xs++r=ys++r'→xs=ys∧r=r'
 | [],[],r,r',_,_,_,_,e=>⟨rfl,e⟩
 | [],y :: ys,r,r',_,hy,hr,_,e=>by
   have:=hy y (by simp)
   rw [n65_] at e
   rcases hr with rfl|⟨t,rfl|rfl⟩<;>simp at e<;>(obtain ⟨rfl,_⟩:=e;unfold Dg at this;omega)
 | x :: xs,[],r,r',hx,_,_,hr,e=>by
   have:=hx x (by simp)
   rw [n65_] at e
   rcases hr with rfl|⟨t,rfl|rfl⟩<;>simp at e<;>(obtain ⟨rfl,_⟩:=e;unfold Dg at this;omega)
 | x :: xs,y :: ys,r,r',hx,hy,hr,hr',e=>by
   injection e with e1 e2
   obtain ⟨h1,h2⟩:=Zjp xs ys r r' (fun c hc=>hx c (n17_ _ hc)) (fun c hc=>hy c (n17_ _ hc)) hr hr' e2;exact ⟨by rw [e1,h1],h2⟩
theorem Zty (i:Int):Uq (.int i):=fun d r r' hr hr' e=>by
 obtain ⟨c,t,e1,h⟩:=fc d;obtain ⟨c',t',e2,h2⟩:=fc (.int i);have hc:c=c':=by rw [e1,e2] at e;injection e
 have dg:Dg c':=Zi3 i c' (by rw [e2];simp)
 rcases h with ⟨⟨j,rfl⟩,_⟩|⟨_,h⟩|h
 · obtain ⟨h1,h2⟩:=Zjp _ _ r r' (Zi3 j) (Zi3 i) hr hr' e;exact ⟨by rw [Zsc h1],h2⟩
 · unfold Dg at dg;omega
 · unfold Dg at dg;omega
noncomputable def tlT:List PyData→List Nat
 | []=>[41]
 | [d]=>lts d++[41]
 | d :: e :: r=>lts d++44 :: 32 :: tlT (e :: r)
def bdT:List PyData→List Nat
 | [d]=>lts d++[44,41]
 | ds=>tlT ds
theorem Znr:∀ (d:PyData) (r:List PyData),(Str.join ", " (PyData.shownAll (d :: r))).cps.toList++[41]=tlT (d :: r)
 | d,[]=>by
   show (d.shown).cps.toList++[41]=_
   rfl
 | d,e :: r=>by
   have:=Znr e r
   show ((d.shown) ++ ", " ++ Str.join ", " (PyData.shownAll (e :: r))).cps.toList++[41]=_
   rw [cps_toList_append,cps_toList_append,n28_,this,n28_];rfl
theorem Zg4 (ds:List PyData):lts (.tuple ds)=40 :: bdT ds:=by
 show (("(" : Str)++Str.join ", " (PyData.shownAll ds)++(if (PyData.shownAll ds).length == 1 then ",)" else ")" : String)).cps.toList=_
 rw [cps_toList_append,cps_toList_append]
 match ds with
 | []=>rfl
 | [d]=>rfl
 | d :: e :: r =>
   have:=Znr d (e :: r)
   show 40 :: ((Str.join ", " (PyData.shownAll (d :: e :: r))).cps.toList++[41])=_
   rw [this];rfl
theorem dl44 {t:List Nat}:Dl (44 :: t):=.inr ⟨t,.inl rfl⟩
theorem dl41 {t:List Nat}:Dl (41 :: t):=.inr ⟨t,.inr rfl⟩
theorem no41 {d:PyData} {r t:List Nat} (e:lts d++r=41 :: t):False:=by
 obtain ⟨c,r',e1,h⟩:=fc d;rw [e1] at e;injection e with e _
 rcases h with ⟨_,h⟩|⟨_,h⟩|h
 · unfold Dg at h;omega
 · omega
 · omega
theorem Ztv:∀ (D:PyData) (Ds:List PyData) (d:PyData) (ds:List PyData) (r r':List Nat),(∀ D'∈D :: Ds,Uq D')→tlT (d :: ds)++r=tlT (D :: Ds)++r'→d :: ds=D :: Ds∧r=r'
 | D,[],d,[],r,r',hU,e=>by
   simp only [tlT,n28_,n72_,n65_] at e;obtain ⟨h1,h2⟩:=hU D (by simp) d _ _ dl41 dl41 e;injection h2 with _ h2
   exact ⟨by rw [h1],h2⟩
 | D,[],d,e' :: ds,r,r',hU,e=>by
   simp only [tlT,n28_,n72_,n65_] at e;obtain ⟨h1,h2⟩:=hU D (by simp) d _ _ dl44 dl41 e;injection h2 with h2 _
   cases h2
 | D,E :: Ds,d,[],r,r',hU,e=>by
   simp only [tlT,n28_,n72_,n65_] at e;obtain ⟨h1,h2⟩:=hU D (by simp) d _ _ dl41 dl44 e;injection h2 with h2 _
   cases h2
 | D,E :: Ds,d,e' :: ds,r,r',hU,e=>by
   simp only [tlT,n28_,n72_,n65_] at e;obtain ⟨h1,h2⟩:=hU D (by simp) d _ _ dl44 dl44 e;injection h2 with _ h2
   injection h2 with _ h2
   obtain ⟨h3,h4⟩:=Ztv E Ds e' ds r r' (fun D' h=>hU D' (n17_ _ h)) h2;exact ⟨by rw [h1,h3],h4⟩
theorem Zjq {Ds:List PyData} (hU:∀ D∈Ds,Uq D):Uq (.tuple Ds):=fun d r r' hr hr' e=>by
 obtain ⟨c,t,e1,h⟩:=fc d;rw [Zg4] at e;have hc:c=40:=by rw [e1] at e;injection e
 rcases h with ⟨_,h⟩|⟨⟨ds,rfl⟩,_⟩|h
 · unfold Dg at h;omega
 · rw [Zg4] at e;injection e with _ e
   replace e:bdT ds++r=bdT Ds++r':=e
   match Ds,ds,hU,e with
   | [],[],_,e=>injection e with _ e;exact ⟨rfl,e⟩
   | [],[d],_,e=>exact (no41 (r:=[44,41]++r) (by rw [← n28_];exact e)).elim
   | [],d :: d' :: ds,_,e=>exact (no41 (r:=44 :: 32 :: tlT (d' :: ds)++r) (by rw [← n28_];exact e)).elim
   | [D],[],_,e=>exact (no41 (r:=[44,41]++r') (by rw [← n28_];exact e.symm)).elim
   | D :: D' :: Ds,[],_,e=>exact (no41 (r:=44 :: 32 :: tlT (D' :: Ds)++r') (by rw [← n28_];exact e.symm)).elim
   | [D],[d],hU,e =>
     simp only [bdT,n28_,n72_,n65_] at e;obtain ⟨h1,h2⟩:=hU D (by simp) d _ _ dl44 dl44 e;injection h2 with _ h2
     injection h2 with _ h2
     exact ⟨by rw [h1],h2⟩
   | [D],d :: d' :: ds,hU,e =>
     simp only [bdT,tlT,n28_,n72_,n65_] at e;obtain ⟨h1,h2⟩:=hU D (by simp) d _ _ dl44 dl44 e;injection h2 with _ h2
     injection h2 with h2 _
     cases h2
   | D :: D' :: Ds,[d],hU,e =>
     simp only [bdT,tlT,n28_,n72_,n65_] at e;obtain ⟨h1,h2⟩:=hU D (by simp) d _ _ dl44 dl44 e;injection h2 with _ h2
     injection h2 with h2 _
     cases h2
   | D :: D' :: Ds,d :: d' :: ds,hU,e =>
     obtain ⟨h1,h2⟩:=Ztv D (D' :: Ds) d (d' :: ds) r r' hU e;exact ⟨by rw [h1],h2⟩
 · omega
noncomputable def datX (x:List Int×List Int):PyData:=.tuple [.tuple (x.1.map .int),.tuple (x.2.map .int)]
theorem Zq0 (ns:List Int):Uq (.tuple (ns.map .int)):=Zjq fun D hD=>by
 obtain ⟨n,_,rfl⟩:=n40_.mp hD;exact Zty n
theorem Zki {d:PyData} {x:List Int×List Int} (h:d.shown=(datX x).shown):d=datX x:=by
 have u:Uq (datX x):=Zjq fun D hD=>by
  simp only [n12_,n13_,or_false] at hD
  rcases hD with rfl|rfl<;>exact Zq0 _
 exact (u d [] [] (.inl rfl) (.inl rfl) (by rw [lts,h])).1
end L2
namespace L2
open PySem PySem.Spec PyProof.Rows PySem.W
theorem Zjy {a b:List Int} (h:a.map V.int=b.map V.int):a=b:=(List.map_inj_right (fun _ _ h=>by injection h)).mp h
variable {D a:Addr} {X:Cx} {H:Hp} {vs:List V} {u0 u1:Option V} {rest:St} {te:TE}
theorem Zqb (pins:List (Addr×Obj)) (σ:St) (H:Hp) (s:Shared) (I:Inv X pins σ H s):∀ v x y,IsTn X.K H v x→IsTn X.K H v y→x=y:=fun v x y ⟨t,a,b,e,h1,h2,h3⟩ ⟨t',a',b',e',h1',h2',h3'⟩=>by
 subst e;cases e'
 have:=I.tuple_inj h1 h1'
 simp only [List.cons.injEq,V.ref.injEq,and_true] at this;obtain ⟨rfl,rfl⟩:=this;exact Prod.ext (Zjy (I.tuple_inj h2 h2')) (Zjy (I.tuple_inj h3 h3'))
theorem Ztz:EqT X 2 (IsTn X.K):=by
 intro A pins σ H s v u a b x y hu I h1 h2 r1 r2;have inj:=Zqb pins σ H s I;obtain ⟨p,pa,pb,rfl,e1,e2,e3⟩:=id h1;obtain ⟨q,qa,qb,rfl,f1,f2,f3⟩:=id h2;cases r1
 cases r2
 obtain ⟨ia,ra,ta,_⟩:=I.tuple e2;obtain ⟨ib,rb,tb,_⟩:=I.tuple e3;obtain ⟨ja,sa,ua,_⟩:=I.tuple f2;obtain ⟨jb,sb,ub,_⟩:=I.tuple f3;have ea:=Zb1 (A:=A.in1) (s:=s) ta ua (by simpa using Yi ra) (by simpa using Yi sa) (by rw [Around.in1_units];omega);have eb:=Zb1 (A:=A.in1) (s:=s) tb ub (by simpa using Yi rb) (by simpa using Yi sb) (by rw [Around.in1_units];omega)
 by_cases hpq:p=q
 · subst hpq;rw [n24_ (inj _ _ _ h1 h2)];exact SeqAt.EqAt.same _
 · obtain ⟨it,rt',tt,_⟩:=I.tuple e1;obtain ⟨jt,st',ut,_⟩:=I.tuple f1;cases rt' with
   | cons r1 rt'=>cases rt' with
     | cons r2 rt'=>cases st' with
       | cons r3 st'=>cases st' with
         | cons r4 st' =>
           cases rt'
           cases st'
           cases r1
           cases r2
           cases r3
           cases r4
           have h:=SeqAt.RcAt.tuples (A:=A) (e:=fun j=>if j=0 then decide (x.1=y.1) else decide (x.2=y.2)) tt ut (by omega) fun j z1 z2=>?_
           · have ee:((List.range (min [Value.ref pa,Value.ref pb].toArray.size [Value.ref qa,Value.ref qb].toArray.size)).all (fun j=>if j=0 then decide (x.1=y.1) else decide (x.2=y.2))&&[Value.ref pa,Value.ref pb].toArray.size == [Value.ref qa,Value.ref qb].toArray.size)=decide (x=y):=by
              show ((decide (x.1=y.1)&&(decide (x.2=y.2)&&true))&&true)=_
              rw [n56_];simp [Prod.ext_iff]
             rw [ee] at h;exact SeqAt.EqAt.of_refs hpq h
           · have hj:j=0∨j=1:=by simp at z1;omega
             rcases hj with rfl|rfl
             · exact ea
             · exact eb
theorem Zl5 (K:PySem.W.Frag) (hK:X.K=K):Xn X (.builtin "isinstance") (fun xs H Q=>∃ x T t b,xs=[x,.ty T]∧TyOf K H x t∧PySem.W.kitOne K t (.type T)=some b∧Q (.bl b) H):=hK ▸ Y9
theorem Zvx {K:PySem.W.Frag} {N:Addr→Prop} {kb:Nat} {pss:List (List V×List PyData)} {Q:VK} {f:PyData→Bool} (ha:SqT K H a vs) (al:Al (fun v p=>∃ b,v=.ref b∧H b=some (.tup p.1)∧Dts N H kb p.1 p.2) vs pss) (hz:vs.length≤1000) (hn:∀ p∈pss,p.1.length≤1000) (hD:H D=none)
 (hs:∀ (w v:V) (d:PyData) (H2:Hp) (C:V→Hp→Prop),Same H H2→Dt N H2 kb v d→(∀ H3,Same H2 H3→C (.bl (f d)) H3)→te (some w :: some v :: rest) H2 C)
 (hd:∀ H2 (bs:List Bool),Same H H2→H2 D=some (.lst (bs.map V.bl))→bs.all id=pss.all (fun p=>p.2.all f)→Q (.ref D) H2) :
 Zs0 (Itt K a) (Yr 0) (iTup K (tVar 0)) (Yr 1) te (u0 :: u1 :: rest) H D Q:=by
 refine ⟨fun i m σ H'=>i≤vs.length∧m=vs.length-i∧∃ u u' bs,σ=u :: u' :: rest∧Same H H'∧H' D=some (.lst (bs.map V.bl))∧bs.all id=(pss.take i).all (fun p=>p.2.all f)∧bs.length≤i*1000,⟨_,n42_ _,rfl,u0,u1,[],rfl,Same.new hD,Zc,rfl,n42_ _⟩,?_⟩;rintro i m σ2 H2 ⟨hi,rfl,u,u',bs,rfl,s2,h2,hb,hl⟩
 by_cases hlt:i<vs.length
 · refine .inr ⟨⟨_,vs[i],s2.sqT ha,n1_ hlt⟩,fun x H3 y=>?_⟩;obtain ⟨rfl,yx⟩:=y;obtain ⟨⟨ps,ds⟩,en,b,rfl,hps,hds⟩:=al.get (yx _ (s2.sqT ha));have nl:=hn _ (n10_ en);have dl:=hds.len
   have tk1:(pss.take (i+1)).all (fun p=>p.2.all f)=((pss.take i).all (fun p=>p.2.all f)&&ds.all f):=by
    rw [List.take_succ,en,n75_,List.all_append]
    simp
   simp only at nl dl hps hds;refine ⟨_,rfl,b,rfl,⟨_,SqT.of (s2 _ _ hps)⟩,?_⟩;refine ⟨fun j m1 σ H'=>j≤ps.length∧m1=ps.length-j∧∃ u' bs,σ=some (.ref b) :: u' :: rest∧Same H H'∧H' D=some (.lst (bs.map V.bl))∧bs.all id=((pss.take i).all (fun p=>p.2.all f)&&(ds.take j).all f)∧bs.length≤i*1000+j,⟨_,n42_ _,rfl,_,bs,rfl,s2,h2,by rw [hb];simp,hl⟩,?_⟩;rintro j m1 σ6 H6 ⟨hj,rfl,v',bs6,rfl,s6,h6,hb6,hl6⟩
   by_cases hj2:j<ps.length
   · refine .inr ⟨⟨_,ps[j],SqT.of (s6 _ _ hps),n1_ hj2⟩,fun y H7 y7=>?_⟩;obtain ⟨rfl,yy⟩:=y7;have ey:=yy _ (SqT.of (s6 _ _ hps));have hjd:j<ds.length:=by omega
     have dj:Dt N H7 kb y ds[j]:=by
      obtain ⟨d,e,r⟩:=(hds.same s6).get ey;rw [n1_ hjd] at e;cases e
      exact r
     refine hs _ _ _ _ _ s6 dj fun H8 s8=>?_;refine ⟨bs6.map V.bl,s8 _ _ h6,by rw [n5_,sizeLine_eq];omega,ps.length-(j+1),by omega,hj2,rfl,_,bs6++[f ds[j]],rfl,?_,?_,?_,?_⟩
     · intro b' o' e';rw [Zj (fun z=>by rw [z,hD] at e';cases e')];exact s8 _ _ (s6 _ _ e')
     · rw [Zc,List.map_append];rfl
     · rw [List.all_append,hb6,List.take_succ,n1_ hjd,n75_,List.all_append,Bool.and_assoc]
       simp
     · rw [n26_,List.length_singleton];omega
   · refine .inl ⟨⟨_,SqT.of (s6 _ _ hps),by omega⟩,vs.length-(i+1),by omega,hlt,rfl,_,_,bs6,rfl,s6,h6,?_,by omega⟩;rw [hb6,tk1,n52_ (show ds.length≤j by omega)]
 · refine .inl ⟨⟨_,s2.sqT ha,by omega⟩,hd H2 bs s2 h2 ?_⟩;rw [hb,n52_ (by have:=al.1;omega)]
end L2
set_option maxHeartbeats 4000000
theorem L2.gen_upd {H H1:L2.Hp} {p:PySem.Addr} {o:L2.HO} (g:L2.upd H p o=H1) (n:H p=none):L2.Same H H1∧H1 p=some o:=g▸⟨L2.Same.new n,L2.Zc⟩
namespace My
open PySem PySem.Spec PyProof.Rows L2
def top (i:Nat):Stmt:=PySem.Challenge.pw_platerest_k61_turnings_judged.main.body.getD i (.Pass ⟨0,0,0,0⟩)
theorem Zaq:bootBuiltins "all" = some (.builtin "all"):=by decide +kernel
theorem Ztg:bootBuiltins "any" = some (.builtin "any"):=by decide +kernel
theorem Zig:bootBuiltins "bool" = some (.type "bool"):=by decide +kernel
theorem Zr2:bootBuiltins "dict" = some (.type "dict"):=by decide +kernel
theorem Zi1:bootBuiltins "int" = some (.type "int"):=by decide +kernel
theorem Z0:bootBuiltins "isinstance" = some (.builtin "isinstance"):=by decide +kernel
theorem Y3:bootBuiltins "len" = some (.builtin "len"):=by decide +kernel
theorem Zc7:bootBuiltins "list" = some (.type "list"):=by decide +kernel
theorem Zpv:bootBuiltins "max" = some (.builtin "max"):=by decide +kernel
theorem Zny:bootBuiltins "min" = some (.builtin "min"):=by decide +kernel
theorem Zb6:bootBuiltins "repr" = some (.builtin "repr"):=by decide +kernel
theorem Zt4:bootBuiltins "set" = some (.type "set"):=by decide +kernel
theorem Yw:bootBuiltins "sorted" = some (.builtin "sorted"):=by decide +kernel
theorem Z5:bootBuiltins "tuple" = some (.type "tuple"):=by decide +kernel
structure Bt (mg:Str→Option Value):Prop where
 b_all:mg "all" = none
 b_any:mg "any" = none
 b_bool:mg "bool" = none
 b_dict:mg "dict" = none
 b_enumerate:mg "enumerate" = none
 b_int:mg "int" = none
 b_isinstance:mg "isinstance" = none
 b_len:mg "len" = none
 b_list:mg "list" = none
 b_max:mg "max" = none
 b_min:mg "min" = none
 b_range:mg "range" = none
 b_repr:mg "repr" = none
 b_set:mg "set" = none
 b_sorted:mg "sorted" = none
 b_tuple:mg "tuple" = none
 b_zip:mg "zip" = none
 n_FARTHEST:∃ t,mg "FARTHEST" = some (.int 100 t)
 n_FEWEST_CORNERS:∃ t,mg "FEWEST_CORNERS" = some (.int 3 t)
 n_MOST_CORNERS:∃ t,mg "MOST_CORNERS" = some (.int 30 t)
 n_MOST_PIECES:∃ t,mg "MOST_PIECES" = some (.int 40 t)
 n_MOST_STUFF:∃ t,mg "MOST_STUFF" = some (.int 9 t)
 n_THICKEST:∃ t,mg "THICKEST" = some (.int 9 t)
theorem Ye {a n:Nat} (h:a<2^64) (hn:64≤n:=by decide):a<2^n:=n14_ h (n61_ (by decide) hn)
def Zc1:Sp:=fun vs H Q _=>∃ a:Int,vs=[.int a]∧Q (.bl true) H
def StAt (H:Hp) (l:Addr):Prop:=∃ s0 s1 s2:Int,H l=some (.lst [.int s0,.int s1,.int s2])∧0≤s1∧s1<4294967296
theorem StAt.keep {H H':Hp} {l m:Addr} (s:StAt H l) (k:Keep m H H') (n:l≠m):StAt H' l:=by
 obtain ⟨a,b,c,h,r⟩:=s;exact ⟨a,b,c,k _ _ n h,r⟩
theorem StAt.same {H H':Hp} {l:Addr} (s:StAt H l) (k:Same H H'):StAt H' l:=by
 obtain ⟨a,b,c,h,r⟩:=s;exact ⟨a,b,c,k _ _ h,r⟩
theorem StAt.new {H:Hp} {l p:Addr} {o:HO} (s:StAt H l) (h:H p=none):StAt (upd H p o) l:=by
 obtain ⟨a,b,c,e,r⟩:=s;exact ⟨a,b,c,by rw [Zj (Zm e h)];exact e,r⟩
theorem StAt.ne {H:Hp} {l p:Addr} (s:StAt H l) (h:H p=none):l≠p:=by
 obtain ⟨a,b,c,e,r⟩:=s;exact Zm e h
theorem StAt.neT {H:Hp} {l p:Addr} {xs:List V} (s:StAt H l) (h:H p=some (.tup xs)):p≠l:=by
 obtain ⟨a,b,c,e,r⟩:=s;exact Zfk h e (by intro z;cases z)
def Znl (K:PySem.W.Frag):Sp:=fun vs H Q _=>∃ (a:Addr) (ns:List Int) (k:Nat),vs=[.ref a,.int k]∧SqL K H a (ns.map V.int)∧∀ c:Int,Q (.int c) H
def Zjm (K:PySem.W.Frag):Sp:=fun vs H Q _=>∃ (a:Addr) (ns:List Int) (k:Nat),vs=[.ref a,.int k]∧SqL K H a (ns.map V.int) ∧
 ∀ (p:Addr) (H':Hp),H p=none→Same H H'→StAt H' p→Q (.ref p) H'
def Zdo:Sp:=fun vs H Q _=>∃ (l:Addr) (m:Int),vs=[.ref l,.int m]∧StAt H l∧0<m∧m.natAbs<2^8999∧∀ (r:Int) (H':Hp),0≤r→r<m→Keep l H H'→StAt H' l→Q (.int r) H'
theorem mulS {a b:Int} (ha:a.natAbs<2^64) (hb:b.natAbs<2^64):CMulB a b:=⟨n14_ ha (n61_ (by decide) (by decide)),n14_ hb (n61_ (by decide) (by decide))⟩
theorem p64:(2:Nat)^64=18446744073709551616:=by decide
def Zbt:Sp:=fun vs H Q _=>∃ N k v d,vs=[v]∧Dt N H k v d∧Q (.bl (isI d)) H
def Zpt:Sp:=fun vs H Q _=>∃ l N,vs=[.ref l]∧StAt H l∧N l∧Dom N H∧∀ H' v,Keep l H H'→StAt H' l→Tg N H' 100 2 20 v→Q v H'
def Zdx (n:Nat):Sp:=fun vs H Q _=>∃ l N k v d,vs=[.ref l,v]∧StAt H l∧N l∧Dom N H∧Dt N H k v d∧100≤k∧d.depth≤n∧nz d≤100000∧∀ H' v',Keep l H H'→StAt H' l→Tg N H' (k+1) (n+2) (2*nz d+40) v'→Q v' H'
theorem StAt.lst' {H:Hp} {l:Addr} (s:StAt H l):∃ ys,H l=some (.lst ys):=by
 obtain ⟨a,b,c,h,_⟩:=s;exact ⟨_,h⟩
theorem Tg.keepS {N:Addr→Prop} {l:Addr} {H H':Hp} {k n m:Nat} {v:V} (hN:N l) (s:StAt H l) (h:Tg N H k n m v) (q:Keep l H H'):Tg N H' k n m v:=let ⟨_,e⟩:=s.lst';h.keep hN e q
theorem Tgs.keepS {N:Addr→Prop} {l:Addr} {H H':Hp} {k n m:Nat} {v:List V} (hN:N l) (s:StAt H l) (h:Tgs N H k n m v) (q:Keep l H H'):Tgs N H' k n m v:=let ⟨_,e⟩:=s.lst';h.keep hN e q
theorem Dt.keepS {N:Addr→Prop} {l:Addr} {H H':Hp} {k:Nat} {v:V} {d:PyData} (hN:N l) (s:StAt H l) (h:Dt N H k v d) (q:Keep l H H'):Dt N H' k v d:=let ⟨_,e⟩:=s.lst';h.keep hN e q
theorem Dts.keepS {N:Addr→Prop} {l:Addr} {H H':Hp} {k:Nat} {v:List V} {d:List PyData} (hN:N l) (s:StAt H l) (h:Dts N H k v d) (q:Keep l H H'):Dts N H' k v d:=let ⟨_,e⟩:=s.lst';h.keep hN e q
theorem Dom.keepS {N:Addr→Prop} {l:Addr} {H H':Hp} (h:Dom N H) (s:Keep l H H') (hl:StAt H' l):Dom N H':=let ⟨_,e⟩:=hl.lst';h.keep s e
theorem dint {N:Addr→Prop} {H:Hp} {k:Nat} (i:Int) (hk:100≤k) (hi:i.natAbs<2^100):Dt N H k (.int i) (.int i):=.int (n14_ hi (n61_ (by decide) hk))
theorem blT {p:Prop} [Decidable p] (h:p):V.bl (decide p)=V.bl true:=by rw [n24_ h]
theorem qT {p:Prop} [Decidable p] (h:p) {Q:VK} {H:Hp} (q:Q (.bl true) H):Q (.bl (decide p)) H:=by rw [blT h];exact q
theorem mul3 {a b:Int} (ha:a.natAbs≤1000) (hb:b.natAbs≤1000):CMulB a b:=⟨n76_ ha (n14_ (by decide:(1000:Nat)<2^10) (n61_ (by decide) (by decide))),n76_ hb (n14_ (by decide:(1000:Nat)<2^10) (n61_ (by decide) (by decide)))⟩
def Zel:Sp:=fun vs H Q _=>∃ i lo hi:Int,vs=[.int i,.int lo,.int hi]∧lo≤i∧i≤hi∧Q (.bl true) H
def Zp7:Sp:=fun vs H Q _=>∃ (a:Addr) (us:List V) (lo hi:Int),vs=[.ref a,.int lo,.int hi]∧H a=some (.tup us)∧lo≤us.length∧(us.length:Int)≤hi∧Q (.bl true) H
def Zeo:Sp:=fun vs H Q _=>∃ (a:Addr) (ns:List Int),vs=[.ref a]∧H a=some (.tup (ns.map V.int))∧ns.length≤1000∧(∀ (i:Nat) (x y:Int),ns[i]? = some x→ns[i+1]? = some y→x<y)∧∀ H',Same H H'→Q (.bl true) H'
def Zeh:Sp:=fun vs H Q _=>∃ (a:Addr) (us:List V) (ks:List (List Int)),vs=[.ref a]∧H a=some (.tup us)∧Al (IsI H) us ks∧us.length≤1000∧(∀ (i:Nat) (x y:List Int),ks[i]? = some x→ks[i+1]? = some y→HT.lexLt x y=true)∧∀ H',Same H H'→Q (.bl true) H'
def Zga:Sp:=fun vs H Q _=>∃ (v:V) (p:Pnt),vs=[v]∧IsP H v p∧near p∧∀ H',Same H H'→Q (.bl true) H'
def Zeu:Sp:=fun vs H Q _=>∃ (v:V) (cs:List Pnt),vs=[v]∧IsCs H v cs∧3≤cs.length∧cs.length≤30∧(∀ p∈cs,near p)∧cs.Nodup∧∀ H',Same H H'→Q (.bl true) H'
def Zmd:Sp:=fun vs H Q _=>∃ (u v w:V) (a b c:Pnt),vs=[u,v,w]∧IsP H u a∧IsP H v b∧IsP H w c∧near a∧near b∧near c∧Q (.int (tn a b c)) H
theorem cut1 (xs:List V):cutV xs (some 1) none=xs.drop 1:=by
 unfold cutV;have e1:HT.sIx xs.length xs.length none=xs.length:=rfl
 have e2:HT.sIx xs.length 0 (some 1)=min 1 xs.length:=by
  unfold HT.sIx
  simp
  try omega
 rw [e1,e2];cases xs with
 | nil=>rfl
 | cons x xs=>simp
theorem Zfw {α:Type} (x:α):∀ n:Nat,(List.replicate n [x]).flatten=List.replicate n x
 | 0=>rfl
 | n+1=>by rw [n67_,List.flatten_cons,Zfw x n];rfl
theorem allT (n:Nat):(List.replicate n true).all id=true:=by rw [List.all_replicate];split<;>rfl
theorem repT {n i:Nat} (h:i<n):(List.replicate n true)[i]? = some true:=by rw [List.getElem?_replicate,if_pos h]
theorem Xk {α:Type} {l:List α} {i:Nat} {x:α} (h:l[i]? = some x):i<l.length:=(n19_.mp h).1
abbrev RB:Hp→V→Bool→Prop:=fun _ v b=>v=V.bl b
theorem hRB:∀ H1 H2 v x,Tk H1 H2→RB H1 v x→RB H2 v x:=fun _ _ _ _ _ e=>e
abbrev RI:Hp→V→Int→Prop:=fun _ v b=>v=V.int b
theorem hRI:∀ H1 H2 v x,Tk H1 H2→RI H1 v x→RI H2 v x:=fun _ _ _ _ _ e=>e
theorem hRP:∀ H1 H2 v x,Tk H1 H2→IsP H1 v x→IsP H2 v x:=fun _ _ _ _ t h=>h.tk t
theorem hRT:∀ H1 H2 v x,Tk H1 H2→IsT H1 v x→IsT H2 v x:=fun _ _ _ _ t h=>h.tk t
def Zhi:Sp:=fun vs H Q _=>∃ (u v:V) (cs:List Pnt) (p:List Int),vs=[u,v]∧IsCs H u cs∧IsI H v p∧p.length=3∧(∀ i∈p,0≤i∧i≤(cs.length:Int)-1)∧(∀ p∈cs,near p)∧Q (.int (dOf cs p)) H
def Zer:Sp:=fun vs H Q _=>∃ (u v:V) (cs:List Pnt) (p:List Int),vs=[u,v]∧IsCs H u cs∧IsI H v p∧PieceOk cs p∧(∀ p∈cs,near p)∧∀ H',Same H H'→Q (.bl true) H'
def Zgm:Sp:=fun vs H Q _=>∃ (u v:V) (cs:List Pnt) (ps:List (List Int)),vs=[u,v]∧IsCs H u cs∧IsPs H v ps∧1≤ps.length∧ps.length≤40∧(∀ p∈ps,PieceOk cs p)∧(∀ i:Nat,i+1<ps.length→HT.lexLt (ps.getD i []) (ps.getD (i+1) [])=true)∧(∀ p∈cs,near p)∧∀ H',Same H H'→Q (.bl true) H'
def Zg7:Sp:=fun vs H Q _=>∃ (u v:V) (ps:List (List Int)) (ts:List Int),vs=[u,v]∧IsPs H u ps∧IsI H v ts∧ts.length=ps.length∧ps.length≤40∧(∀ t∈ts,1≤t∧t≤9)∧∀ H',Same H H'→Q (.bl true) H'
def Zj0:Sp:=fun vs H Q _=>∃ (v:V) (l m:Int),vs=[v]∧IsI H v [l,m]∧(0≤l∧l≤9)∧(1≤m∧m≤9)∧Q (.bl true) H
theorem Zpi {H:Hp} {cs:List Pnt} {us:List V} (A:Al (IsP H) us cs) {i:Int} (h0:0≤i) (h1:i≤(cs.length:Int)-1):∃ v,atI us i=some v∧IsP H v (cAt cs i):=by
 obtain ⟨n,rfl⟩:∃ n:Nat,i=n:=⟨i.toNat,by omega⟩;have hn:n<cs.length:=by omega
 obtain ⟨v,ev,r⟩:=A.got (n1_ hn);refine ⟨v,Xz ev,?_⟩
 have:cAt cs (n:Int)=cs[n]:=by unfold cAt;simp [n4_,hn]
 rw [this];exact r
theorem Zag {cs:List Pnt} {i:Int} (h0:0≤i) (h1:i≤(cs.length:Int)-1):cAt cs i∈cs:=by
 have hn:i.toNat<cs.length:=by omega
 unfold cAt;rw [n4_,n1_ hn];exact n44_ hn
def IsE (H:Hp) (v:V) (e:Pnt×Pnt):Prop:=∃ a x y,v=.ref a∧H a=some (.tup [x,y])∧IsP H x e.1∧IsP H y e.2
def Zqk:Sp:=fun vs H Q _=>∃ (u v:V) (cs:List Pnt) (p:List Int),vs=[u,v]∧IsCs H u cs∧IsI H v p∧p.length=3∧(∀ i∈p,0≤i∧i≤(cs.length:Int)-1)∧(∀ p∈cs,near p)∧∀ H' w,Same H H'→IsT H' w (trOf cs p)→Q w H'
def Zj8:Sp:=fun vs H Q _=>∃ (v:V) (t:Tri),vs=[v]∧IsT H v t∧∀ H' w,Same H H'→IsTup' IsE H' w t.edges→Q w H'
def Zhl:Sp:=fun vs H Q _=>∃ (u v:V) (p:Pnt) (t:Tri),vs=[u,v]∧IsP H u p∧IsT H v t∧near p∧t.near∧∀ H',Same H H'→Q (.bl (Zbv p t)) H'
def Zcm:Sp:=fun vs H Q _=>∃ (u v:V) (t r:Tri),vs=[u,v]∧IsT H u t∧IsT H v r∧t.near∧r.near∧∀ H',Same H H'→Q (.bl (Xa t r)) H'
def Zjc:Sp:=fun vs H Q _=>∃ (u v:V) (t r:Tri),vs=[u,v]∧IsT H u t∧IsT H v r∧t.near∧r.near∧∀ H',Same H H'→Q (.bl (L2.apart t r)) H'
def Znh:Sp:=fun vs H Q _=>∃ (u v:V) (cs:List Pnt) (ps:List (List Int)),vs=[u,v]∧IsCs H u cs∧IsPs H v ps∧(∀ p∈ps,p.length=3)∧ps.length≤40∧cntS ps.flatten=cs.length∧cs.length≤30∧∀ H',Same H H'→Q (.bl true) H'
def Zek:Sp:=fun vs H Q _=>∃ (u v w:V) (cs:List Pnt) (p:List Int) (t:Tri),vs=[u,v,w]∧IsCs H u cs∧IsI H v p∧IsT H w t∧cs.length≤30∧(∀ p∈cs,near p)∧t.near∧(∀ j:Nat,j<cs.length→(j:Int)∉p→Zbv (cs.getD j (0,0)) t=false)∧∀ H',Same H H'→Q (.bl true) H'
structure FitOk (cs:List Pnt) (ps:List (List Int)):Prop where
 c30:cs.length≤30
 nr:∀ p∈cs,near p
 p40:ps.length≤40
 pc:∀ p∈ps,PieceOk cs p
 strange:∀ p∈ps,∀ j:Nat,j<cs.length→(j:Int)∉p→Zbv (cs.getD j (0,0)) (trOf cs p)=false
 apart:∀ i j:Nat,i<j→j<ps.length→L2.apart (trOf cs (ps.getD j [])) (trOf cs (ps.getD i []))=true
def Zp4:Sp:=fun vs H Q _=>∃ (u v:V) (cs:List Pnt) (ps:List (List Int)),vs=[u,v]∧IsCs H u cs∧IsPs H v ps∧FitOk cs ps∧∀ H',Same H H'→Q (.bl true) H'
def Zej:Sp:=fun vs H Q _=>∃ (v:V) (P:Pl),vs=[v]∧IsPl H v P∧PlOk P∧∀ H',Same H H'→Q (.bl true) H'
def Zcg:Sp:=fun vs H Q _=>∃ (v:V) (P:Pl),vs=[v]∧IsPl H v P∧PlOk P∧∀ H',Same H H'→Q .non H'
theorem Zhk {cs:List Pnt} {p:List Int} (hb:∀ i∈p,0≤i∧i≤(cs.length:Int)-1) (hl:p.length=3) (nr:∀ p∈cs,near p):(trOf cs p).near:=by
 match p,hl with
 | [a,b,c],_ =>
   have ha:=nr _ (Zag (hb a (by simp)).1 (hb a (by simp)).2);have hb':=nr _ (Zag (hb b (by simp)).1 (hb b (by simp)).2);have hc:=nr _ (Zag (hb c (by simp)).1 (hb c (by simp)).2);show (tri (cAt cs a) (cAt cs b) (cAt cs c)).near
   unfold tri;split
   · exact ⟨ha,hc,hb'⟩
   · exact ⟨ha,hb',hc⟩
theorem Zgz {t:Tri} (n:t.near) {e:Pnt×Pnt} (h:e∈t.edges):near e.1∧near e.2:=by
 obtain ⟨a,b,c⟩:=n;simp only [Tri.edges,n12_,n13_,or_false] at h
 rcases h with rfl|rfl|rfl
 · exact ⟨a,b⟩
 · exact ⟨b,c⟩
 · exact ⟨c,a⟩
theorem Zse {t:Tri} (n:t.near) {e:Pnt} (h:e∈t.pts):near e:=by
 obtain ⟨a,b,c⟩:=n;simp only [Tri.pts,n12_,n13_,or_false] at h
 rcases h with rfl|rfl|rfl
 · exact a
 · exact b
 · exact c
theorem Zsz {H:Hp} {v:V} {t:Tri} (h:IsT H v t):∃ a vs,v=.ref a∧H a=some (.tup vs)∧vs.length=3∧Al (IsP H) vs t.pts:=by
 obtain ⟨a,x,y,z,rfl,ha,hx,hy,hz⟩:=h;exact ⟨a,_,rfl,ha,rfl,.cons hx (.cons hy (.cons hz .nil))⟩
theorem len3 {α:Type} {l:List α} (h:l.length=3):∃ x y z,l=[x,y,z]:=match l,h with|[x,y,z],_=>⟨x,y,z,rfl⟩
theorem cs3 {H:Hp} {us:List V} {cs:List Pnt} (al:Al (IsP H) us cs) {p:List Int} (hl:p.length=3) (bd:∀ i∈p,0≤i∧i≤(cs.length:Int)-1) {vs:List V} (a2:Al (IsP H) vs (p.map (cAt cs))):∃ x y z,vs=[x,y,z]∧IsP H x (cAt cs (p.getD 0 0))∧IsP H y (cAt cs (p.getD 1 0))∧IsP H z (cAt cs (p.getD 2 0)):=by
 obtain ⟨i,j,k,rfl⟩:=len3 hl;obtain ⟨x,y,z,rfl⟩:=len3 a2.1;exact ⟨x,y,z,rfl,a2.2 0 x _ rfl rfl,a2.2 1 y _ rfl rfl,a2.2 2 z _ rfl rfl⟩
theorem Zvz (xs:List V) (i:Nat) (h:i≤xs.length):cutV xs none (some (i:Int))=xs.take i:=by
 unfold cutV;rw [HT.sIx_none,HT.sIx_nat];simp [Nat.min_eq_left h]
theorem anyM {α:Type} {l:List α} {f:α→Bool} (h:∀ x∈l,f x=false):(l.map f).any id=false:=by
 rw [List.any_map];exact List.any_eq_false.mpr fun x hx=>by simp [h x hx]
theorem prs {H:Hp} {vs:List V} {es:List (Pnt×Pnt)} (al:Al (IsE H) vs es):∀ (i:Nat) (w:V),vs[i]? = some w→∃ p x y,w=.ref p∧H p=some (.tup [x,y]):=fun i w e=>by
 obtain ⟨_,_,p,x,y,rfl,h,_⟩:=al.get e;exact ⟨p,x,y,rfl,h⟩
theorem pr1 {H:Hp} {vs:List V} {es:List (Pnt×Pnt)} (al:Al (IsE H) vs es) {i:Nat} {p:Addr} {x y:V} (e:vs[i]? = some (.ref p)) (hp:H p=some (.tup [x,y])):∃ q,es[i]? = some q∧IsP H x q.1∧IsP H y q.2:=by
 obtain ⟨q,eq,p',x',y',e1,h,h1,h2⟩:=al.get e;cases e1
 rw [hp] at h;cases h
 exact ⟨q,eq,h1,h2⟩
theorem Zoe (n:Int) (p:List Int):inV (V.int n) (p.map V.int)=decide (n∈p):=by
 unfold inV;rw [List.any_map]
 induction p with
 | nil=>rfl
 | cons x p ih =>
   rw [List.any_cons,ih]
   by_cases h:n=x
   · subst h
     have:eqV (V.int n) (V.int n)=true:=by simp [eqV]
     simp [Function.comp,this]
   · have:eqV (V.int x) (V.int n)=false:=by simp [eqV];exact fun z=>h z.symm
     simp [Function.comp,this,h]
theorem Zgx {A:Around} {k:Nat} (hr:Room k A):A.units+2<cLine:=n76_ (Nat.add_le_add_left (by decide:2≤64) _) hr.units
theorem Zqd {A:Around} {k:Nat} (hr:Room k A):A.units+4<cLine:=n76_ (Nat.add_le_add_left (by decide:4≤64) _) hr.units
theorem len4 {α:Type} {p:List α} (h:p.length=4):∃ i j k l,p=[i,j,k,l]:=match p,h with|[i,j,k,l],_=>⟨i,j,k,l,rfl⟩
theorem alP {K:PySem.W.Frag} {H:Hp} {us:List V} {ps:List Pnt} (a:Al (IsP H) us ps):Al (fun v k=>∃ b,v=.ref b∧SqT K H b (k.map V.int)) us (ps.map pl):=by
 refine ⟨by rw [n5_];exact a.1,fun i v x e1 e2=>?_⟩;rw [n6_] at e2;obtain ⟨p,ep,rfl⟩:=n16_.mp e2;obtain ⟨b,rfl,hb⟩:=a.2 i v p e1 ep;exact ⟨b,rfl,SqT.of hb⟩
theorem Zog {kl:List (List Int)} (h:0<kl.length):Xf kl<kl.length:=by
 have:=Za7 (fun i j=>HT.lexLt (kl.getD i []) (kl.getD j [])) (kl.length-1)
 unfold Xf;omega
theorem Zql {H:Hp} {us:List V} {ps:List Pnt} (a:Al (IsP H) us ps) (h:0<ps.length):IsP H (us.getD (Xf (ps.map pl)) .non) (Yt ps):=by
 have l:=Zog (kl:=ps.map pl) (by rw [n5_];exact h);rw [n5_] at l;have l1:=a.1;unfold Yt;rw [n4_,n4_,n1_ (show _<us.length by omega),n1_ l];exact a.2 _ _ _ (n1_ _) (n1_ _)
theorem Zd3 {α:Type} {f:α→V} {us:List V} {xs:List α} (a:Al (fun v x=>v=f x) us xs):us=xs.map f:=by
 refine List.ext_getElem (by rw [n5_];exact a.1) fun i h1 h2=>?_;rw [List.getElem_map];exact a.2 i _ _ (n1_ h1) (n1_ (by simpa using h2))
def Zey (K:PySem.W.Frag):Sp:=fun vs H Q _=>∃ (v:V) (ma:Addr) (cs:List Pnt) (M:List Int),vs=[v,.ref ma]∧IsCs H v cs∧0<cs.length∧cs.length≤30∧(∀ p∈cs,near p)∧cs.Nodup∧SqT K H ma (M.map V.int)∧M.length=4∧(∀ m∈M,m.natAbs≤1) ∧
 ∀ (H':Hp) (l:Addr),Same H H'→H' l=some (.lst ((ordB cs M).map oV))→Q (.ref l) H'
noncomputable abbrev oI (os:List Nat):List V:=os.map fun i=>V.int ((i:Nat):Int)
def Zjo:Sp:=fun vs H Q _=>∃ (v:V) (oa:Addr) (P:Pl) (os:List Nat),vs=[v,.ref oa]∧IsPl H v P∧PlOk P∧H oa=some (.lst (oI os))∧os.length=P.cs.length∧∀ H':Hp,Same H H'→Q (.bl (Zbb P os)) H'
theorem Zqo {P:Pl} (ok:PlOk P) {i:Nat} {k:List Key} {y:V} (e:(dP P)[i]? = some (k,y)):∃ p t,(P.ps.zip P.ts)[i]? = some (p,t)∧P.ps[i]? = some p∧k=kI p∧y=.int t:=by
 unfold dP at e;obtain ⟨e1,e2⟩:=n51_.mp e;rw [n6_] at e1 e2;obtain ⟨p,ep,rfl⟩:=n16_.mp e1;obtain ⟨t,et,rfl⟩:=n16_.mp e2;exact ⟨p,t,n51_.mpr ⟨ep,et⟩,ep,rfl,rfl⟩
theorem Zjn {P:Pl} (k:List Key):valV (dP P) k=none∨∃ t:Int,valV (dP P) k=some (.int t):=by
 unfold valV;cases e:(dP P).find? fun kv=>decide (kv.1=k) with
 | none=>exact .inl rfl
 | some x =>
   have hm:=List.mem_of_find?_eq_some e;obtain ⟨_,h2⟩:=List.of_mem_zip (show (x.1,x.2)∈(P.ps.map kI).zip (P.ts.map V.int) from hm);obtain ⟨t,_,ht⟩:=n40_.mp h2;exact .inr ⟨t,by rw [Option.map_some,ht]⟩
theorem Znm {P:Pl} (ok:PlOk P):(dP P).length=P.ps.length:=by
 unfold dP;rw [List.length_zip,n5_,n5_,ok.t1,Nat.min_self]
theorem hu3n {A:Around} {k:Nat} (hr:Room k A):A.units+3<cLine:=n76_ (Nat.add_le_add_left (by decide:3≤64) _) hr.units
def Zbx (K:PySem.W.Frag):Sp:=fun vs H Q _=>∃ (v:V) (P:Pl),vs=[v]∧IsPl H v P∧PlOk P∧∀ (H':Hp) (l:Addr) (us:List V) (ts:List (List Int×List Int)),Same H H'→H l=none→l≠sysModules→H' l=some (.lst us)→Al (IsTk K H') us ts→ts.Perm (Xj P)→ts.Pairwise (fun a b=>lex2 a b=true)→Q (.ref l) H'
theorem Zho {α β:Type} (f:α→β):∀ (l:List α) (i:Nat),(l.map f).eraseIdx i=(l.eraseIdx i).map f
 | [],i=>by cases i<;>rfl
 | x :: l,0=>rfl
 | x :: l,i+1=>by simp only [n46_,List.eraseIdx_cons_succ,Zho f l i]
theorem Zeq {α:Type}:∀ (l:List α) (i:Nat) (h:i<l.length),(l[i] :: l.eraseIdx i).Perm l
 | [],i,h=>by simp at h
 | x :: l,0,h=>.refl _
 | x :: l,i+1,h=>by
   simp only [List.eraseIdx_cons_succ,List.getElem_cons_succ];exact (List.Perm.swap x _ _).trans ((Zeq l i (by simpa using h)).cons x)
theorem Zsu {α:Type} {R:V→α→Prop} {vs:List V} {xs:List α} {v:V} {x:α} (h:Al R vs xs) (j:Nat) (r:R v x):Al R (vs.set j v) (xs.set j x):=by
 refine ⟨by simp [h.1],fun i w y e1 e2=>?_⟩;rw [List.getElem?_set] at e1 e2
 by_cases hi:j=i
 · subst hi;rw [if_pos rfl] at e1 e2;split at e1
   · split at e2
     · cases e1;cases e2;exact r
     · cases e2
   · cases e1
 · rw [if_neg hi] at e1 e2;exact h.2 i w y e1 e2
theorem Zhw {S:V→List Int→Prop} {T:List Int→List Int→Prop}:∀ {vs:List V} {ps:List (List Int)},Al (fun v p=>∃ r,S v r∧T r p) vs ps→∃ kl:List (List Int),kl.length=ps.length∧Al S vs kl∧∀ i:Nat,i<ps.length→T (kl.getD i []) (ps.getD i [])
 | [],[],_=>⟨[],rfl,.nil,fun i hi=>by simp at hi⟩
 | [],p :: ps,h=>by have:=h.1;simp at this
 | v :: vs,[],h=>by have:=h.1;simp at this
 | v :: vs,p :: ps,h=>by
   obtain ⟨r,s,t⟩:=h.2 0 v p rfl rfl;obtain ⟨kl,l,a,k⟩:=Zhw (vs:=vs) (ps:=ps) ⟨by have:=h.1;simpa using this,fun i w x e1 e2=>h.2 (i+1) w x (by simpa using e1) (by simpa using e2)⟩;refine ⟨r :: kl,by simp [l],.cons s a,fun i hi=>?_⟩;cases i with
   | zero=>exact t
   | succ i=>simpa using k i (by simpa using hi)
theorem Zli {n:Nat} {k:Int} (h0:0≤k) (h1:k<n):ixN n k=some k.toNat:=by
 unfold ixN;rw [if_pos h0,if_pos (by omega)]
theorem seqI {n:Nat} {k:Int} (h0:0≤k) (h1:k<n):seqIndex? k n=some k.toNat:=(Zhs (Zli h0 h1)).1
theorem tkS {H H':Hp} {l:Addr} (k:Keep l H H') (s:StAt H l):Tk H H':=by
 obtain ⟨a,b,c,e,_⟩:=s;exact Tk.of_keep k e
theorem StAt.neN {H:Hp} {l p:Addr} (s:StAt H l) (h:H p=none):p≠l:=fun z=>s.ne h z.symm
theorem Zmg {J:It} {n:Nat} {l D:Addr} {g:TG} {te:TE} {σ0:L2.St} {H:Hp} {Q:VK} {α:Type} (R:Hp→V→α→Prop) (hR:∀ H1 H2 v x,Tk H1 H2→R H1 v x→R H2 v x) (hz:n≤1000) (ok:L2.St→Prop) (h0:ok σ0) (hD:H D=none) (hl:StAt H l)
 (hgo:∀ i H2,Keep l H H2→i<n→J.go i H2) (hstop:∀ H2,Keep l H H2→J.stop n H2)
 (hs:∀ i x σ2 H2 H3 (C:L2.St→V→Hp→Prop),i<n→Keep l H H2→StAt H2 l→J.yld i H2 x H3→ok σ2→(∀ σ4 y H5 z,ok σ4→Keep l H2 H5→StAt H5 l→R H5 y z→C σ4 y H5)→g x σ2 H3 fun σ4 H4=>te σ4 H4 (C σ4))
 (hd:∀ H2 vs ys,Keep l H H2→StAt H2 l→H2 D=some (.lst vs)→ys.length=n→Al (R H2) vs ys→Q (.ref D) H2):LcGo J g tYes te σ0 H D Q:=by
 have neD:D≠l:=hl.neN hD;refine Zjw (n:=n) (fun i σ H2=>Keep l H H2∧StAt H2 l∧ok σ∧∃ vs ys,ys.length=i∧H2 D=some (.lst vs)∧Al (R H2) vs ys) ⟨Keep.new hD,hl.new hD,h0,[],[],rfl,Zc,.nil⟩ (fun i σ H2 hi p=>hgo i H2 p.1 hi) (fun σ H2 p=>hstop H2 p.1) (fun i x σ2 H2 H3 hi y p=>?_) (fun σ2 H2 p=>?_)
 · obtain ⟨s2,l2,o2,vs,ys,hy,e2,a2⟩:=p;refine hs i x σ2 H2 H3 (fun σ4 y H6=>∃ ys,H6 D=some (.lst ys)∧ys.length<sizeLine∧∃ m',m'<n-i∧LcN n (fun i σ H2=>Keep l H H2∧StAt H2 l∧ok σ∧∃ vs ys,ys.length=i∧H2 D=some (.lst vs)∧Al (R H2) vs ys) (i+1) m' σ4 (upd H6 D (.lst (ys++[y])))) hi s2 l2 y o2 ?_;intro σ4 v H5 z o4 s5 l5 rz;have e5:H5 D=some (.lst vs):=s5 _ _ neD e2;have tk:Tk H5 (upd H5 D (.lst (vs++[v]))):=Tk.upd_lst e5;refine ⟨vs,e5,?_,n-(i+1),by omega,by omega,rfl,fun b o nb e=>?_,?_,o4,vs++[v],ys++[z],by simp [hy],Zc,?_⟩
   · rw [a2.1,sizeLine_eq];omega
   · rw [Zj (Zm e hD)];exact s5 _ _ nb (s2 _ _ nb e)
   · obtain ⟨a,b,c,e,r⟩:=l5;exact ⟨a,b,c,by rw [Zj neD.symm];exact e,r⟩
   · exact (a2.imp fun v x r=>hR _ _ v x tk (hR _ _ v x (tkS s5 l2) r)).snoc (hR _ _ _ _ tk rz)
 · obtain ⟨s2,l2,_,vs,ys,hy,e2,a2⟩:=p;exact hd H2 vs ys s2 l2 e2 hy a2
def Zj5:Sp:=fun vs H Q _=>∃ (l:Addr) (n:Nat),vs=[.ref l,.int n]∧StAt H l∧n≤60∧∀ (H':Hp) (r:Addr) (o:List Int),Keep l H H'→StAt H' l→H r=none→H' r=some (.lst (o.map V.int))→o.Perm ((List.range n).map fun i:Nat=>(i:Int))→Q (.ref r) H'
def Zgk:Sp:=fun vs H Q _=>vs=[]∧∀ (H':Hp) (r:Addr) (us:List V),Same H H'→H r=none→H' r=some (.lst us)→Al (IsSh H') us Zdt→Q (.ref r) H'
def Zjk:Sp:=fun vs H Q _=>∃ l:Addr,vs=[.ref l,.int 8]∧StAt H l∧∀ (H':Hp) (v:V) (P:Pl),Keep l H H'→StAt H' l→IsPl H' v P→PlOk P→P.ps.length≤4→Q v H'
theorem Zov {H:Hp} {us:List V} (al:Al (IsSh H) us Zdt) {r:Int} (h0:0≤r) (h1:r<8):∃ (v:V) (s:List Pnt×List (List Int)),atI us r=some v∧IsSh H v s∧s∈Zdt:=by
 obtain ⟨k,rfl⟩:∃ k:Nat,r=k:=⟨r.toNat,by omega⟩;have hk:k<Zdt.length:=by show k<8;omega
 obtain ⟨v,ev,rv⟩:=al.got (n1_ hk);exact ⟨v,_,Xz ev,rv,n44_ hk⟩
theorem Zmr {α:Type} {R:V→α→Prop} {v:V} {x:α} (r:R v x):∀ n:Nat,Al R (List.replicate n v) (List.replicate n x)
 | 0=>.nil
 | n+1=>by rw [n67_,n67_];exact .cons r (Zmr r n)
theorem mul4 {a b:Int} (ha:a.natAbs≤1000) (hb:b.natAbs≤1000):CMulB a b:=mul3 ha hb
theorem o_at {o:List Int} {n:Nat} (O:CoOrd n o) {i:Int} (h0:0≤i) (h1:i<n):atI (o.map V.int) i=some (.int (oAt o i)):=by
 obtain ⟨k,rfl⟩:∃ k:Nat,i=k:=⟨i.toNat,by omega⟩;have hk:k<o.length:=by rw [O.len];omega
 refine Xz ?_;rw [n6_,n1_ hk];unfold oAt;simp [n4_,hk]
theorem Zi9 {p:Pnt} (h:p.1.natAbs≤6∧p.2.natAbs≤6):p.1.natAbs≤1000∧p.2.natAbs≤1000:=⟨by omega,by omega⟩
theorem Zs3 {H:Hp} {vs:List V} {kl:List (List Int)} (al:Al (IsI H) vs kl) {q:List Nat} (hq:∀ i∈q,i<kl.length):Al (IsI H) (q.map fun i=>vs.getD i .non) (q.map fun i=>kl.getD i []):=by
 refine ⟨by simp,fun n v r e1 e2=>?_⟩;rw [n6_] at e1 e2;obtain ⟨i,ei,rfl⟩:=n16_.mp e1;rw [ei] at e2;cases e2
 have hi:=hq i (n10_ ei);have hv:i<vs.length:=by rw [al.1];exact hi
 have:=al.2 i vs[i] kl[i] (n1_ hv) (n1_ hi)
 show IsI H (vs.getD i .non) (kl.getD i [])
 rw [n4_,n4_,n1_ hv,n1_ hi];exact this
def Zh9:List (List Pnt×List (List Int)) :=
 [([(0,0),(2,0),(2,2),(0,2),(1,1)],[[0,1,4],[0,3,4],[1,2,4],[2,3,4]]),
  ([(0,0),(2,0),(-2,0),(0,3)],[[0,1,3],[0,2,3]]),
  ([(0,0),(2,1),(2,-1),(-2,1),(-2,-1)],[[0,1,2],[0,3,4]]),
  ([(0,0),(4,0),(0,4)],[[0,1,2]]),
  ([(0,0),(3,1),(4,4),(1,3)],[[0,1,2],[0,2,3]]),
  ([(0,0),(2,0),(2,2),(0,2),(1,1)],[[0,1,4],[0,3,4],[1,2,4],[2,3,4]])]
theorem Zop:Zh9.all (fun s=>Zox s.1 s.2)=true:=by decide +kernel
theorem Zmq {s:List Pnt×List (List Int)} (h:s∈Zh9):Base s.1 s.2:=Zc6 (n32_.mp Zop s h)
theorem Zr7 {H:Hp} {us:List V} (al:Al (IsSh H) us Zh9) {r:Int} (h0:0≤r) (h1:r<6):∃ (v:V) (s:List Pnt×List (List Int)),atI us r=some v∧IsSh H v s∧s∈Zh9:=by
 obtain ⟨k,rfl⟩:∃ k:Nat,r=k:=⟨r.toNat,by omega⟩;have hk:k<Zh9.length:=by show k<6;omega
 obtain ⟨v,ev,rv⟩:=al.got (n1_ hk);exact ⟨v,_,Xz ev,rv,n44_ hk⟩
def Znp:Sp:=fun vs H Q _=>∃ l:Addr,vs=[.ref l]∧StAt H l∧∀ (H':Hp) (v:V) (P:Pl),Keep l H H'→StAt H' l→IsPl H' v P→PlOk P→P.ps.length≤4→Q v H'
def Znk:Sp:=fun vs H Q _=>vs=[]∧∀ (H':Hp) (l:Addr) (us:List V),Same H H'→H' l=some (.lst us)→Al (IsI H') us MSRT→Q (.ref l) H'
theorem Zuu {α:Type} {R:V→α→Prop} {us vs:List V} {xs ys:List α} (a:Al R us xs) (b:Al R vs ys):Al R (us++vs) (xs++ys):=by
 refine ⟨by rw [n26_,n26_,a.1,b.1],fun i v x e1 e2=>?_⟩
 by_cases h:i<us.length
 · rw [n58_ h] at e1;rw [n58_ (by rw [← a.1];exact h)] at e2;exact a.2 i v x e1 e2
 · rw [n55_ (by omega)] at e1;rw [n55_ (by rw [← a.1];omega),← a.1] at e2;exact b.2 _ v x e1 e2
theorem Zdq {K:PySem.W.Frag} {H:Hp} {us:List V} {kl:List (List Int)} (a:Al (IsI H) us kl):∀ (i:Nat) (v:V),us[i]? = some v→∃ (b:Addr) (k:List Int),v=.ref b∧kl[i]? = some k∧SqT K H b (k.map V.int):=fun i v e=>by
 obtain ⟨k,ek,b,rfl,hb⟩:=a.get e;exact ⟨b,k,rfl,ek,SqT.of hb⟩
def OrdR (H:Hp) (r:V):Option (List Nat)→Prop
 | none=>r=.non
 | some os=>∃ t,r=.ref t∧H t=some (.tup (oI os))
def Zhb:Sp:=fun vs H Q _=>∃ (pa ma:Addr) (pus:List V) (cs:List Pnt) (M:List Int),vs=[.ref pa,.ref ma]∧H pa=some (.lst pus)∧Al (IsP H) pus cs∧0<cs.length∧cs.length≤30∧(∀ p∈cs,near p)∧cs.Nodup∧H ma=some (.tup (M.map V.int))∧M∈MATS ∧
 ∀ (H':Hp) (r:V),Same H H'→OrdR H' r (full (ordB cs M))→Q r H'
theorem alPI {H:Hp} {us:List V} {ps:List Pnt} (a:Al (IsP H) us ps):Al (IsI H) us (ps.map pl):=by
 refine ⟨by rw [n5_];exact a.1,fun i v x e1 e2=>?_⟩;rw [n6_] at e2;obtain ⟨p,ep,rfl⟩:=n16_.mp e2;exact a.2 i v p e1 ep
theorem Ztw {ps:List Pnt} (h:ps.Nodup):(ps.map pl).Nodup:=by
 rw [n48_] at h ⊢;exact List.pairwise_map.mpr (h.imp fun ne z=>ne (Zms z))
def IsTh (H:Hp) (v:V) (x:List Int×List Int):Prop:=∃ t a b,v=.ref t∧H t=some (.tup [.ref a,.ref b])∧H a=some (.tup (x.1.map V.int))∧H b=some (.tup (x.2.map V.int))
theorem IsTh.tk {H H':Hp} {v:V} {x:List Int×List Int} (t:Tk H H') (h:IsTh H v x):IsTh H' v x:=let ⟨p,a,b,e,h1,h2,h3⟩:=h;⟨p,a,b,e,t _ _ h1,t _ _ h2,t _ _ h3⟩
theorem IsTh.tn {K:PySem.W.Frag} {H:Hp} {v:V} {x:List Int×List Int} (h:IsTh H v x):IsTn K H v x:=let ⟨p,a,b,e,h1,h2,h3⟩:=h;⟨p,a,b,e,SqT.of h1,SqT.of h2,SqT.of h3⟩
def Zj4:Sp:=fun vs H Q _=>∃ (v:V) (P:Pl),vs=[v]∧IsPl H v P∧PlOk P∧∀ (H':Hp) (l:Addr) (us:List V) (ts:List (List Int×List Int)),Same H H'→H l=none→l≠sysModules→H' l=some (.lst us)→Al (IsTh H') us ts→ts.Perm (Xj P)→ts.Pairwise (fun a b=>lex2 a b=true)→Q (.ref l) H'
def IsSn (H:Hp) (v:V) (x:List Int×Int):Prop:=∃ a b,v=.ref a∧H a=some (.tup [.ref b,.int x.2])∧H b=some (.tup (x.1.map V.int))
theorem hRS:∀ H1 H2 v x,Tk H1 H2→IsSn H1 v x→IsSn H2 v x:=fun _ _ _ _ t ⟨a,b,e,h1,h2⟩=>⟨a,b,e,t _ _ h1,t _ _ h2⟩
theorem hRI':∀ H1 H2 v x,Tk H1 H2→IsI H1 v x→IsI H2 v x:=fun _ _ _ _ t h=>h.tk t
def snts (P:Pl) (os:List Nat):List (List Int×Int):=(P.ps.zip P.ts).map fun x=>(Zb9 os x.1,x.2)
def sntF (P:Pl) (os:List Nat) (i:Nat):Option (List Int):=(snts P os)[i]?.bind fun x=>if valV (dP P) (kI x.1)=some (.int x.2) then none else some x.1
theorem Zfj {P:Pl} {os:List Nat} {i:Nat} {x:List Int×Int} (e:(snts P os)[i]? = some x):sntF P os i=if valV (dP P) (kI x.1)=some (.int x.2) then none else some x.1:=by unfold sntF;rw [e];rfl
theorem Zly {P:Pl} (ok:PlOk P) (os:List Nat):(List.range (snts P os).length).filterMap (sntF P os)=[]↔Zbb P os=true:=by
 rw [List.filterMap_eq_nil_iff];unfold Zbb;rw [n32_];constructor
 · intro h x hx;obtain ⟨i,hi,e⟩:=n37_ hx;have hi':i<(snts P os).length:=by unfold snts;rw [n5_];exact hi
   have:=h i (n34_.mpr hi')
   have e2:(snts P os)[i]? = some (Zb9 os x.1,x.2):=by unfold snts;rw [n6_,n1_ hi,e];rfl
   rw [Zfj e2] at this;split at this
   · rename_i h1;exact n24_ h1
   · cases this
 · intro h i hi;have hi':=n34_.mp hi;obtain ⟨y,ey⟩:∃ y,(snts P os)[i]? = some y:=⟨_,n1_ hi'⟩;rw [Zfj ey];unfold snts at ey;rw [n6_] at ey;obtain ⟨x,ex,rfl⟩:=n16_.mp ey
   have:=n35_ (h x (n10_ ex))
   exact if_pos this
theorem Zo4 {D:Addr} {kvs:List (List Key×V)} {H:Hp} {R:It→Hp→Prop} (hd:H D=some (.dT kvs)∨∃ o,H D=some (.frz o (.dT kvs))) (h:∀ o G,G D=some (.frz o (.dT kvs))→(∀ b ob,b≠D→H b=some ob→G b=some ob)→R (Itk o D) G):(H D=some (.dT kvs)∧∀ o,R (Itk o D) (upd H D (.frz o (.dT kvs))))∨∃ o,H D=some (.frz o (.dT kvs))∧R (Itk o D) H:=by
 rcases hd with hd|⟨o,hd⟩
 · exact .inl ⟨hd,fun o=>h o _ Zc fun b ob ne e=>by rw [Zj ne];exact e⟩
 · exact .inr ⟨o,hd,h o H hd fun b ob _ e=>e⟩
theorem Zlu:∀ (l:List (List Key×V)),(l.map (·.1)).Nodup→∀ k y,(k,y)∈l→valV l k=some y
 | [],_,_,_,h=>by simp at h
 | p :: l,nd,k,y,h=>by
   rw [n46_,n64_] at nd
   rcases n12_.mp h with rfl|h
   · exact Zbr rfl
   · rw [Zby (fun z=>nd.1 (z ▸ List.mem_map_of_mem (f:=(·.1)) h))];exact Zlu l nd.2 k y h
theorem Zn3 {P:Pl} (ok:PlOk P) {i:Nat} {k:List Key} {y:V} (e:(dP P)[i]? = some (k,y)):valV (dP P) k=some y:=Zlu _ (by rw [Zne ok];exact Zgt ok.pnd) k y (n10_ e)
theorem Zl0 (P:Pl):(MSRT.filterMap (tOne P)).Perm (Xj P):=Zdc.filterMap _
theorem Zrb:MSRT.Nodup:=by decide
theorem Zsk:∀ {p:List Int},p.length=3→p.getD 0 0<p.getD 1 0∧p.getD 1 0<p.getD 2 0→p.Pairwise (·≤·)
 | [a,b,c],_,⟨h1,h2⟩=>by
   simp only [List.getD_cons_zero,List.getD_cons_succ] at h1 h2;simp only [List.pairwise_cons,n12_,n13_,or_false,forall_eq_or_imp,forall_eq,false_implies,implies_true,and_true,List.Pairwise.nil];omega
theorem Zsv {P:Pl} (ok:PlOk P):0<(Xj P).length:=by
 have c3:=ok.c3;have hM:[1,0,0,1]∈MATS:=by decide
 have e0:mvd P.cs [1,0,0,1] (0,0)=P.cs:=by
  unfold mvd;rw [n74_];refine (List.map_congr_left fun p _=>?_).trans (List.map_id _);show mv (0,0) (img [1,0,0,1] p)=p
  unfold mv img gz;refine Prod.ext ?_ ?_<;>simp
 obtain ⟨f1,f2⟩:=some_of (s:=(0,0)) (by omega) ok.nd hM (by rw [e0]);rw [e0] at f1 f2;generalize hos:(P.cs.map fun q=>(Xe P.cs q).getD 0)=os at f1
 have ex:∀ i:Nat,i<P.cs.length→os.getD i 0=i:=fun i hi=>by
  obtain ⟨j,e1,e2,_⟩:=f2 P.cs[i] (n44_ hi);obtain ⟨hj,e3⟩:=n19_.mp e2
  have:=(n66_ ok.nd).mp e3
  rw [← hos,n4_,n6_,n1_ hi];show (Xe P.cs P.cs[i]).getD 0=i
  rw [e1];exact this
 have hl:Zbb P os=true:=by
  unfold Zbb;rw [n32_];intro x hx;refine n24_ ?_;have hp:=ok.pc x.1 (List.of_mem_zip (show (x.1,x.2)∈_ from hx)).1
  have es:Zb9 os x.1=x.1:=by
   unfold Zb9
   have:(x.1.map fun c=>((os.getD c.toNat 0:Nat):Int))=x.1:=by
    refine (List.map_congr_left fun c hc=>?_).trans (List.map_id _);obtain ⟨b0,b1⟩:=hp.bd c hc;rw [ex c.toNat (by omega)];show (c.toNat:Int)=c
    omega
   rw [this];exact (Zih (List.Perm.refl _) (Zsk hp.len hp.rise)).symm
  rw [es];obtain ⟨i,hi,e⟩:=n37_ hx;refine Zn3 (i:=i) ok ?_;obtain ⟨z1,z2⟩:=n51_.mp (show (P.ps.zip P.ts)[i]? = some (x.1,x.2) by rw [n1_ hi,e]);unfold dP;refine n51_.mpr ⟨?_,?_⟩
  · rw [n6_,z1];rfl
  · rw [n6_,z2];rfl
 refine List.length_pos_of_mem (a:=(os.map fun i=>((i:Nat):Int),[1,0,0,1])) (n62_.mpr ⟨_,hM,?_⟩);unfold tOne;rw [f1];show (if Zbb P os then _ else none)=_
 rw [if_pos hl]
noncomputable def is2:PyData→Bool
 | .tuple ds=>decide (ds.length=2)
 | _=>false
noncomputable def isTurn (P:Pl) (d:PyData):Bool:=@decide (∃ x∈Xj P,d=datX x) (Classical.propDecidable _)
theorem Zde {P:Pl} {d:PyData} (h:∀ x,d≠datX x):isTurn P d=false:=by
 unfold isTurn;exact @decide_eq_false _ (_) fun ⟨x,_,e⟩=>h x e
theorem Zn1 {P:Pl} (x:List Int×List Int) {i:Decidable (x∈Xj P)}:isTurn P (datX x) = @decide (x∈Xj P) i:=by
 unfold isTurn;rw [n56_];simp only [decide_eq_true_iff];refine ⟨fun ⟨y,hy,e⟩=>?_,fun hx=>⟨x,hx,rfl⟩⟩
 have:x=y:=by
  simp only [datX,PyData.tuple.injEq,List.cons.injEq,and_true] at e;have inj:∀ {a b:List Int},a.map PyData.int=b.map PyData.int→a=b:=fun h=>(List.map_inj_right (fun _ _ h=>by injection h)).mp h;exact Prod.ext (inj e.1) (inj e.2)
 rw [this];exact hy
def Zmt:Sp:=fun vs H Q _=>∃ N k v d,vs=[v,.int 2,.int 2]∧Dt N H k v d∧Q (.bl (is2 d)) H
def Zcx (K:PySem.W.Frag):Sp:=fun vs H Q _=>∃ (v th:V) (P:Pl) (N:Addr→Prop) (k:Nat) (d:PyData),vs=[v,th]∧IsPl H v P∧PlOk P∧Dt N H k th d∧nz d≤1000∧∀ H':Hp,Same H H'→Q (.bl (isTurn P d)) H'
theorem Zie {N:Addr→Prop} {H:Hp} {k:Nat}:∀ {xs:List V} {ds:List PyData},Dts N H k xs ds→ds.all isI=true→∃ ns:List Int,xs=ns.map V.int∧ds=ns.map .int
 | _,_,.nil,_=>⟨[],rfl,rfl⟩
 | _,_,.cons r rs,h=>by
   rw [n60_,n30_] at h;obtain ⟨ns,e1,e2⟩:=Zie rs h.2
   rcases r.isI with ⟨i,rfl,rfl,_⟩|e
   · exact ⟨i :: ns,by rw [e1];rfl,by rw [e2];rfl⟩
   · rw [e] at h;cases h.1
theorem Zn6 (ns:List Int):(ns.map PyData.int).all isI=true:=by
 rw [List.all_map];exact n32_.mpr fun _ _=>rfl
theorem Zc9:∀ ds:List PyData,ds.length≤Zr ds
 | []=>n7_ _
 | x :: ds=>by
   have:=Zc9 ds
   simp only [Zr,n15_];omega
def Zl8:Sp:=fun vs H Q _=>∃ (p:Addr) (ns:List Int),vs=[.ref p]∧H p=some (.tup (ns.map V.int))∧ns.length≤100∧∀ (H':Hp) (t:Addr),Same H H'→H' t=some (.tup (ns.map fun n=>if n=0∨n=1 then V.bl (decide (n=1)) else V.int n))→Q (.ref t) H'
def dTr (n:Int):PyData:=if n=0∨n=1 then .bool (decide (n=1)) else .int n
def Sd (N:Addr→Prop) (H:Hp) (v:V):Prop:=∃ d,Dt N H 101 v d∧d.depth≤3∧nz d≤100
abbrev In64 (ns:List Int):Prop:=ns.length≤30∧∀ n∈ns,n.natAbs<2^64
theorem Zje:∀ (ns:List Int),PyData.depthAll (ns.map PyData.int)≤0
 | []=>by simp [PyData.depthAll]
 | n :: ns=>by
   have:=Zje ns
   simp only [n46_,PyData.depthAll,PyData.depth];omega
theorem Ze9 {ns:List Int} (h:In64 ns):PyData.depthAll (ns.map PyData.int)≤0∧Zr (ns.map PyData.int)≤60:=⟨Zje ns,by rw [Ze0];have:=h.1;omega⟩
theorem Xm {N:Addr→Prop} {H:Hp} {a:Addr} {ns:List Int} (e:H a=some (.tup (ns.map V.int))) (h:In64 ns):Sd N H (.ref a):=by
 obtain ⟨d1,d2⟩:=Ze9 h;exact ⟨_,(Dt.tup e (Za9 h.2)).up (by decide),by simp only [PyData.depth];omega,by simp only [nz];omega⟩
theorem Zsp {N:Addr→Prop} {H:Hp} {a:Addr} {ns:List Int} (e:H a=some (.lst (ns.map V.int))) (nN:¬ N a) (nm:a≠sysModules) (h:In64 ns):Sd N H (.ref a):=by
 obtain ⟨d1,d2⟩:=Ze9 h;exact ⟨_,(Dt.lst e nN nm (Za9 h.2)).up (by decide),by simp only [PyData.depth];omega,by simp only [nz];omega⟩
theorem Zsr {N:Addr→Prop} {H:Hp} {a:Addr} {ns:List Int} (e:H a=some (.tup (ns.map fun n=>if n=0∨n=1 then V.bl (decide (n=1)) else V.int n))) (h:In64 ns):Sd N H (.ref a):=by
 have key:∀ ns:List Int,(∀ n∈ns,n.natAbs<2^64)→Dts N H 64 (ns.map fun n=>if n=0∨n=1 then V.bl (decide (n=1)) else V.int n) (ns.map dTr)∧PyData.depthAll (ns.map dTr)≤1∧Zr (ns.map dTr)=2*ns.length:=by
  intro ns
  induction ns with
  | nil=>intro _;exact ⟨.nil,n42_ _,rfl⟩
  | cons n ns ih =>
    intro hb;obtain ⟨i1,i2,i3⟩:=ih fun m hm=>hb m (n17_ _ hm);rw [n46_,n46_];unfold dTr
    by_cases hn:n=0∨n=1
    · rw [if_pos hn,if_pos hn];refine ⟨.cons (.bl _) i1,?_,?_⟩
      · show max 0 (PyData.depthAll (ns.map dTr))≤1;omega
      · show 1+1+Zr (ns.map dTr)=_;rw [i3,n15_];omega
    · rw [if_neg hn,if_neg hn];refine ⟨.cons (.int (hb n (by simp))) i1,?_,?_⟩
      · show max 0 (PyData.depthAll (ns.map dTr))≤1;omega
      · show 1+1+Zr (ns.map dTr)=_;rw [i3,n15_];omega
 obtain ⟨i1,i2,i3⟩:=key ns h.2
 have:=h.1
 exact ⟨_,(Dt.tup e i1).up (by decide),by simp only [PyData.depth];omega,by simp only [nz];omega⟩
theorem sd_2 {N:Addr→Prop} {H:Hp} {p:Addr} {v w:V} (e:H p=some (.tup [v,w])) (h1:Sd N H v) (h2:Sd N H w):Tg N H 101 5 400 (.ref p):=by
 obtain ⟨d1,a1,b1,c1⟩:=h1;obtain ⟨d2,a2,b2,c2⟩:=h2;exact ⟨_,.tup e (.cons a1 (.cons a2 .nil)),by simp only [PyData.depth,PyData.depthAll];omega,by simp only [nz,Zr];omega⟩
theorem sd_l {N:Addr→Prop} {H:Hp} {p:Addr} {v w:V} (e:H p=some (.lst [v,w])) (nN:¬ N p) (nm:p≠sysModules) (h1:Sd N H v) (h2:Sd N H w):Tg N H 101 5 400 (.ref p):=by
 obtain ⟨d1,a1,b1,c1⟩:=h1;obtain ⟨d2,a2,b2,c2⟩:=h2;exact ⟨_,.lst e nN nm (.cons a1 (.cons a2 .nil)),by simp only [PyData.depth,PyData.depthAll];omega,by simp only [nz,Zr];omega⟩
theorem sd_1 {N:Addr→Prop} {H:Hp} {p:Addr} {v:V} (e:H p=some (.tup [v])) (h1:Sd N H v):Tg N H 101 5 400 (.ref p):=by
 obtain ⟨d1,a1,b1,c1⟩:=h1;exact ⟨_,.tup e (.cons a1 .nil),by simp only [PyData.depth,PyData.depthAll];omega,by simp only [nz,Zr];omega⟩
def Thg (l:Addr) (H0 H:Hp) (L:Addr) (n:Nat):Prop:=∃ (N:Addr→Prop) (XS:List V),N l∧N L∧Dom N H∧H L=some (.lst XS)∧XS.length≤n∧L≠l∧Tgs N H 101 5 400 XS∧H0 L=none∧Keep l H0 H
theorem Zp3 {l p:Addr} {H0 H:Hp} (k:Keep l H0 H) (st:StAt H l) (np:H p=none):H0 p=none:=by
 cases e:H0 p with
 | none=>rfl
 | some o=>rw [k _ _ (st.neN np) e] at np;cases np
theorem Zqs {l p:Addr} {H0 H:Hp} {ys:List V} {n:Nat} (k:Keep l H0 H) (st:StAt H l) (np:H p=none) (hl:ys.length≤n) (hy:∀ N,Tgs N H 101 5 400 ys):Thg l H0 (upd H p (.lst ys)) p n :=
 ⟨fun b=>b=l∨b=p,ys,.inl rfl,.inr rfl,((show Dom (fun b=>b=l) H from fun b z=>by obtain ⟨ys,e⟩:=st.lst';exact ⟨_,by rw [z];exact e⟩).same (Same.new np)).more Zc,Zc,hl,st.neN np,((hy _).more np).same (Same.new np),Zp3 k st np,k.trans (Same.new np).keep⟩
theorem Thg.cat {l p:Addr} {H0 H H1:Hp} {ys:List V} {n m:Nat} {N:Addr→Prop} {XS:List V} (a:N l) (c:Dom N H) (e:XS.length≤n) (g:Tgs N H 101 5 400 XS) (k:Keep l H0 H) (st:StAt H l) (s:Same H H1) (np:H1 p=none) (hm:n+ys.length≤m) (hy:Tgs N H1 101 5 400 ys):Thg l H0 (upd H1 p (.lst (XS++ys))) p m :=
 have st1:=st.same s
 ⟨fun b=>N b∨b=p,XS++ys,.inl a,.inr rfl,((c.same s).same (Same.new np)).more Zc,Zc,by rw [n26_];omega,st1.neN np,(((g.same s).app hy).more np).same (Same.new np),Zp3 (k.trans s.keep) st1 np,(k.trans s.keep).trans (Same.new np).keep⟩
theorem Thg.app {l L:Addr} {H0 H:Hp} {v:V} {n:Nat} {N:Addr→Prop} {XS:List V} (a:N l) (b:N L) (c:Dom N H) (d:H L=some (.lst XS)) (e:XS.length≤n) (f:L≠l) (g:Tgs N H 101 5 400 XS) (i:H0 L=none) (k:Keep l H0 H) (tv:Tg N H 101 5 400 v):Thg l H0 (upd H L (.lst (XS++[v]))) L (n+1) :=
 ⟨N,XS++[v],a,b,c.keep Keep.upd Zc,Zc,by rw [n26_,List.length_singleton];omega,f,Tgs.keep b d Keep.upd (g.app (Tgs.cons tv Tgs.nil)),i,fun b' o nb e=>by rw [Zj (Zm e i)];exact k _ _ nb e⟩
theorem Zlx {x:List Int×List Int} (h1:In64 x.1) (h2:In64 x.2):(datX x).depth≤2∧nz (datX x)≤150:=by
 obtain ⟨a1,a2⟩:=Ze9 h1;obtain ⟨b1,b2⟩:=Ze9 h2;exact ⟨by simp only [datX,PyData.depth,PyData.depthAll];omega,by simp only [datX,nz,Zr];omega⟩
theorem dt_X {N:Addr→Prop} {H:Hp} {t a b:Addr} {x:List Int×List Int} (ht:H t=some (.tup [.ref a,.ref b])) (ha:H a=some (.tup (x.1.map V.int))) (hb:H b=some (.tup (x.2.map V.int))) (h1:In64 x.1) (h2:In64 x.2):Dt N H 64 (.ref t) (datX x):=.tup ht (.cons (.tup ha (Za9 h1.2)) (.cons (.tup hb (Za9 h2.2)) .nil))
theorem Zuq {P:Pl} (ok:PlOk P) (p4:P.ps.length≤4) {d:PyData} (hd:d.depth≤5) (hz:nz d≤400):nz (.tuple [datP P,d])≤8000∧(PyData.tuple [datP P,d]).depth≤20:=by
 obtain ⟨n1,d1⟩:=Zh4 (f:=pl) (m:=2) (xs:=P.cs) fun x _=>rfl;obtain ⟨n2,d2⟩:=Zh4 (f:=id) (m:=3) (xs:=P.ps) fun x hx=>(ok.pc x hx).len;have d3:=Ze2 P.ts;have d4:=Ze2 [P.l,P.m];have c30:=ok.c30;have t1:=ok.t1;simp only [id] at n2 d2;constructor
 · simp only [datP,nz,Zr,n1,n2,Ze0];simp only [n15_,n53_];omega
 · simp only [datP,PyData.depth,PyData.depthAll];omega
theorem Zo7 (a:Str) (ss:List Str):inV (.str a) (ss.map V.str)=decide (a∈ss):=by
 unfold inV;rw [List.any_map,n56_,decide_eq_true_iff,List.any_eq_true];constructor
 · rintro ⟨x,hx,e⟩
   have:x=a:=by simpa [eqV] using e
   exact this ▸ hx
 · intro h;exact ⟨a,h,by simp [eqV]⟩
theorem Zs8 {P:Pl} {ts:List (List Int×List Int)} (pm:ts.Perm (Xj P)) (d:PyData):inV (.str d.shown) ((ts.map fun x=>(datX x).shown).map V.str)=isTurn P d:=by
 rw [Zo7];unfold isTurn;refine (@decide_eq_decide _ _ (_) (_)).mpr ⟨fun h=>?_,fun ⟨x,hx,e⟩=>?_⟩
 · obtain ⟨x,hx,e⟩:=n40_.mp h;exact ⟨x,pm.mem_iff.mp hx,Zki e.symm⟩
 · exact n40_.mpr ⟨x,pm.mem_iff.mpr hx,by rw [e]⟩
def Ziz (K:PySem.W.Frag):Sp:=fun vs H Q _=>∃ (a:Addr) (ns:List Int),vs=[.ref a]∧SqL K H a (ns.map V.int)∧ns.length≤63∧∀ H',Q (.bl true) H'
section
variable (P:Program) (w:World) (K:PySem.W.Frag) (mg:Str→Option Value) (base:Heap)
abbrev a0_:=Cal P w K mg base "is_whole" 1 ["thing"] Zc1
abbrev a1_:=Cal P w K mg base "is_between" 2 ["thing","least","most"] Zel
abbrev a2_:=Cal P w K mg base "is_row" 1 ["thing","fewest","most"] Zp7
abbrev a3_:=Cal P w K mg base "is_corner" 3 ["thing"] Zga
abbrev a4_:=Cal P w K mg base "turn" 1 ["first","second","third"] Zmd
abbrev a5_:=Cal P w K mg base "are_rising" 1 ["things"] Zeo
abbrev a6_:=Cal P w K mg base "turn_of" 2 ["corners","piece"] Zhi
abbrev a7_:=Cal P w K mg base "are_rising" 1 ["things"] Zeh
abbrev a8_:=Cal P w K mg base "is_piece" 3 ["corners","thing"] Zer
abbrev a9_:=Cal P w K mg base "edges" 1 ["points"] Zj8
abbrev a10_:=Cal P w K mg base "parts_from" 2 ["points","others"] Zcm
abbrev a11_:=Cal P w K mg base "lies_in" 2 ["point","points"] Zhl
abbrev a12_:=Cal P w K mg base "are_apart" 3 ["points","others"] Zjc
abbrev a13_:=Cal P w K mg base "no_strange_corner" 3 ["corners","piece","points"] Zek
abbrev a14_:=Cal P w K mg base "triangle" 2 ["corners","piece"] Zqk
abbrev a15_:=Cal P w K mg base "are_corners" 4 ["thing"] Zeu
abbrev a16_:=Cal P w K mg base "are_pieces" 4 ["corners","thing"] Zgm
abbrev a17_:=Cal P w K mg base "are_thicks" 3 ["pieces","thing"] Zg7
abbrev a18_:=Cal P w K mg base "every_corner_is_used" 2 ["corners","pieces"] Znh
abbrev a19_:=Cal P w K mg base "fit_together" 4 ["corners","pieces"] Zp4
abbrev a20_:=Cal P w K mg base "is_stuff" 3 ["thing"] Zj0
abbrev a21_:=Cal P w K mg base "is_plate" 5 ["thing"] Zej
abbrev a22_:=Cal P w K mg base "leads_pieces" 1 ["plate","order"] Zjo
abbrev a23_:=Cal P w K mg base "order_by" 1 ["corners","matrix"] (Zey K)
abbrev a24_:=Cal P w K mg base "is_row" 1 ["thing","fewest","most"] Zmt
abbrev a25_:=Cal P w K mg base "is_whole" 1 ["thing"] Zbt
abbrev a26_:=Cal P w K mg base "turnings_of" 2 ["plate"] (Zbx K)
abbrev a27_:=Cal P w K mg base "is_turning_of" 3 ["plate","thing"] (Zcx K)
abbrev a28_:=Cal P w K mg base "look_at_plate" 6 ["plate"] Zcg
abbrev a29_:=Cal P w K mg base "_law_cell_at" 1 ["_law_script","_law_k"] (Znl K)
abbrev a30_:=Cal P w K mg base "_law_choice" 1 ["_law_state_here","_law_many"] Zdo
abbrev a31_:=Cal P w K mg base "_law_order" 2 ["_law_state_here","_law_many"] Zj5
abbrev a32_:=Cal P w K mg base "_law_shapes" 1 [] Zgk
abbrev a33_:=Cal P w K mg base "_law_odd" 2 ["_law_state_here"] Zpt
abbrev a34_:=Cal P w K mg base "_law_whole" 1 ["_law_thing"] Zbt
abbrev a35_:=Cal P w K mg base "_law_matrices" 1 [] Znk
abbrev a36_:=Cal P w K mg base "_law_order_by" 1 ["_law_points","_law_matrix"] Zhb
abbrev a37_:=Cal P w K mg base "_law_bent" 5 ["_law_state_here","_law_thing"] (Zdx 2)
abbrev a38_:=Cal P w K mg base "_law_even_plate" 3 ["_law_state_here"] Znp
abbrev a39_:=Cal P w K mg base "_law_plate" 3 ["_law_state_here","_law_most"] Zjk
abbrev a40_:=Cal P w K mg base "_law_state" 2 ["_law_script","_law_k"] (Zjm K)
abbrev a41_:=Cal P w K mg base "_law_true" 1 ["_law_thing"] Zl8
abbrev a42_:=Cal P w K mg base "_law_turnings" 2 ["_law_plate_here"] Zj4
abbrev a43_:=Cal P w K mg base "is_turning" 7 ["plate","thing"] (Zcx K)
end
section
variable {P:Program} {w:World} {K:PySem.W.Frag} {mg:Str→Option Value} {base:Heap} {f:Addr} {fd:FuncData} (T:Bt mg)
include T
abbrev Zcc:Stmt:=top 4
theorem Zib (F:Fun K "is_whole" "is_whole" Zcc f fd):FnOk P w K mg base CX0 1 f fd ["thing"] Zc1:=by
 have sc:FnScope ["thing"] ["thing"] (Zf Zcc):=fsc (by decide +kernel);refine F.ok sc fun cdv A outer s H vs Q E hr h=>?_;obtain ⟨a,rfl,q⟩:=h;refine' ⟨_,?term,?read⟩
 case term=>refine' @Zh _ _ _ (Zn (Zbe (Zi Y9 rfl T.b_isinstance Z0 (Za (pv 0) (Za (Xx (v:=.ty "int") rfl T.b_int Zi1 rfl) Zb rfl) rfl)) (Za3 (Zi8 (Zi Y9 rfl T.b_isinstance Z0 (Za (pv 0) (Za (Xx (v:=.ty "bool") rfl T.b_bool Zig rfl) Zb rfl) rfl))))))
 refine ⟨_,rfl,_,_,_,_,rfl,TyOf.int a,rfl,true,rfl,iteT ?_⟩;refine ⟨_,rfl,_,_,_,_,rfl,TyOf.int a,rfl,false,rfl,q⟩
abbrev Zay:Stmt:=top 12
theorem Ze8 (F:Fun K "is_between" "is_between" Zay f fd) (Cak_:a0_ P w K mg base):FnOk P w K mg base CX0 2 f fd ["thing","least","most"] Zel:=by
 have sc:FnScope ["thing","least","most"] ["thing","least","most"] (Zf Zay):=fsc (by decide +kernel);refine F.ok sc fun cdv A outer s H vs Q E hr h=>?_;obtain ⟨i,lo,hi,rfl,h1,h2,q⟩:=h;refine' ⟨_,?term,?read⟩
 case term=>refine' @Zh _ _ _ (Zn (Zbe (Zk Cak_ hr (by decide) rfl (Za (pv 0) Zb rfl)) (Za3 (Zfr Zh6 Zh6 (pv 1) (pv 0) (pv 2)))))
 refine ⟨_,rfl,i,rfl,true,rfl,iteT ?_⟩;refine ⟨_,rfl,_,rfl,_,_,rfl,rfl,true,blT h1,iteT ?_⟩;exact ⟨_,rfl,_,_,rfl,rfl,qT h2 q⟩
abbrev Zfe:Stmt:=top 13
theorem Zlk (F:Fun K "is_row" "is_row" Zfe f fd):FnOk P w K mg base CX0 1 f fd ["thing","fewest","most"] Zp7:=by
 have sc:FnScope ["thing","fewest","most"] ["thing","fewest","most"] (Zf Zfe):=fsc (by decide +kernel);refine F.ok sc fun cdv A outer s H vs Q E hr h=>?_;obtain ⟨a,us,lo,hi,rfl,ha,h1,h2,q⟩:=h;refine' ⟨_,?term,?read⟩
 case term=>refine' @Zh _ _ _ (Zn (Zbe (Zi Y9 rfl T.b_isinstance Z0 (Za (pv 0) (Za (Xx (v:=.ty "tuple") rfl T.b_tuple Z5 rfl) Zb rfl) rfl)) (Za3 (Zfr Zh6 Zh6 (pv 1) (Zi Zq rfl T.b_len Y3 (Za (pv 0) Zb rfl)) (pv 2)))))
 refine ⟨_,rfl,_,_,_,_,rfl,TyOf.tup ha,rfl,true,rfl,iteT ?_⟩;refine ⟨_,rfl,_,rfl,a,_,rfl,.inr (SqT.of ha),_,_,rfl,rfl,true,blT h1,iteT ?_⟩;exact ⟨_,rfl,_,_,rfl,rfl,qT h2 q⟩
abbrev Zad:Stmt:=top 14
theorem Zd6 (F:Fun K "are_rising" "are_rising" Zad f fd):FnOk P w K mg base CX0 1 f fd ["things"] Zeo:=by
 have sc:FnScope ["things"] ["things"] (Zf Zad):=fsc (by decide +kernel);refine F.ok sc fun cdv A outer s H vs Q E hr h=>?_;obtain ⟨a,ns,rfl,ha,hz,hr',q⟩:=h;refine' ⟨_,?term,?read⟩
 case term=>refine' @Zh _ _ _ (Zn (Zi (Yo rfl) rfl T.b_all Zaq (Za (Xh (g:=(gTup K 2 (Y6 (Yr 0) (Y6 (Yr 1) gNil)))) (N:=["one","other"]) (fr:=[none,none]) rfl (Ys (by decide) rfl (by decide) rfl rfl) (Zqe .t .t rfl T.b_zip (Za (pv 0) (Za (X4 Zbf (pv 0) (Zax Zd) Zav) Zb rfl) rfl)) (fun _ _ _ _=>Yg (n:=2) rfl (Zg (pgB 0) (Zg (pgB 1) Zz))) (fun _ _ _ _=>Zs) (fun _ _ _ _=>Xs Zna (pv 0) (pv 1) (Yn _))) Zb rfl)))
 refine ⟨_,rfl,_,rfl,_,rfl,a,_,rfl,ha,fun p H1 s1 h1=>?_⟩;rw [cut1] at h1;refine ⟨a,p,rfl,⟨_,SqT.of (s1 _ _ ha)⟩,⟨_,SqT.of h1⟩,fun D nD=>?_⟩;refine lc_Z (k:=.t) (l:=.t) (vs:=ns.map V.int) (ws:=(ns.map V.int).drop 1) (fun _ v b=>v=V.bl b) (fun _ _ _ _ _ e=>e) (List.replicate (ns.length-1) true) (by simp) (by simp;omega) nD (s1 _ _ ha) h1 (fun i v w H2 C hv hw s2 c=>?_) (fun H2 us s2 e2 a2=>?_)
 · rw [List.getElem?_drop,n6_,Nat.add_comm] at hw;rw [n6_] at hv;obtain ⟨x,ex,rfl⟩:=n16_.mp hv;obtain ⟨y,ey,rfl⟩:=n16_.mp hw;refine ⟨_,rfl,_,rfl,_,_,rfl,rfl,qT (hr' i x y ex ey) (c _ _ true (Same.refl _) ?_ rfl)⟩
   have:i+1<ns.length:=(n19_.mp ey).1
   rw [List.getElem?_replicate,if_pos (by omega)]
 · rw [a2.bls] at e2;refine ⟨D,List.replicate (ns.length-1) true,rfl,SqL.of e2,?_⟩;rw [List.all_replicate];split<;>exact q _ (s1.trans s2)
abbrev Zbm:Stmt:=top 14
theorem Zd4 (F:Fun K "are_rising" "are_rising" Zbm f fd):FnOk P w K mg base CX0 1 f fd ["things"] Zeh:=by
 have sc:FnScope ["things"] ["things"] (Zf Zbm):=fsc (by decide +kernel);refine F.ok sc fun cdv A outer s H vs Q E hr h=>?_;obtain ⟨a,us,ks,rfl,ha,al,hz,hr',q⟩:=h;have hu:=Zk9 hr;have hu1:=Nat.lt_of_succ_lt hu;refine' ⟨_,?term,?read⟩
 case term=>refine' @Zh _ _ _ (Zn (Zi (Yo rfl) rfl T.b_all Zaq (Za (Xh (g:=(gTup K 2 (Y6 (Yr 0) (Y6 (Yr 1) gNil)))) (N:=["one","other"]) (fr:=[none,none]) rfl (Ys (by decide) rfl (by decide) rfl rfl) (Zqe .t .t rfl T.b_zip (Za (pv 0) (Za (X4 Zbf (pv 0) (Zax Zd) Zav) Zb rfl) rfl)) (fun _ _ _ _=>Yg (n:=2) rfl (Zg (pgB 0) (Zg (pgB 1) Zz))) (fun _ _ _ _=>Zs) (fun _ _ _ _=>Xs (show OpR _ (compareOp .Lt) (rLtT K) from Ztq hu1) (pv 0) (pv 1) (Yn _))) Zb rfl)))
 refine ⟨_,rfl,_,rfl,_,rfl,a,_,rfl,ha,fun p H1 s1 h1=>?_⟩;rw [cut1] at h1;refine ⟨a,p,rfl,⟨_,SqT.of (s1 _ _ ha)⟩,⟨_,SqT.of h1⟩,fun D nD=>?_⟩;refine lc_Z (k:=.t) (l:=.t) (vs:=us) (ws:=us.drop 1) RB hRB (List.replicate (us.length-1) true) (by simp) (by simp;omega) nD (s1 _ _ ha) h1 (fun i v w H2 C hv hw s2 c=>?_) (fun H2 us' s2 e2 a2=>?_)
 · rw [List.getElem?_drop,Nat.add_comm] at hw;obtain ⟨x,ex,a,rfl,qa⟩:=al.get hv;obtain ⟨y,ey,b,rfl,qb⟩:=al.get hw;refine ⟨_,rfl,_,rfl,a,b,x,y,rfl,rfl,SqT.of ((s1.trans s2) _ _ qa),SqT.of ((s1.trans s2) _ _ qb),?_⟩;rw [hr' i x y ex ey];refine c _ _ true (Same.refl _) (repT ?_) rfl
   have:=Xk hw
   omega
 · rw [a2.bls] at e2;refine ⟨D,List.replicate (us.length-1) true,rfl,SqL.of e2,?_⟩;rw [allT];exact q _ (s1.trans s2)
abbrev Zbh:Stmt:=top 15
theorem Zg0 (F:Fun K "is_corner" "is_corner" Zbh f fd) (Cc_:a1_ P w K mg base) (Cb_:a2_ P w K mg base):FnOk P w K mg base CX0 3 f fd ["thing"] Zga:=by
 have sc:FnScope ["thing"] ["thing"] (Zf Zbh):=fsc (by decide +kernel);refine F.ok sc fun cdv A outer s H vs Q E hr h=>?_;obtain ⟨v,p,rfl,⟨a,rfl,ha⟩,⟨⟨n1,n2⟩,n3,n4⟩,q⟩:=h;refine' ⟨_,?term,?read⟩
 case term=>refine' @Zh _ _ _ (Zn (Zbe (Zk Cb_ hr (by decide) rfl (Za (pv 0) (Za Zd (Za Zd Zb rfl) rfl) rfl)) (Za3 (Zi (Yo rfl) rfl T.b_all Zaq (Za (Xh (N:=["part"]) (fr:=[none]) rfl (Ys (by decide) rfl (by decide) rfl rfl) (Y2 (pv 0)) (fun _ _ _ _=>pgB 0) (fun _ _ _ _=>Zs) (fun _ _ _ _=>Zk Cc_ hr (by decide) rfl (Za (pv 0) (Za (Zco Zap (Zaz T.n_FARTHEST rfl)) (Za (Zaz T.n_FARTHEST rfl) Zb rfl) rfl) rfl))) Zb rfl)))))
 refine ⟨_,rfl,a,_,2,2,rfl,ha,by simp,by simp,true,rfl,iteT ?_⟩;refine ⟨_,rfl,a,rfl,⟨_,SqT.of ha⟩,fun D nD=>?_⟩;refine lc_T (k:=.t) (vs:=[V.int p.1,V.int p.2]) RB hRB [true,true] rfl (by simp) nD ha (fun i w H2 C hw s2 c=>?_) (fun H2 us' s2 e2 a2=>?_)
 · have hi:i=0∨i=1:=by have:i<2:=Xk hw;omega
   rcases hi with rfl|rfl
   · cases (show V.int p.1=w by simpa using hw)
     exact ⟨_,rfl,_,rfl,p.1,-100,100,rfl,n1,n2,c _ _ true (Same.refl _) rfl rfl⟩
   · cases (show V.int p.2=w by simpa using hw)
     exact ⟨_,rfl,_,rfl,p.2,-100,100,rfl,n3,n4,c _ _ true (Same.refl _) rfl rfl⟩
 · rw [a2.bls] at e2;exact ⟨D,[true,true],rfl,SqL.of e2,q _ s2⟩
abbrev Zai:Stmt:=top 16
theorem Zed (F:Fun K "are_corners" "are_corners" Zai f fd) (Cah_:a3_ P w K mg base) (Cb_:a2_ P w K mg base):FnOk P w K mg base CX0 4 f fd ["thing"] Zeu:=by
 have sc:FnScope ["thing"] ["thing"] (Zf Zai):=fsc (by decide +kernel);refine F.ok sc fun cdv A outer s H vs Q E hr h=>?_;obtain ⟨v,cs,rfl,⟨a,us,rfl,ha,al⟩,h3,h30,nr,nd',q⟩:=h;refine' ⟨_,?term,?read⟩
 case term=>refine' @Ze _ _ _ _ _ ?g1 (Zh (Zn (Xs Zmo (Zi Znt rfl T.b_len Y3 (Za (Zu (Zm8 rfl hr) rfl T.b_set Zt4 (Za (pv 0) Zb rfl)) Zb rfl)) (Zi Zq rfl T.b_len Y3 (Za (pv 0) Zb rfl)) (Yn _))));case g1=>refine' @Xg _ _ _ _ _ _ _ _ ?g2 (Zh (Zn X0)) Z1;case g2=>refine' @PW.pt _ _ _ ?g3;case g3=>refine' @Zim _ _ _ _ _ _ _ (Y7 (Zy (Zk Cb_ hr (by decide) rfl (Za (pv 0) (Za (Zaz T.n_FEWEST_CORNERS rfl) (Za (Zaz T.n_MOST_CORNERS rfl) Zb rfl) rfl) rfl)) (fun _=>rfl))) ?g4;case g4=>refine' @Zdz _ _ _ _ ?g5;case g5=>refine' @Y7 _ _ _ _ ?g6;case g6=>refine' @Zy _ _ _ (Zi (Yo rfl) rfl T.b_all Zaq (Za (Xh (N:=["part"]) (fr:=[none]) rfl (Ys (by decide) rfl (by decide) rfl rfl) (Y2 (pv 0)) (fun _ _ _ _=>pgB 0) (fun _ _ _ _=>Zs) (fun _ _ _ _=>Zk Cah_ hr (by decide) rfl (Za (pv 0) Zb rfl))) Zb rfl)) (fun _=>rfl)
 have hl:=al.1;refine ⟨_,rfl,a,_,3,30,rfl,ha,by omega,by omega,true,rfl,iteF ?_⟩;refine ⟨_,rfl,a,rfl,⟨_,SqT.of ha⟩,fun D nD=>?_⟩;refine lc_T (k:=.t) (vs:=us) RB hRB (List.replicate us.length true) (by simp) (by omega) nD ha (fun i w H2 C hw s2 c=>?_) (fun H2 us' s2 e2 a2=>?_)
 · obtain ⟨p,ep,rp⟩:=al.get hw;exact ⟨_,rfl,w,p,rfl,rp.tk s2.tk,nr p (n10_ ep),fun H5 s5=>c _ _ true s5 (repT (Xk hw)) rfl⟩
 · rw [a2.bls] at e2;refine ⟨D,List.replicate us.length true,rfl,SqL.of e2,true,by rw [allT];rfl,iteF ?_⟩;refine ⟨_,rfl,a,us,cs.map (fun p=>[p.1,p.2]),rfl,SqT.of (s2 _ _ ha),by simp [hl],fun i v hv=>?_,?_,by simp;omega,fun S nS=>?_⟩
   · obtain ⟨p,ep,b,rfl,hb⟩:=al.get hv;exact ⟨b,[p.1,p.2],rfl,by rw [n6_,ep];rfl,SqT.of (s2 _ _ hb)⟩
   · rw [n48_,List.pairwise_map];refine (n48_.mp nd').imp fun {x y} ne e=>ne ?_;simp at e;exact Prod.ext e.1 e.2
   · have s3:Same H2 (upd H2 S (.ext (Zen S (cs.map fun p=>[p.1,p.2]).length))):=Same.new nS;refine ⟨S,_,rfl,Zc,by rw [n5_,sizeLine_eq];omega,_,rfl,a,us,rfl,.inr (SqT.of (s3 _ _ (s2 _ _ ha))),rfl,?_⟩;have e:V.int ((cs.map fun p=>[p.1,p.2]).length:Nat)=V.int us.length:=by rw [n5_,hl]
     exact qT e (q _ (s2.trans s3))
abbrev Zl3:Stmt:=top 17
theorem Zq7 (F:Fun K "turn" "turn" Zl3 f fd):FnOk P w K mg base CX0 1 f fd ["first","second","third"] Zmd:=by
 have sc:FnScope ["first","second","third","ahead"] ["first","second","third"] (Zf Zl3):=fsc (by decide +kernel);refine F.ok sc fun cdv A outer s H vs Q E hr h=>?_;obtain ⟨u,v,w,a,b,c,rfl,⟨pa,rfl,ha⟩,⟨pb,rfl,hb⟩,⟨pc,rfl,hc⟩,na,nb,nc,q⟩:=h;have nd:=sc.nd;refine' ⟨_,?term,?read⟩
 case term=>refine' @Ze _ _ _ _ _ ?g1 ?g2;(case g1=>refine' @Zt _ _ (3) _ _ _ _ nd rfl (Or.inl rfl) ?g3 (by rfl) (by first|exact Or.inl rfl|exact Or.inr rfl|assumption);case g3=>refine' @Zp _ _ _ _ _ _ _ _ Z6 ?g4 ?g5;(case g4=>refine' @Zp _ _ _ _ _ _ _ _ Xd (Zv Z3 (pv 1) Zd (fun _ _=>rfl)) (Zv Z3 (pv 0) Zd (fun _ _=>rfl)));case g5=>refine' @Zp _ _ _ _ _ _ _ _ Xd (Zv Z3 (pv 2) Zd (fun _ _=>rfl)) (Zv Z3 (pv 0) Zd (fun _ _=>rfl)));case g2=>refine' @Zh _ _ _ ?g6;case g6=>refine' @Zn _ _ _ _ ?g7;case g7=>refine' @Zp _ _ _ _ _ _ _ _ Xd (pv 3) ?g8;case g8=>refine' @Zp _ _ _ _ _ _ _ _ Z6 ?g9 ?ga;(case g9=>refine' @Zp _ _ _ _ _ _ _ _ Xd (Zv Z3 (pv 2) Zd (fun _ _=>rfl)) (Zv Z3 (pv 0) Zd (fun _ _=>rfl)));case ga=>refine' @Zp _ _ _ _ _ _ _ _ Xd (Zv Z3 (pv 1) Zd (fun _ _=>rfl)) (Zv Z3 (pv 0) Zd (fun _ _=>rfl))
 obtain ⟨⟨a1,a2⟩,a3,a4⟩:=na;obtain ⟨⟨b1,b2⟩,b3,b4⟩:=nb;obtain ⟨⟨c1,c2⟩,c3,c4⟩:=nc;refine ⟨_,rfl,pb,_,0,_,rfl,rfl,SqT.of hb,rfl,_,rfl,pa,_,0,_,rfl,rfl,SqT.of ha,rfl,_,_,rfl,rfl,_,rfl,pc,_,1,_,rfl,rfl,SqT.of hc,rfl,_,rfl,pa,_,1,_,rfl,rfl,SqT.of ha,rfl,_,_,rfl,rfl,_,_,rfl,rfl,mul3 (by omega) (by omega),?_⟩;refine ⟨_,rfl,_,rfl,pc,_,0,_,rfl,rfl,SqT.of hc,rfl,_,rfl,pa,_,0,_,rfl,rfl,SqT.of ha,rfl,_,_,rfl,rfl,_,rfl,pb,_,1,_,rfl,rfl,SqT.of hb,rfl,_,rfl,pa,_,1,_,rfl,rfl,SqT.of ha,rfl,_,_,rfl,rfl,_,_,rfl,rfl,mul3 (by omega) (by omega),_,_,rfl,rfl,?_⟩;exact q
abbrev Zdb:Stmt:=top 18
theorem Zkz (F:Fun K "turn_of" "turn_of" Zdb f fd) (Cf_:a4_ P w K mg base):FnOk P w K mg base CX0 2 f fd ["corners","piece"] Zhi:=by
 have sc:FnScope ["corners","piece"] ["corners","piece"] (Zf Zdb):=fsc (by decide +kernel);refine F.ok sc fun cdv A outer s H vs Q E hr h=>?_;obtain ⟨u,v,cs,p,rfl,⟨a,us,rfl,ha,al⟩,⟨b,rfl,hb⟩,hl,bd,nr,q⟩:=h;refine' ⟨_,?term,?read⟩
 case term=>refine' @Zh _ _ _ ?g1;case g1=>refine' @Zn _ _ _ _ ?g2;case g2=>refine' @Zk _ _ _ _ _ _ _ _ _ _ _ Cf_ hr (by decide) rfl ?g3 (by decide) (by rfl) (by rfl);case g3=>refine' @Za _ _ _ _ _ ?g4 ?g5 rfl;(case g4=>refine' @Zv _ _ _ _ _ _ _ Z3 (pv 0) (Zv Z3 (pv 1) Zd (fun _ _=>rfl)) (fun _ _=>rfl));case g5=>refine' @Za _ _ _ _ _ ?g6 ?g7 rfl;(case g6=>refine' @Zv _ _ _ _ _ _ _ Z3 (pv 0) (Zv Z3 (pv 1) Zd (fun _ _=>rfl)) (fun _ _=>rfl));case g7=>refine' @Za _ _ _ _ _ ?g8 Zb rfl;case g8=>refine' @Zv _ _ _ _ _ _ _ Z3 (pv 0) (Zv Z3 (pv 1) Zd (fun _ _=>rfl)) (fun _ _=>rfl)
 match p,hl with
 | [i,j,k],_ =>
   have bi:=bd i (by simp);have bj:=bd j (by simp);have bk:=bd k (by simp);obtain ⟨x,ex,rx⟩:=Zpi al bi.1 bi.2;obtain ⟨y,ey,ry⟩:=Zpi al bj.1 bj.2;obtain ⟨z,ez,rz⟩:=Zpi al bk.1 bk.2;refine ⟨_,rfl,_,rfl,b,_,0,_,rfl,rfl,SqT.of hb,rfl,a,us,i,x,rfl,rfl,SqT.of ha,ex,?_⟩;refine ⟨_,rfl,_,rfl,b,_,1,_,rfl,rfl,SqT.of hb,rfl,a,us,j,y,rfl,rfl,SqT.of ha,ey,?_⟩;refine ⟨_,rfl,_,rfl,b,_,2,_,rfl,rfl,SqT.of hb,rfl,a,us,k,z,rfl,rfl,SqT.of ha,ez,?_⟩;exact ⟨x,y,z,_,_,_,rfl,rx,ry,rz,nr _ (Zag bi.1 bi.2),nr _ (Zag bj.1 bj.2),nr _ (Zag bk.1 bk.2),q⟩
abbrev Zba:Stmt:=top 19
theorem Zhq (F:Fun K "is_piece" "is_piece" Zba f fd) (Cu_:a5_ P w K mg base) (Cc_:a1_ P w K mg base) (Cb_:a2_ P w K mg base) (Caq_:a6_ P w K mg base):FnOk P w K mg base CX0 3 f fd ["corners","thing"] Zer:=by
 have sc:FnScope ["corners","thing"] ["corners","thing"] (Zf Zba):=fsc (by decide +kernel);refine F.ok sc fun cdv A outer s H vs Q E hr h=>?_;obtain ⟨u,v,cs,p,rfl,⟨a,us,rfl,ha,al⟩,⟨b,rfl,hb⟩,ok,nr,q⟩:=h;refine' ⟨_,?term,?read⟩
 case term=>refine' @Ze _ _ _ _ _ ?g1 (Zh (Zn (Zbe (Zk Cu_ hr (by decide) rfl (Za (pv 1) Zb rfl)) (Za3 (Xs Zl2 (Zk Caq_ hr (by decide) rfl (Za (pv 0) (Za (pv 1) Zb rfl) rfl)) Zd (Yn _))))));case g1=>refine' @Xg _ _ _ _ _ _ _ _ ?g2 (Zh (Zn X0)) Z1;case g2=>refine' @PW.pt _ _ _ ?g3;case g3=>refine' @Zim _ _ _ _ _ _ _ (Y7 (Zy (Zk Cb_ hr (by decide) rfl (Za (pv 1) (Za Zd (Za Zd Zb rfl) rfl) rfl)) (fun _=>rfl))) ?g4;case g4=>refine' @Zdz _ _ _ _ ?g5;case g5=>refine' @Y7 _ _ _ _ ?g6;case g6=>refine' @Zy _ _ _ (Zi (Yo rfl) rfl T.b_all Zaq (Za (Xh (N:=["part","corners"]) (fr:=[none,some 0]) rfl (Z4 (XN:=["corners","thing"]) (Scope.names (Zf Zba)) rfl rfl rfl (fun _ h=>Zx h) (by decide +kernel) rfl) (Y2 (pv 1)) (fun _ _ _ _=>pgB 0) (fun _ _ _ _=>Zs) (fun _ _ _ _=>Zk Cc_ hr (by decide) rfl (Za (pv 0) (Za Zd (Za (Zp Xd (Zi (Zf0 K rfl) rfl T.b_len Y3 (Za (pv 1) Zb rfl)) Zd) Zb rfl) rfl) rfl))) Zb rfl)) (fun _=>rfl)
 have hl:=ok.len;have hl2:=al.1;refine ⟨_,rfl,b,_,3,3,rfl,hb,by simp [hl],by simp [hl],true,rfl,iteF ?_⟩;refine ⟨_,rfl,b,rfl,⟨_,SqT.of hb⟩,fun D nD=>?_⟩;refine lc_T (k:=.t) (vs:=p.map V.int) RB hRB (List.replicate 3 true) (by simp [hl]) (by simp [hl]) nD hb (fun i w H2 C hw s2 c=>?_) (fun H2 us' s2 e2 a2=>?_)
 · rw [n6_] at hw;obtain ⟨x,ex,rfl⟩:=n16_.mp hw;obtain ⟨b1,b2⟩:=ok.bd x (n10_ ex);refine ⟨_,rfl,_,rfl,a,us,rfl,.inr (SqT.of (s2 _ _ ha)),_,_,rfl,rfl,x,0,_,rfl,b1,by rw [hl2];exact b2,c _ _ true (Same.refl _) (repT ?_) rfl⟩
   have:=Xk ex
   omega
 · rw [a2.bls] at e2;refine ⟨D,List.replicate 3 true,rfl,SqL.of e2,true,by rw [allT];rfl,iteF ?_⟩;refine ⟨_,rfl,b,p,rfl,s2 _ _ hb,by omega,fun i x y ex ey=>?_,fun H3 s3=>⟨true,rfl,iteT ?_⟩⟩
   · have r:=ok.rise
     match p,hl with
     | [i0,i1,i2],_ =>
       match i,ex,ey with
       | 0,ex,ey=>simp at ex ey;subst ex;subst ey;exact r.1
       | 1,ex,ey=>simp at ex ey;subst ex;subst ey;exact r.2
       | 2,ex,ey=>simp at ey
       | (n+3),ex,ey=>simp at ex
   · have s4:=s2.trans s3;refine ⟨_,rfl,_,rfl,_,_,cs,p,rfl,⟨a,us,rfl,s4 _ _ ha,al.imp fun v x r=>r.tk s4.tk⟩,⟨b,rfl,s4 _ _ hb⟩,hl,ok.bd,nr,rfl,?_⟩;have e:decide (V.int (dOf cs p)=V.int 0)=false:=n25_ fun z=>ok.d (V.int.inj z);rw [e];exact q _ s4
abbrev X3:Stmt:=top 20
theorem Zf3 (F:Fun K "are_pieces" "are_pieces" X3 f fd) (Cv_:a7_ P w K mg base) (Cal_:a8_ P w K mg base) (Cb_:a2_ P w K mg base):FnOk P w K mg base CX0 4 f fd ["corners","thing"] Zgm:=by
 have sc:FnScope ["corners","thing"] ["corners","thing"] (Zf X3):=fsc (by decide +kernel);refine F.ok sc fun cdv A outer s H vs Q E hr h=>?_;obtain ⟨u,v,cs,ps,rfl,hc,⟨b,ws,rfl,hb,bl⟩,p1,p40,pc,rise,nr,q⟩:=h;refine' ⟨_,?term,?read⟩
 case term=>refine' @Ze _ _ _ _ _ ?g1 (Zh (Zn (Zk Cv_ hr (by decide) rfl (Za (pv 1) Zb rfl))));case g1=>refine' @Xg _ _ _ _ _ _ _ _ ?g2 (Zh (Zn X0)) Z1;case g2=>refine' @PW.pt _ _ _ ?g3;case g3=>refine' @Zim _ _ _ _ _ _ _ (Y7 (Zy (Zk Cb_ hr (by decide) rfl (Za (pv 1) (Za Zd (Za (Zaz T.n_MOST_PIECES rfl) Zb rfl) rfl) rfl)) (fun _=>rfl))) ?g4;case g4=>refine' @Zdz _ _ _ _ ?g5;case g5=>refine' @Y7 _ _ _ _ ?g6;case g6=>refine' @Zy _ _ _ (Zi (Yo rfl) rfl T.b_all Zaq (Za (Xh (N:=["part","corners"]) (fr:=[none,some 0]) rfl (Z4 (XN:=["corners","thing"]) (Scope.names (Zf X3)) rfl rfl rfl (fun _ h=>Zx h) (by decide +kernel) rfl) (Y2 (pv 1)) (fun _ _ _ _=>pgB 0) (fun _ _ _ _=>Zs) (fun _ _ _ _=>Zk Cal_ hr (by decide) rfl (Za (pv 1) (Za (pv 0) Zb rfl) rfl))) Zb rfl)) (fun _=>rfl)
 have hl:=bl.1;refine ⟨_,rfl,b,_,1,40,rfl,hb,by omega,by omega,true,rfl,iteF ?_⟩;refine ⟨_,rfl,b,rfl,⟨_,SqT.of hb⟩,fun D nD=>?_⟩;refine lc_T (k:=.t) (vs:=ws) RB hRB (List.replicate ws.length true) (by simp) (by omega) nD hb (fun i w H2 C hw s2 c=>?_) (fun H2 us' s2 e2 a2=>?_)
 · obtain ⟨p,ep,rp⟩:=bl.get hw;exact ⟨_,rfl,_,rfl,_,_,cs,p,rfl,hc.tk s2.tk,rp.tk s2.tk,pc p (n10_ ep),nr,fun H5 s5=>c _ _ true s5 (repT (Xk hw)) rfl⟩
 · rw [a2.bls] at e2;refine ⟨D,List.replicate ws.length true,rfl,SqL.of e2,true,by rw [allT];rfl,iteF ?_⟩;refine ⟨_,rfl,b,ws,ps,rfl,s2 _ _ hb,bl.imp fun v x r=>r.tk s2.tk,by omega,fun i x y ex ey=>?_,fun H3 s3=>q _ (s2.trans s3)⟩
   have:=rise i (Xk ey)
   rw [n4_,n4_,ex,ey] at this;exact this
abbrev Zau:Stmt:=top 21
theorem Zfh (F:Fun K "are_thicks" "are_thicks" Zau f fd) (Cc_:a1_ P w K mg base) (Cb_:a2_ P w K mg base):FnOk P w K mg base CX0 3 f fd ["pieces","thing"] Zg7:=by
 have sc:FnScope ["pieces","thing"] ["pieces","thing"] (Zf Zau):=fsc (by decide +kernel);refine F.ok sc fun cdv A outer s H vs Q E hr h=>?_;obtain ⟨u,v,ps,ts,rfl,⟨a,us,rfl,ha,al⟩,⟨b,rfl,hb⟩,hl,p40,t9,q⟩:=h;refine' ⟨_,?term,?read⟩
 case term=>refine' @Ze _ _ _ _ _ (Xg (Y7 (Zy (Zk Cb_ hr (by decide) rfl (Za (pv 1) (Za (Zi Zq rfl T.b_len Y3 (Za (pv 0) Zb rfl)) (Za (Zi Zq rfl T.b_len Y3 (Za (pv 0) Zb rfl)) Zb rfl) rfl) rfl)) (fun _=>rfl))) (Zh (Zn X0)) Z1) (Zh (Zn (Zi (Yo rfl) rfl T.b_all Zaq (Za (Xh (N:=["part"]) (fr:=[none]) rfl (Ys (by decide) rfl (by decide) rfl rfl) (Y2 (pv 1)) (fun _ _ _ _=>pgB 0) (fun _ _ _ _=>Zs) (fun _ _ _ _=>Zk Cc_ hr (by decide) rfl (Za (pv 0) (Za Zd (Za (Zaz T.n_THICKEST rfl) Zb rfl) rfl) rfl))) Zb rfl))))
 have hl2:=al.1;have hl3:((ts.map V.int).length:Int)=us.length:=by simp;omega
 refine ⟨_,rfl,_,rfl,a,us,rfl,.inr (SqT.of ha),_,rfl,a,us,rfl,.inr (SqT.of ha),b,_,_,_,rfl,hb,by rw [hl3];exact Int.le_refl _,by rw [hl3];exact Int.le_refl _,true,rfl,iteF ?_⟩;refine ⟨_,rfl,b,rfl,⟨_,SqT.of hb⟩,fun D nD=>?_⟩;refine lc_T (k:=.t) (vs:=ts.map V.int) RB hRB (List.replicate ts.length true) (by simp) (by simp;omega) nD hb (fun i w H2 C hw s2 c=>?_) (fun H2 us' s2 e2 a2=>?_)
 · rw [n6_] at hw;obtain ⟨x,ex,rfl⟩:=n16_.mp hw;obtain ⟨b1,b2⟩:=t9 x (n10_ ex);exact ⟨_,rfl,x,1,9,rfl,b1,b2,c _ _ true (Same.refl _) (repT (Xk ex)) rfl⟩
 · rw [a2.bls] at e2;refine ⟨D,List.replicate ts.length true,rfl,SqL.of e2,?_⟩;rw [allT];exact q _ s2
abbrev Zb8:Stmt:=top 22
theorem Zh1 (F:Fun K "is_stuff" "is_stuff" Zb8 f fd) (Cc_:a1_ P w K mg base) (Cb_:a2_ P w K mg base):FnOk P w K mg base CX0 3 f fd ["thing"] Zj0:=by
 have sc:FnScope ["thing"] ["thing"] (Zf Zb8):=fsc (by decide +kernel);refine F.ok sc fun cdv A outer s H vs Q E hr h=>?_;obtain ⟨v,l,m,rfl,⟨b,rfl,hb⟩,l9,m9,q⟩:=h;refine' ⟨_,?term,?read⟩
 case term=>refine' @Ze _ _ _ _ _ (Xg (Y7 (Zy (Zk Cb_ hr (by decide) rfl (Za (pv 0) (Za Zd (Za Zd Zb rfl) rfl) rfl)) (fun _=>rfl))) (Zh (Zn X0)) Z1) ?g1;case g1=>refine' @Zh _ _ _ ?g2;case g2=>refine' @Zn _ _ _ _ ?g3;case g3=>refine' @Zbe _ _ _ _ _ _ _ (Zk Cc_ hr (by decide) rfl (Za (Zv Z3 (pv 0) Zd (fun _ _=>rfl)) (Za Zd (Za (Zaz T.n_MOST_STUFF rfl) Zb rfl) rfl) rfl)) (Za3 (Zk Cc_ hr (by decide) rfl (Za (Zv Z3 (pv 0) Zd (fun _ _=>rfl)) (Za Zd (Za (Zaz T.n_MOST_STUFF rfl) Zb rfl) rfl) rfl)))
 refine ⟨_,rfl,b,_,2,2,rfl,hb,by simp,by simp,true,rfl,iteF ?_⟩;refine ⟨_,rfl,b,_,0,_,rfl,rfl,SqT.of hb,rfl,l,0,9,rfl,l9.1,l9.2,true,rfl,iteT ?_⟩;exact ⟨_,rfl,b,_,1,_,rfl,rfl,SqT.of hb,rfl,m,1,9,rfl,m9.1,m9.2,q⟩
abbrev Za6:Stmt:=top 23
theorem Zia (F:Fun K "triangle" "triangle" Za6 f fd) (Cf_:a4_ P w K mg base):FnOk P w K mg base CX0 2 f fd ["corners","piece"] Zqk:=by
 have sc:FnScope ["corners","piece","first","second","third"] ["corners","piece"] (Zf Za6):=fsc (by decide +kernel);refine F.ok sc fun cdv A outer s H vs Q E hr h=>?_;obtain ⟨u,v,cs,p,rfl,⟨a,us,rfl,ha,al⟩,⟨b,rfl,hb⟩,hl,bd,nr,q⟩:=h;have nd:=sc.nd;refine' ⟨_,?term,?read⟩
 case term=>refine' @Ze _ _ _ _ _ (Xo (Xh (N:=["number","corners"]) (fr:=[none,some 0]) rfl (Z4 (XN:=["corners","piece","first","second","third"]) (Scope.names (Zf Za6)) rfl rfl rfl (fun _ h=>Zx h) (by decide +kernel) rfl) (Y2 (pv 1)) (fun _ _ _ _=>pgB 0) (fun _ _ _ _=>Zs) (fun _ _ _ _=>Zv (Zcb K rfl) (pv 1) (pv 0) (fun _ _=>rfl))) (Ztp (n:=3) rfl (Zg (Zl (i:=2) nd rfl (Or.inl rfl)) (Zg (Zl (i:=3) nd rfl (Or.inl rfl)) (Zg (Zl (i:=4) nd rfl (Or.inl rfl)) Zz))))) (Ze (Xg (Yl Zna (Zk Cf_ hr (by decide) rfl (Za (pv 2) (Za (pv 3) (Za (pv 4) Zb rfl) rfl) rfl)) Zd (Yn _)) (Zh (Zn (Zo (Za (pv 2) (Za (pv 4) (Za (pv 3) Zb rfl) rfl) rfl)))) Z1) (Zh (Zn (Zo (Za (pv 2) (Za (pv 3) (Za (pv 4) Zb rfl) rfl) rfl)))))
 refine ⟨_,rfl,b,rfl,⟨_,SqT.of hb⟩,fun D nD=>?_⟩;refine lc_T (k:=.t) (vs:=p.map V.int) IsP hRP (p.map (cAt cs)) (by simp) (by simp [hl]) nD hb (fun i w H2 C hw s2 c=>?_) (fun H2 us' s2 e2 a2=>?_)
 · rw [n6_] at hw;obtain ⟨x,ex,rfl⟩:=n16_.mp hw;obtain ⟨b1,b2⟩:=bd x (n10_ ex);obtain ⟨v,ev,rv⟩:=Zpi al b1 b2;exact ⟨_,rfl,_,rfl,a,us,x,v,rfl,rfl,SqT.of (s2 _ _ ha),ev,c _ _ _ (Same.refl _) (by rw [n6_,ex];rfl) (rv.tk s2.tk)⟩
 · obtain ⟨x,y,z,rfl,rx,ry,rz⟩:=cs3 (al.imp fun v x r=>r.tk s2.tk) hl bd a2;have nx:=nr (cAt cs (p.getD 0 0)) (by obtain ⟨i,j,k,rfl⟩:=len3 hl;exact Zag (bd i (by simp)).1 (bd i (by simp)).2);have ny:=nr (cAt cs (p.getD 1 0)) (by obtain ⟨i,j,k,rfl⟩:=len3 hl;exact Zag (bd j (by simp)).1 (bd j (by simp)).2);have nz:=nr (cAt cs (p.getD 2 0)) (by obtain ⟨i,j,k,rfl⟩:=len3 hl;exact Zag (bd k (by simp)).1 (bd k (by simp)).2);refine ⟨D,_,rfl,SqL.of e2,rfl,x,_,rfl,y,_,rfl,z,_,rfl,rfl,?_⟩;refine ⟨_,rfl,_,rfl,_,rfl,x,y,z,_,_,_,rfl,rx,ry,rz,nx,ny,nz,_,_,rfl,rfl,_,rfl,?_⟩;refine ite2 (fun h=>?_) (fun h=>?_)
   · refine ⟨_,rfl,_,rfl,_,rfl,z3_,fun r nr'=>?_⟩;have s3:Same H2 (upd H2 r (.tup [x,z,y])):=Same.new nr';refine q _ _ (s2.trans s3) ⟨r,x,z,y,rfl,Zc,?_⟩;unfold trOf tri;rw [if_pos (n35_ h)];exact ⟨rx.tk s3.tk,rz.tk s3.tk,ry.tk s3.tk⟩
   · refine ⟨_,rfl,_,rfl,_,rfl,z3_,fun r nr'=>?_⟩;have s3:Same H2 (upd H2 r (.tup [x,y,z])):=Same.new nr';refine q _ _ (s2.trans s3) ⟨r,x,y,z,rfl,Zc,?_⟩;unfold trOf tri;rw [if_neg fun z=>h (n24_ z)];exact ⟨rx.tk s3.tk,ry.tk s3.tk,rz.tk s3.tk⟩
abbrev Zh2:Stmt:=top 24
theorem Zpo (F:Fun K "edges" "edges" Zh2 f fd):FnOk P w K mg base CX0 1 f fd ["points"] Zj8:=by
 have sc:FnScope ["points"] ["points"] (Zf Zh2):=fsc (by decide +kernel);refine F.ok sc fun cdv A outer s H vs Q E hr h=>?_;obtain ⟨v,t,rfl,⟨a,x,y,z,rfl,ha,rx,ry,rz⟩,q⟩:=h;refine' ⟨_,?term,?read⟩
 case term=>refine' @Zh _ _ _ ?g1;case g1=>refine' @Zn _ _ _ _ ?g2;case g2=>refine' @Zo _ _ _ _ _ ?g3;case g3=>refine' @Za _ _ _ _ _ ?g4 ?g5 rfl;(case g4=>refine' @Zo _ _ _ _ _ ?g6;case g6=>refine' @Za _ _ _ _ _ (Zv Z3 (pv 0) Zd (fun _ _=>rfl)) (Za (Zv Z3 (pv 0) Zd (fun _ _=>rfl)) Zb rfl) rfl);case g5=>refine' @Za _ _ _ _ _ ?g7 ?g8 rfl;(case g7=>refine' @Zo _ _ _ _ _ ?g9;case g9=>refine' @Za _ _ _ _ _ (Zv Z3 (pv 0) Zd (fun _ _=>rfl)) (Za (Zv Z3 (pv 0) Zd (fun _ _=>rfl)) Zb rfl) rfl);case g8=>refine' @Za _ _ _ _ _ ?ga Zb rfl;case ga=>refine' @Zo _ _ _ _ _ ?gb;case gb=>refine' @Za _ _ _ _ _ (Zv Z3 (pv 0) Zd (fun _ _=>rfl)) (Za (Zv Z3 (pv 0) Zd (fun _ _=>rfl)) Zb rfl) rfl
 refine ⟨_,rfl,a,_,0,x,rfl,rfl,SqT.of ha,rfl,_,rfl,a,_,1,y,rfl,rfl,SqT.of ha,rfl,z2_,fun p np=>?_⟩;have s1:Same H (upd H p (.tup [x,y])):=Same.new np;generalize hH1:upd H p (.tup [x,y])=H1 at s1 ⊢;have e1:H1 p=some (.tup [x,y]):=by rw [← hH1];exact Zc
 refine ⟨_,rfl,a,_,1,y,rfl,rfl,SqT.of (s1 _ _ ha),rfl,_,rfl,a,_,2,z,rfl,rfl,SqT.of (s1 _ _ ha),rfl,z2_,fun p2 np2=>?_⟩;have s2:Same H1 (upd H1 p2 (.tup [y,z])):=Same.new np2;generalize hH2:upd H1 p2 (.tup [y,z])=H2 at s2 ⊢;have e2:H2 p2=some (.tup [y,z]):=by rw [← hH2];exact Zc
 have s12:=s1.trans s2;refine ⟨_,rfl,a,_,2,z,rfl,rfl,SqT.of (s12 _ _ ha),rfl,_,rfl,a,_,0,x,rfl,rfl,SqT.of (s12 _ _ ha),rfl,z2_,fun p3 np3=>?_⟩;have s3:Same H2 (upd H2 p3 (.tup [z,x])):=Same.new np3;generalize hH3:upd H2 p3 (.tup [z,x])=H3 at s3 ⊢;have e3:H3 p3=some (.tup [z,x]):=by rw [← hH3];exact Zc
 refine ⟨z3_,fun p4 np4=>?_⟩;have s4:Same H3 (upd H3 p4 (.tup [.ref p,.ref p2,.ref p3])):=Same.new np4;have t4:=(s12.trans (s3.trans s4)).tk;refine q _ _ (s12.trans (s3.trans s4)) ⟨p4,_,rfl,Zc,.cons ⟨p,x,y,rfl,s4 _ _ (s3 _ _ (s2 _ _ e1)),rx.tk t4,ry.tk t4⟩ (.cons ⟨p2,y,z,rfl,s4 _ _ (s3 _ _ e2),ry.tk t4,rz.tk t4⟩ (.cons ⟨p3,z,x,rfl,s4 _ _ e3,rz.tk t4,rx.tk t4⟩ .nil))⟩
abbrev Zbo:Stmt:=top 25
theorem Zk4 (F:Fun K "lies_in" "lies_in" Zbo f fd) (Cq_:a9_ P w K mg base) (Cf_:a4_ P w K mg base):FnOk P w K mg base CX0 2 f fd ["point","points"] Zhl:=by
 have sc:FnScope ["point","points"] ["point","points"] (Zf Zbo):=fsc (by decide +kernel);refine F.ok sc fun cdv A outer s H vs Q E hr h=>?_;obtain ⟨u,v,p,t,rfl,hp,ht,np,nt,q⟩:=h;refine' ⟨_,?term,?read⟩
 case term=>refine' @Zh _ _ _ (Zn (Zi (Yo rfl) rfl T.b_all Zaq (Za (Xh (g:=(gTup K 2 (Y6 (Yr 0) (Y6 (Yr 1) gNil)))) (N:=["one","other","point"]) (fr:=[none,none,some 0]) rfl (Z4 (XN:=["point","points"]) (Scope.names (Zf Zbo)) rfl rfl rfl (fun _ h=>Zx h) (by decide +kernel) rfl) (Y2 (Zk Cq_ hr (by decide) rfl (Za (pv 1) Zb rfl))) (fun _ _ _ _=>Yg (n:=2) rfl (Zg (pgB 0) (Zg (pgB 1) Zz))) (fun _ _ _ _=>Zs) (fun _ _ _ _=>Xs Zu1 (Zk Cf_ hr (by decide) rfl (Za (pv 0) (Za (pv 1) (Za (pv 2) Zb rfl) rfl) rfl)) Zd (Yn _))) Zb rfl)))
 refine ⟨_,rfl,v,t,rfl,ht,fun H1 w s1 hw=>?_⟩;obtain ⟨a,vs,rfl,ha,al⟩:=hw;have hl:vs.length=3:=al.1;refine ⟨a,rfl,⟨_,SqT.of ha⟩,fun D nD=>?_⟩;refine Zmi (k:=.t) (vs:=vs) RB hRB (t.edges.map fun e=>decide (0≤tn e.1 e.2 p)) (by simp [hl,Tri.edges]) (by omega) nD ha (prs al) (fun i p' x y H2 C hw hp' s2 c=>?_) (fun H2 us' s2 e2 a2=>?_)
 · obtain ⟨e,ee,rx,ry⟩:=pr1 al hw hp';obtain ⟨n1,n2⟩:=Zgz nt (n10_ ee);exact ⟨_,rfl,_,rfl,_,rfl,x,y,u,e.1,e.2,p,rfl,rx.tk s2.tk,ry.tk s2.tk,hp.tk (s1.trans s2).tk,n1,n2,np,_,_,rfl,rfl,c _ _ _ (Same.refl _) (by rw [n6_,ee];rfl) rfl⟩
 · rw [a2.bls] at e2;exact ⟨D,_,rfl,SqL.of e2,q _ (s1.trans s2)⟩
abbrev X1:Stmt:=top 26
theorem Zfy (F:Fun K "parts_from" "parts_from" X1 f fd) (Cq_:a9_ P w K mg base) (Cf_:a4_ P w K mg base):FnOk P w K mg base CX0 2 f fd ["points","others"] Zcm:=by
 have sc:FnScope ["points","others","one","other"] ["points","others"] (Zf X1):=fsc (by decide +kernel);refine F.ok sc fun cdv A outer s H vs Q E hr h=>?_;obtain ⟨u,v,t,r,rfl,ht,hr',nt,nr,q⟩:=h;have nd:=sc.nd;refine' ⟨_,?term,?read⟩
 case term=>refine' @Ze _ _ _ _ _ ?g1 (Zh (Zn X0));case g1=>refine' @X9 _ _ _ _ _ _ _ _ PassesOwn.never rfl (Y2 (Zk Cq_ hr (by decide) rfl (Za (pv 0) Zb rfl))) (Yg (n:=2) rfl (Zg (Zl (i:=2) nd rfl (Or.inr rfl)) (Zg (Zl (i:=3) nd rfl (Or.inr rfl)) Zz))) ?g2 (by intro _ ;rfl);case g2=>refine' @Zh _ _ _ ?g3;case g3=>refine' @Xg _ _ _ _ _ _ _ _ ?g4 (Zh (Zn X0)) Z1;case g4=>refine' @Zy _ _ _ (Zi (Yo rfl) rfl T.b_all Zaq (Za (Xh (N:=["point","one","other"]) (fr:=[none,some 2,some 3]) rfl (Z4 (XN:=["points","others","one","other"]) (Scope.names (Zf X1)) rfl rfl rfl (fun _ h=>Zx h) (by decide +kernel) rfl) (Y2 (pv 1)) (fun _ _ _ _=>pgB 0) (fun _ _ _ _=>Zs) (fun _ _ _ _=>Xs Zh6 (Zk Cf_ hr (by decide) rfl (Za (pv 1) (Za (pv 2) (Za (pv 0) Zb rfl) rfl) rfl)) Zd (Yn _))) Zb rfl)) (fun _=>rfl)
 refine ⟨_,rfl,u,t,rfl,ht,fun H1 w s1 hw=>?_⟩;obtain ⟨a,vs,rfl,ha,al⟩:=hw;have hl:vs.length=3:=al.1;have hel:t.edges.length=3:=rfl;refine ⟨a,rfl,⟨_,SqT.of ha⟩,?_⟩;refine Xy (n:=3) (fun i σ H2=>Same H1 H2∧(∃ x y,σ=[some u,some v,x,y])∧((t.edges.take i).any fun e=>Zd1 e r)=false) ⟨Same.refl _,⟨_,_,rfl⟩,rfl⟩ (fun i σ H2 hi p=>⟨vs,vs[i]'(by omega),SqT.of (p.1 _ _ ha),n1_ (by omega)⟩) (fun σ H2 p=>⟨vs,SqT.of (p.1 _ _ ha),by omega⟩) (fun i x σ H2 H3 hi y p=>?_) (fun σ H2 p=>?_)
 · obtain ⟨s2,⟨u1,u2,rfl⟩,no⟩:=p;obtain ⟨rfl,y2⟩:=y;have ex:=y2 vs (SqT.of (s2 _ _ ha));obtain ⟨p',x1,y1,rfl,hp'⟩:=prs al i x ex;obtain ⟨e,ee,rx,ry⟩:=pr1 al ex hp';obtain ⟨n1,n2⟩:=Zgz nt (n10_ ee);refine ⟨p',_,rfl,SqT.of (s2 _ _ hp'),rfl,x1,_,rfl,y1,_,rfl,rfl,?_⟩;obtain ⟨b,ws,rfl,hb,hl2,bl⟩:=Zsz hr';have s02:=s1.trans s2;refine ⟨_,rfl,b,rfl,⟨_,SqT.of (s02 _ _ hb)⟩,fun D nD=>?_⟩;refine lc_T (k:=.t) (vs:=ws) RB hRB (r.pts.map fun q=>decide (tn e.1 e.2 q≤0)) (by simp [hl2,Tri.pts]) (by omega) nD (s02 _ _ hb) (fun j w H4 C hw s4 c=>?_) (fun H4 us' s4 e4 a4=>?_)
   · obtain ⟨g,eg,rg⟩:=bl.get hw;have tk4:=(s2.trans s4).tk;exact ⟨_,rfl,_,rfl,_,rfl,x1,y1,w,e.1,e.2,g,rfl,rx.tk tk4,ry.tk tk4,rg.tk (s02.trans s4).tk,n1,n2,Zse nr (n10_ eg),_,_,rfl,rfl,c _ _ _ (Same.refl _) (by rw [n6_,eg];rfl) rfl⟩
   · rw [a4.bls] at e4;refine ⟨D,_,rfl,SqL.of e4,_,rfl,ite2 (fun h=>?_) (fun h=>?_)⟩
     · have:Xa t r=true:=List.any_eq_true.mpr ⟨e,n10_ ee,h⟩
       rw [this] at q;exact q _ (s02.trans s4)
     · refine ⟨s2.trans s4,⟨_,_,rfl⟩,?_⟩;have hi':i<t.edges.length:=by omega
       rw [List.take_succ,ee,List.any_append,no]
       have:Zd1 e r=false:=n69_.mpr h
       simp [this]
 · obtain ⟨s2,⟨u1,u2,rfl⟩,no⟩:=p
   have:Xa t r=false:=no
   rw [this] at q;exact q _ (s1.trans s2)
abbrev Zbk:Stmt:=top 27
theorem Zg2 (F:Fun K "are_apart" "are_apart" Zbk f fd) (Cj_:a10_ P w K mg base):FnOk P w K mg base CX0 3 f fd ["points","others"] Zjc:=by
 have sc:FnScope ["points","others"] ["points","others"] (Zf Zbk):=fsc (by decide +kernel);refine F.ok sc fun cdv A outer s H vs Q E hr h=>?_;obtain ⟨u,v,t,r,rfl,ht,hr',nt,nr,q⟩:=h;refine' ⟨_,?term,?read⟩
 case term=>refine' @Zh _ _ _ (Zn (Zux (Zk Cj_ hr (by decide) rfl (Za (pv 0) (Za (pv 1) Zb rfl) rfl)) (Za3 (Zk Cj_ hr (by decide) rfl (Za (pv 1) (Za (pv 0) Zb rfl) rfl)))))
 refine ⟨_,rfl,_,rfl,u,v,t,r,rfl,ht,hr',nt,nr,fun H1 s1=>⟨_,rfl,ite2 (fun h=>?_) (fun h=>?_)⟩⟩
 · rw [show L2.apart t r=true by unfold L2.apart;rw [h];rfl] at q;exact q _ s1
 · rw [show L2.apart t r=Xa r t by unfold L2.apart;rw [show Xa t r=false by simpa using h];rfl] at q;exact ⟨_,rfl,_,rfl,v,u,r,t,rfl,hr'.tk s1.tk,ht.tk s1.tk,nr,nt,fun H2 s2=>q _ (s1.trans s2)⟩
abbrev Yp:Stmt:=top 28
theorem Zak (F:Fun K "every_corner_is_used" "every_corner_is_used" Yp f fd):FnOk P w K mg base CX0 2 f fd ["corners","pieces"] Znh:=by
 have sc:FnScope ["corners","pieces"] ["corners","pieces"] (Zf Yp):=fsc (by decide +kernel);refine F.ok sc fun cdv A outer s H vs Q E hr h=>?_;obtain ⟨u,v,cs,ps,rfl,⟨a,us,rfl,ha,al⟩,⟨b,ws,rfl,hb,bl⟩,h3,p40,cnt,c30,q⟩:=h;refine' ⟨_,?term,?read⟩
 case term=>refine' @Zh _ _ _ (Zn (Xs Zmo (Zi Znd rfl T.b_len Y3 (Za (Ztl (N:=["piece","number"]) (fr:=[none,none]) rfl (Ys (by decide) rfl (by decide) rfl rfl) (Y2 (pv 1)) (fun _ _ _ _=>pgB 0) (fun _ _ _ _=>Zdf K rfl (pv 0)) (fun _ _ _ _=>pgB 1) (fun _ _ _ _=>pv 1)) Zb rfl)) (Zi Zq rfl T.b_len Y3 (Za (pv 0) Zb rfl)) (Yn _)))
 have hl:=al.1
 have fl:∀ l:List (List Int),(∀ p∈l,p.length=3)→l.flatten.length=3*l.length:=by
  intro l
  induction l with
  | nil=>intro _;rfl
  | cons x l ih =>
    intro h;rw [List.flatten_cons,n26_,ih fun p hp=>h p (n17_ _ hp),h x n49_,n15_];omega
 refine ⟨_,rfl,b,rfl,⟨_,SqT.of hb⟩,fun D nD=>?_⟩;refine Zre hb bl (by rw [fl ps h3];omega) nD (fun S=>?_);have s1:Same H (upd H D (.set S (cntS ps.flatten))):=Same.new nD;refine ⟨D,S,_,rfl,Zc,_,rfl,a,us,rfl,.inr (SqT.of (s1 _ _ ha)),rfl,?_⟩;have e:V.int (cntS ps.flatten:Nat)=V.int us.length:=by rw [cnt,hl]
 exact qT e (q _ s1)
abbrev Yb:Stmt:=top 29
theorem Zbd (F:Fun K "no_strange_corner" "no_strange_corner" Yb f fd) (Car_:a11_ P w K mg base):FnOk P w K mg base CX0 3 f fd ["corners","piece","points"] Zek:=by
 have sc:FnScope ["corners","piece","points","strange"] ["corners","piece","points"] (Zf Yb):=fsc (by decide +kernel);refine F.ok sc fun cdv A outer s H vs Q E hr h=>?_;obtain ⟨u,v,w,cs,p,t,rfl,⟨a,us,rfl,ha,al⟩,⟨b,rfl,hb⟩,ht,c30,nr,nt,no,q⟩:=h;have nd:=sc.nd;refine' ⟨_,?term,?read⟩
 case term=>refine' @Ze _ _ _ _ _ (Zee (g:=(gTup K 2 (Y6 (Yr 0) (Y6 (Yr 1) gNil)))) (N:=["number","corner","piece"]) (fr:=[none,none,some 1]) rfl rfl (Zl (i:=3) nd rfl (Or.inl rfl)) (Z4 (XN:=["corners","piece","points","strange"]) (Scope.names (Zf Yb)) rfl rfl rfl (fun _ h=>Zx h) (by decide +kernel) rfl) (Ze4 .t rfl T.b_enumerate (Za (pv 0) Zb rfl)) (fun _ _ _ _=>Yg (n:=2) rfl (Zg (pgB 0) (Zg (pgB 1) Zz))) (fun _ _ _ _=>Zju (Yl (Zff K rfl) (pv 0) (pv 2) rfl)) (fun _ _ _ _=>pv 1)) (Zh (Zn (Zi8 (Zi (Zma rfl) rfl T.b_any Ztg (Za (Xh (N:=["corner","points"]) (fr:=[none,some 2]) rfl (Z4 (XN:=["corners","piece","points","strange"]) (Scope.names (Zf Yb)) rfl rfl rfl (fun _ h=>Zx h) (by decide +kernel) rfl) (Yz (pv 3)) (fun _ _ _ _=>pgB 0) (fun _ _ _ _=>Zs) (fun _ _ _ _=>Zk Car_ hr (by decide) rfl (Za (pv 0) (Za (pv 1) Zb rfl) rfl))) Zb rfl)))))
 have hl:=al.1;refine ⟨_,rfl,a,rfl,⟨_,SqT.of ha⟩,fun D nD=>?_⟩;refine lc_E (k:=.t) (vs:=us) IsP hRP (fun i=>if (i:Int)∈p then none else cs[i]?) (by omega) nD ha (fun i x H2 C N hx s2 c n=>?_) (fun H2 us' s2 e2 a2=>?_)
 · obtain ⟨g,eg,rg⟩:=al.get hx;refine ⟨_,rfl,_,rfl,b,_,rfl,.inr (SqT.of (s2 _ _ hb)),rfl,by rw [List.all_map];exact n32_.mpr fun _ _=>rfl,_,rfl,?_⟩;rw [Zoe]
   by_cases hm:(i:Int)∈p
   · rw [n24_ hm];exact iteF (n _ (Same.refl _) (by rw [if_pos hm]))
   · rw [n25_ hm];exact iteT ⟨_,rfl,c _ _ g (Same.refl _) (by rw [if_neg hm];exact eg) (rg.tk s2.tk)⟩
 · generalize hst:(List.range us.length).filterMap (fun i:Nat=>if (i:Int)∈p then none else cs[i]?)=st at a2
   have hst2:∀ g∈st,near g∧Zbv g t=false:=by
    intro g hg;rw [← hst] at hg;obtain ⟨i,hi,e⟩:=n62_.mp hg;have hi:=n34_.mp hi;split at e
    · cases e
    · rename_i hm
      have:=no i (by omega) hm
      rw [n4_,e] at this;exact ⟨nr g (n10_ e),this⟩
   have hl3:st.length≤us.length:=by
    rw [← hst]
    have:=n70_ (fun i:Nat=>if (i:Int)∈p then none else cs[i]?) (List.range us.length)
    rwa [n73_] at this
   have l2:=a2.1;refine ⟨_,rfl,D,rfl,⟨_,SqL.of e2⟩,fun E nE=>?_⟩;refine lc_T (k:=.l) (vs:=us') RB hRB (st.map fun g=>Zbv g t) (by simp [l2]) (by omega) nE e2 (fun j x H4 C hx s4 c=>?_) (fun H4 us'' s4 e4 a4=>?_)
   · obtain ⟨g,eg,rg⟩:=a2.get hx;exact ⟨_,rfl,_,rfl,x,w,g,t,rfl,rg.tk s4.tk,ht.tk (s2.trans s4).tk,(hst2 g (n10_ eg)).1,nt,fun H5 s5=>c _ _ _ s5 (by rw [n6_,eg];rfl) rfl⟩
   · rw [a4.bls] at e4;refine ⟨E,_,rfl,SqL.of e4,false,by rw [anyM fun g hg=>(hst2 g hg).2],?_⟩;exact q _ (s2.trans s4)
abbrev Y0:Stmt:=top 30
theorem Zdk (F:Fun K "fit_together" "fit_together" Y0 f fd) (Cai_:a12_ P w K mg base) (Ci_:a13_ P w K mg base) (Cam_:a14_ P w K mg base):FnOk P w K mg base CX0 4 f fd ["corners","pieces"] Zp4:=by
 have sc:FnScope ["corners","pieces","triangles","at","piece","points"] ["corners","pieces"] (Zf Y0):=fsc (by decide +kernel);refine F.ok sc fun cdv A outer s H vs Q E hr h=>?_;obtain ⟨u,v,cs,ps,rfl,hc,⟨b,ws,rfl,hb,bl⟩,ok,q⟩:=h;have nd:=sc.nd;refine' ⟨_,?term,?read⟩
 case term=>refine' @Ze _ _ _ _ _ (Zee (N:=["piece","corners"]) (fr:=[none,some 0]) rfl rfl (Zl (i:=2) nd rfl (Or.inl rfl)) (Z4 (XN:=["corners","pieces","triangles","at","piece","points"]) (Scope.names (Zf Y0)) rfl rfl rfl (fun _ h=>Zx h) (by decide +kernel) rfl) (Y2 (pv 1)) (fun _ _ _ _=>pgB 0) (fun _ _ _ _=>Zs) (fun _ _ _ _=>Zk Cam_ hr (by decide) rfl (Za (pv 1) (Za (pv 0) Zb rfl) rfl))) ?g1;case g1=>refine' @Ze _ _ _ _ _ ?g2 (Zh (Zn X0));case g2=>refine' @X9 _ _ _ _ _ _ _ _ PassesOwn.never rfl (Zlc .t .l rfl T.b_enumerate rfl T.b_zip (Za (pv 1) (Za (pv 2) Zb rfl) rfl)) (Yg (n:=2) rfl (Zg (Zl (i:=3) nd rfl (Or.inl rfl)) (Zg (Yg (n:=2) rfl (Zg (Zl (i:=4) nd rfl (Or.inl rfl)) (Zg (Zl (i:=5) nd rfl (Or.inr rfl)) Zz))) Zz))) ?g3 (by intro _ ;rfl);case g3=>refine' @Ze _ _ _ _ _ (Xg (Y7 (Zy (Zk Ci_ hr (by decide) rfl (Za (pv 0) (Za (pv 4) (Za (pv 5) Zb rfl) rfl) rfl)) (fun _=>rfl))) (Zh (Zn X0)) Z1) ?g4;case g4=>refine' @Zh _ _ _ ?g5;case g5=>refine' @Xg _ _ _ _ _ _ _ _ ?g6 (Zh (Zn X0)) Z1;case g6=>refine' @Y7 _ _ _ _ ?g7;case g7=>refine' @Zy _ _ _ (Zi (Yo rfl) rfl T.b_all Zaq (Za (Xh (N:=["others","points"]) (fr:=[none,some 5]) rfl (Z4 (XN:=["corners","pieces","triangles","at","piece","points"]) (Scope.names (Zf Y0)) rfl rfl rfl (fun _ h=>Zx h) (by decide +kernel) rfl) (Yz (X4 Zr9 (pv 2) Zav (Zax (pv 3)))) (fun _ _ _ _=>pgB 0) (fun _ _ _ _=>Zs) (fun _ _ _ _=>Zk Cai_ hr (by decide) rfl (Za (pv 1) (Za (pv 0) Zb rfl) rfl))) Zb rfl)) (fun _=>rfl)
 have hl:=bl.1;have p40:=ok.p40;refine ⟨_,rfl,b,rfl,⟨_,SqT.of hb⟩,fun D nD=>?_⟩;refine lc_T (k:=.t) (vs:=ws) IsT hRT (ps.map (trOf cs)) (by simp [hl]) (by omega) nD hb (fun i w H2 C hw s2 c=>?_) (fun H2 us' s2 e2 a2=>?_)
 · obtain ⟨p,ep,rp⟩:=bl.get hw;have pk:=ok.pc p (n10_ ep);exact ⟨_,rfl,_,rfl,u,w,cs,p,rfl,hc.tk s2.tk,rp.tk s2.tk,pk.len,pk.bd,ok.nr,fun H5 w5 s5 h5=>c _ _ _ s5 (by rw [n6_,ep];rfl) h5⟩
 · have l2:=a2.1;rw [n5_] at l2;have hb2:=s2 _ _ hb;refine ⟨_,rfl,_,rfl,b,D,rfl,⟨_,SqT.of hb2⟩,⟨_,SqL.of e2⟩,?_⟩;refine Xy (n:=ps.length) (fun i σ H3=>Same H2 H3∧∃ x y z,σ=[some u,some (.ref b),some (.ref D),x,y,z]) ⟨Same.refl _,_,_,_,rfl⟩ (fun i σ H3 hi p=>⟨ws,us',ws[i]'(by omega),us'[i]'(by omega),SqT.of (p.1 _ _ hb2),SqL.of (p.1 _ _ e2),n1_ (by omega),n1_ (by omega)⟩) (fun σ H3 p=>⟨ws,us',SqT.of (p.1 _ _ hb2),SqL.of (p.1 _ _ e2),by omega⟩) (fun i x σ H3 H4 hi y p=>?_) (fun σ H3 p=>?_)
   · obtain ⟨s3,x1,x2,x3,rfl⟩:=p;obtain ⟨p1,p2,x,y,rfl,n1,n2,ne,rfl,y1,y2⟩:=y;have ex:=y1 ws (SqT.of (s3 _ _ hb2));have ey:=y2 us' (SqL.of (s3 _ _ e2));have sa:Same H3 (upd H3 p1 (.tup [x,y])):=Same.new n1;have sb:Same (upd H3 p1 (.tup [x,y])) (upd (upd H3 p1 (.tup [x,y])) p2 (.tup [.int i,.ref p1])):=Same.new (by rw [Zj ne.symm];exact n2);have e5:upd (upd H3 p1 (.tup [x,y])) p2 (.tup [.int i,.ref p1]) p1=some (.tup [x,y]):=sb _ _ Zc;have e6:upd (upd H3 p1 (.tup [x,y])) p2 (.tup [.int i,.ref p1]) p2=some (.tup [.int i,.ref p1]):=Zc;have s4:=s3.trans (sa.trans sb);generalize upd (upd H3 p1 (.tup [x,y])) p2 (.tup [.int i,.ref p1])=H4 at s4 e5 e6;obtain ⟨p,ep,rp⟩:=bl.get ex;obtain ⟨t,et,rt'⟩:=a2.get ey;rw [n6_,ep] at et;cases et
     have pk:=ok.pc p (n10_ ep);have tn':=Zhk pk.bd pk.len ok.nr;have gp:ps.getD i []=p:=by rw [n4_,ep];rfl
     refine ⟨p2,_,rfl,SqT.of e6,rfl,_,_,rfl,_,_,rfl,⟨p1,_,rfl,SqT.of e5,rfl,x,_,rfl,y,_,rfl,rfl,rfl,?_⟩⟩;have s04:=s2.trans s4;refine ⟨_,rfl,_,rfl,_,rfl,u,x,y,cs,p,_,rfl,hc.tk s04.tk,rp.tk s04.tk,rt'.tk s4.tk,ok.c30,ok.nr,tn',ok.strange p (n10_ ep),fun H5 s5=>⟨true,rfl,iteF ?_⟩⟩;have s45:=s4.trans s5;refine ⟨_,rfl,_,rfl,_,rfl,D,us',rfl,SqL.of (s45 _ _ e2),fun r nr'=>?_⟩;have s6:Same H5 (upd H5 r (.lst (us'.take i))):=Same.new nr';rw [Zvz _ _ (by omega)];have e7:upd H5 r (.lst (us'.take i)) r=some (.lst (us'.take i)):=Zc;generalize upd H5 r (.lst (us'.take i))=H6 at s6 e7 ⊢;refine ⟨r,rfl,⟨_,SqL.of e7⟩,fun E nE=>?_⟩;have s46:=s45.trans s6;refine lc_T (k:=.l) (vs:=us'.take i) RB hRB (List.replicate i true) (by simp;omega) (by simp;omega) nE e7 (fun j w H8 C hw s8 c=>?_) (fun H8 us'' s8 e8 a8=>?_)
     · have hj:j<i:=by
        have:=Xk hw
        rw [n47_] at this;omega
       rw [List.getElem?_take_of_lt hj] at hw;obtain ⟨t2,et2,rt2⟩:=a2.get hw;rw [n6_] at et2;obtain ⟨p',ep',rfl⟩:=n16_.mp et2;have pk':=ok.pc p' (n10_ ep');have gp':ps.getD j []=p':=by rw [n4_,ep'];rfl
       have ap:=ok.apart j i hj hi;rw [gp,gp'] at ap;have s48:=s46.trans s8;refine ⟨_,rfl,_,rfl,y,w,_,_,rfl,rt'.tk s48.tk,rt2.tk s48.tk,tn',Zhk pk'.bd pk'.len ok.nr,fun H9 s9=>c _ _ true s9 (repT hj) (congrArg V.bl ap)⟩
     · rw [a8.bls] at e8;refine ⟨E,_,rfl,SqL.of e8,true,by rw [allT];rfl,iteF ?_⟩;exact ⟨s46.trans s8,_,_,_,rfl⟩
   · obtain ⟨s3,x1,x2,x3,rfl⟩:=p;exact q _ (s2.trans s3)
abbrev Zb4:Stmt:=top 31
theorem Ziw (F:Fun K "is_plate" "is_plate" Zb4 f fd) (Cw_:a15_ P w K mg base) (Cz_:a16_ P w K mg base) (Caa_:a17_ P w K mg base) (Cg_:a18_ P w K mg base) (Cr_:a19_ P w K mg base) (Cb_:a2_ P w K mg base) (Can_:a20_ P w K mg base):FnOk P w K mg base CX0 5 f fd ["thing"] Zej:=by
 have sc:FnScope ["thing","corners","pieces","thicks","stuff"] ["thing"] (Zf Zb4):=fsc (by decide +kernel);refine F.ok sc fun cdv A outer s H vs Q E hr h=>?_;obtain ⟨v,P',rfl,⟨a,c,p,t,st,rfl,ha,hc,hp,ht,hs⟩,ok,q⟩:=h;have nd:=sc.nd;refine' ⟨_,?term,?read⟩
 case term=>refine' @Ze _ _ _ _ _ (Xg (Y7 (Zy (Zk Cb_ hr (by decide) rfl (Za (pv 0) (Za Zd (Za Zd Zb rfl) rfl) rfl)) (fun _=>rfl))) (Zh (Zn X0)) Z1) ?g1;case g1=>refine' @Ze _ _ _ _ _ (Xo (pv 0) (Yg (n:=4) rfl (Zg (Zl (i:=1) nd rfl (Or.inl rfl)) (Zg (Zl (i:=2) nd rfl (Or.inl rfl)) (Zg (Zl (i:=3) nd rfl (Or.inl rfl)) (Zg (Zl (i:=4) nd rfl (Or.inl rfl)) Zz)))))) ?g2;case g2=>refine' @Ze _ _ _ _ _ ?g3 ?g4;(case g3=>refine' @Xg _ _ _ _ _ _ _ _ ?g5 (Zh (Zn X0)) Z1;case g5=>refine' @PW.pt _ _ _ ?g6;case g6=>refine' @Zim _ _ _ _ _ _ _ (Y7 (Zy (Zk Cw_ hr (by decide) rfl (Za (pv 1) Zb rfl)) (fun _=>rfl))) (Zdz (Y7 (Zy (Zk Cz_ hr (by decide) rfl (Za (pv 1) (Za (pv 2) Zb rfl) rfl)) (fun _=>rfl)))));case g4=>refine' @Ze _ _ _ _ _ ?g7 (Zh (Zn (Zbe (Zk Cg_ hr (by decide) rfl (Za (pv 1) (Za (pv 2) Zb rfl) rfl)) (Za3 (Zk Cr_ hr (by decide) rfl (Za (pv 1) (Za (pv 2) Zb rfl) rfl))))));case g7=>refine' @Xg _ _ _ _ _ _ _ _ ?g8 (Zh (Zn X0)) Z1;case g8=>refine' @PW.pt _ _ _ ?g9;case g9=>refine' @Zim _ _ _ _ _ _ _ (Y7 (Zy (Zk Caa_ hr (by decide) rfl (Za (pv 2) (Za (pv 3) Zb rfl) rfl)) (fun _=>rfl))) (Zdz (Y7 (Zy (Zk Can_ hr (by decide) rfl (Za (pv 4) Zb rfl)) (fun _=>rfl))))
 refine ⟨_,rfl,a,_,4,4,rfl,ha,by simp,by simp,true,rfl,iteF ?_⟩;refine ⟨_,rfl,a,_,rfl,SqT.of ha,rfl,c,_,rfl,p,_,rfl,t,_,rfl,st,_,rfl,rfl,?_⟩;refine ⟨_,rfl,c,P'.cs,rfl,hc,ok.c3,ok.c30,ok.nr,ok.nd,fun H1 s1=>⟨true,rfl,iteF ?_⟩⟩;refine ⟨_,rfl,_,rfl,c,p,P'.cs,P'.ps,rfl,hc.tk s1.tk,hp.tk s1.tk,ok.p1,ok.p40,ok.pc,ok.rise,ok.nr,fun H2 s2=>⟨true,rfl,iteF ?_⟩⟩;have s12:=s1.trans s2;refine ⟨_,rfl,_,rfl,p,t,P'.ps,P'.ts,rfl,hp.tk s12.tk,ht.tk s12.tk,ok.t1,ok.p40,ok.t9,fun H3 s3=>⟨true,rfl,iteF ?_⟩⟩;have s13:=s12.trans s3;refine ⟨_,rfl,st,P'.l,P'.m,rfl,hs.tk s13.tk,ok.l9,ok.m9,true,rfl,iteF ?_⟩;refine ⟨_,rfl,_,rfl,c,p,P'.cs,P'.ps,rfl,hc.tk s13.tk,hp.tk s13.tk,fun x hx=>(ok.pc x hx).len,ok.p40,ok.used,ok.c30,fun H4 s4=>⟨true,rfl,iteT ?_⟩⟩;have s14:=s13.trans s4;exact ⟨_,rfl,_,rfl,c,p,P'.cs,P'.ps,rfl,hc.tk s14.tk,hp.tk s14.tk,⟨ok.c30,ok.nr,ok.p40,ok.pc,ok.strange,ok.apart⟩,fun H5 s5=>q _ (s14.trans s5)⟩
abbrev Xr:Stmt:=top 32
theorem Zcu (F:Fun K "look_at_plate" "look_at_plate" Xr f fd) (Cao_:a21_ P w K mg base):FnOk P w K mg base CX0 6 f fd ["plate"] Zcg:=by
 have sc:FnScope ["plate"] ["plate"] (Zf Xr):=fsc (by decide +kernel);refine F.ok sc fun cdv A outer s H vs Q E hr h=>?_;obtain ⟨v,P',rfl,hv,ok,q⟩:=h;refine' ⟨_,?term,?read⟩
 case term=>refine' @Zh _ _ _ (Xg (Y7 (Zy (Zk Cao_ hr (by decide) rfl (Za (pv 0) Zb rfl)) (fun _=>rfl))) Zm0 Z1)
 exact ⟨_,rfl,v,P',rfl,hv,ok,fun H1 s1=>⟨true,rfl,iteF (q _ s1)⟩⟩
abbrev Zdv:Stmt:=top 4
theorem Zhp (F:Fun K "is_whole" "is_whole" Zdv f fd):FnOk P w K mg base CX0 1 f fd ["thing"] Zbt:=by
 have sc:FnScope ["thing"] ["thing"] (Zf Zdv):=fsc (by decide +kernel);refine F.ok sc fun cdv A outer s H vs Q E hr h=>?_;obtain ⟨N,k,v,d,rfl,h,q⟩:=h;refine' ⟨_,?term,?read⟩
 case term=>refine' @Zh _ _ _ (Zn (Zbe (Zi Y9 rfl T.b_isinstance Z0 (Za (pv 0) (Za (Xx (v:=.ty "int") rfl T.b_int Zi1 rfl) Zb rfl) rfl)) (Za3 (Zi8 (Zi Y9 rfl T.b_isinstance Z0 (Za (pv 0) (Za (Xx (v:=.ty "bool") rfl T.b_bool Zig rfl) Zb rfl) rfl))))))
 cases h with
 | non=>exact ⟨_,rfl,_,_,_,_,rfl,TyOf.non,rfl,false,rfl,iteF q⟩
 | bl b=>exact ⟨_,rfl,_,_,_,_,rfl,TyOf.bl b,rfl,true,rfl,iteT ⟨_,rfl,_,_,_,_,rfl,TyOf.bl b,rfl,true,rfl,q⟩⟩
 | int hi=>exact ⟨_,rfl,_,_,_,_,rfl,TyOf.int _,rfl,true,rfl,iteT ⟨_,rfl,_,_,_,_,rfl,TyOf.int _,rfl,false,rfl,q⟩⟩
 | str x=>exact ⟨_,rfl,_,_,_,_,rfl,TyOf.str x,rfl,false,rfl,iteF q⟩
 | tup h r=>exact ⟨_,rfl,_,_,_,_,rfl,TyOf.tup h,rfl,false,rfl,iteF q⟩
 | lst h n m r=>exact ⟨_,rfl,_,_,_,_,rfl,TyOf.lst h,rfl,false,rfl,iteF q⟩
 | dic h=>exact ⟨_,rfl,_,_,_,_,rfl,TyOf.dK h,rfl,false,rfl,iteF q⟩
abbrev Zha:Stmt:=top 13
theorem Zk5 (F:Fun K "is_row" "is_row" Zha f fd):FnOk P w K mg base CX0 1 f fd ["thing","fewest","most"] Zmt:=by
 have sc:FnScope ["thing","fewest","most"] ["thing","fewest","most"] (Zf Zha):=fsc (by decide +kernel);refine F.ok sc fun cdv A outer s H vs Q E hr h=>?_;obtain ⟨N,k,v,d,rfl,h,q⟩:=h;refine' ⟨_,?term,?read⟩
 case term=>refine' @Zh _ _ _ (Zn (Zbe (Zi Y9 rfl T.b_isinstance Z0 (Za (pv 0) (Za (Xx (v:=.ty "tuple") rfl T.b_tuple Z5 rfl) Zb rfl) rfl)) (Za3 (Zfr Zh6 Zh6 (pv 1) (Zi Zq rfl T.b_len Y3 (Za (pv 0) Zb rfl)) (pv 2)))))
 rcases h.isT with ⟨p,xs,ds,rfl,rfl,hp,hs⟩|e
 case inr =>
  obtain ⟨t,ty,ki⟩:=h.ty (K:=K);refine ⟨_,rfl,_,_,t,_,rfl,ty,ki,_,rfl,?_⟩;rw [e];have z:is2 d=false:=by cases d<;>first|rfl|(cases e)
  rw [z] at q;exact iteF q
 have hl:=hs.len;refine ⟨_,rfl,_,_,_,_,rfl,TyOf.tup hp,rfl,true,rfl,iteT ?_⟩;refine ⟨_,rfl,_,rfl,p,_,rfl,.inr (SqT.of hp),_,_,rfl,rfl,_,rfl,?_⟩
 have e2:is2 (.tuple ds)=(decide ((2:Int)≤xs.length)&&decide ((xs.length:Int)≤2)):=by
  show decide (ds.length=2)=_
  rw [n56_,n30_,decide_eq_true_iff,decide_eq_true_iff,decide_eq_true_iff];omega
 rw [e2] at q;refine ite2 (fun hlt=>?_) (fun hlt=>?_)
 · rw [hlt,Bool.true_and] at q;exact ⟨_,rfl,_,_,rfl,rfl,q⟩
 · rw [n69_.mpr hlt,Bool.false_and] at q;exact q
abbrev X8:Stmt:=top 35
theorem Zin (F:Fun K "order_by" "order_by" X8 f fd):FnOk P w K mg base CX0 1 f fd ["corners","matrix"] (Zey K):=by
 have sc:FnScope ["corners","matrix","a","b","c","d","points","least","goal","numbers"] ["corners","matrix"] (Zf X8):=fsc (by decide +kernel);refine F.ok sc fun cdv A outer s H vs Q E hr h=>?_;obtain ⟨v,ma,cs,M,rfl,⟨ca,cv,rfl,hca,al⟩,c0,c30,nr,ndup,hM,m4,mB,q⟩:=h;have nd:=sc.nd;have hu:=Zk9 hr;have hu1:=Nat.lt_of_succ_lt hu;refine' ⟨_,?term,?read⟩
 case term=>refine' @Ze _ _ _ _ _ (Xo (pv 1) (Yg (n:=4) rfl (Zg (Zl (i:=2) nd rfl (Or.inr rfl)) (Zg (Zl (i:=3) nd rfl (Or.inr rfl)) (Zg (Zl (i:=4) nd rfl (Or.inr rfl)) (Zg (Zl (i:=5) nd rfl (Or.inr rfl)) Zz)))))) ?g1;case g1=>refine' @Ze _ _ _ _ _ (Zee (g:=(gTup K 2 (Y6 (Yr 0) (Y6 (Yr 1) gNil)))) (N:=["x","y","a","b","c","d"]) (fr:=[none,none,some 2,some 3,some 4,some 5]) rfl rfl (Zl (i:=6) nd rfl (Or.inl rfl)) (Z4 (XN:=["corners","matrix","a","b","c","d","points","least","goal","numbers"]) (Scope.names (Zf X8)) rfl rfl rfl (fun _ h=>Zx h) (by decide +kernel) rfl) (Y2 (pv 0)) (fun _ _ _ _=>Yg (n:=2) rfl (Zg (pgB 0) (Zg (pgB 1) Zz))) (fun _ _ _ _=>Zs) (fun _ _ _ _=>Zo (Za (Zp Yd (Zp Z6 (pv 2) (pv 0)) (Zp Z6 (pv 3) (pv 1))) (Za (Zp Yd (Zp Z6 (pv 4) (pv 0)) (Zp Z6 (pv 5) (pv 1))) Zb rfl) rfl))) ?g2;case g2=>refine' @Ze _ _ _ _ _ (Xo (Zo (Za (Zi (Zgh rfl (Zgx hr)) rfl T.b_min Zny (Za (pv 6) Zb rfl)) (Za (Zi (Zgh rfl (Zgx hr)) rfl T.b_min Zny (Za (pv 0) Zb rfl)) Zb rfl) rfl)) (Yg (n:=2) rfl (Zg (Zl (i:=7) nd rfl (Or.inr rfl)) (Zg (Zl (i:=8) nd rfl (Or.inr rfl)) Zz)))) ?g3;case g3=>refine' @Ze _ _ _ _ _ ?g4 (Zh (Zn (Xh (g:=(gTup K 2 (Y6 (Yr 0) (Y6 (Yr 1) gNil)))) (N:=["x","y","numbers","goal","least"]) (fr:=[none,none,some 9,some 8,some 7]) rfl (Z4 (XN:=["corners","matrix","a","b","c","d","points","least","goal","numbers"]) (Scope.names (Zf X8)) rfl rfl rfl (fun _ h=>Zx h) (by decide +kernel) rfl) (Yz (pv 6)) (fun _ _ _ _=>Yg (n:=2) rfl (Zg (pgB 0) (Zg (pgB 1) Zz))) (fun _ _ _ _=>Zs) (fun _ _ _ _=>Zjr hu (pv 2) (Zo (Za (Zp Xd (Zp Yd (pv 0) (Zv (Zcb K rfl) (pv 3) Zd (fun _ _=>rfl))) (Zv (Zcb K rfl) (pv 4) Zd (fun _ _=>rfl))) (Za (Zp Xd (Zp Yd (pv 1) (Zv (Zcb K rfl) (pv 3) Zd (fun _ _=>rfl))) (Zv (Zcb K rfl) (pv 4) Zd (fun _ _=>rfl))) Zb rfl) rfl)) ⟨rfl,rfl,rfl,rfl⟩))));case g4=>refine' @Zt _ _ (9) _ _ _ _ nd rfl (Or.inr rfl) (Zu2 (g:=(gTup K 2 (Y6 (Yr 0) (Y6 (Yr 1) gNil)))) (N:=["number","corner"]) (fr:=[none,none]) hu1 rfl (Ys (by decide) rfl (by decide) rfl rfl) (Ze4 .t rfl T.b_enumerate (Za (pv 0) Zb rfl)) (fun _ _ _ _=>Yg (n:=2) rfl (Zg (pgB 0) (Zg (pgB 1) Zz))) (fun _ _ _ _=>pv 1) (fun _ _ _ _=>pv 0)) (by rfl) (by first|exact Or.inl rfl|exact Or.inr rfl|assumption)
 obtain ⟨m0,m1,m2,m3,rfl⟩:=len4 m4;have lcv:=al.1;have b0:m0.natAbs≤1000:=n33_ (mB m0 (by simp)) (by decide);have b1:m1.natAbs≤1000:=n33_ (mB m1 (by simp)) (by decide);have b2:m2.natAbs≤1000:=n33_ (mB m2 (by simp)) (by decide);have b3:m3.natAbs≤1000:=n33_ (mB m3 (by simp)) (by decide);refine ⟨_,rfl,ma,_,rfl,hM,rfl,_,_,rfl,_,_,rfl,_,_,rfl,_,_,rfl,rfl,?_⟩;refine ⟨_,rfl,ca,rfl,⟨_,SqT.of hca⟩,fun D nD=>?_⟩;refine Zmi (k:=.t) (vs:=cv) IsP hRP (cs.map (img [m0,m1,m2,m3])) (by rw [n5_];omega) (by omega) nD hca (fun i w hw=>?_) (fun i p x y H2 C hv hp s2 c=>?_) (fun H2 us s2 e2 a2=>?_)
 · obtain ⟨g,eg,b,rfl,hb⟩:=al.get hw;exact ⟨b,_,_,rfl,hb⟩
 · obtain ⟨g,eg,b,e,hb⟩:=al.get hv;cases e
   rw [hp] at hb;cases hb
   obtain ⟨⟨g1,g2⟩,g3,g4⟩:=nr g (n10_ eg);have x3:g.1.natAbs≤1000:=by omega
   have y3:g.2.natAbs≤1000:=by omega
   refine ⟨_,rfl,_,rfl,_,_,rfl,rfl,mul3 b0 x3,_,rfl,_,rfl,_,_,rfl,rfl,mul3 b1 y3,_,_,rfl,rfl,?_⟩;refine ⟨_,rfl,_,rfl,_,_,rfl,rfl,mul3 b2 x3,_,rfl,_,rfl,_,_,rfl,rfl,mul3 b3 y3,_,_,rfl,rfl,z2_,fun p2 n2=>?_⟩;exact c _ _ (img [m0,m1,m2,m3] g) (Same.new n2) (by rw [n6_,eg];rfl) ⟨p2,rfl,Zc⟩
 have nD2:H2 ca=some (.tup cv):=s2 _ _ hca;have al2:Al (IsP H2) cv cs:=al.imp fun v x r=>r.tk s2.tk;refine ⟨_,rfl,D,us,_,rfl,.inl (SqL.of e2),alP a2,by simpa using c0,?_⟩;refine ⟨_,rfl,ca,cv,_,rfl,.inr (SqT.of nD2),alP al2,by simpa using c0,z2_,fun p3 n3=>?_⟩;have lv:=Zql a2 (by simpa using c0);have gv:=Zql al2 c0;generalize us.getD (Xf ((cs.map (img [m0,m1,m2,m3])).map pl)) .non=vl at lv;generalize cv.getD (Xf (cs.map pl)) .non=vg at gv;obtain ⟨la,rfl,hla⟩:=lv;obtain ⟨ga,rfl,hga⟩:=gv;refine ⟨p3,_,rfl,SqT.of Zc,rfl,_,_,rfl,_,_,rfl,rfl,?_⟩;have s3:Same H2 (upd H2 p3 (.tup [.ref la,.ref ga])):=Same.new n3;generalize upd H2 p3 (.tup [.ref la,.ref ga])=H3 at s3 ⊢;have hca3:=s3 _ _ nD2;refine ⟨_,rfl,ca,rfl,⟨_,SqT.of hca3⟩,fun N nN=>?_⟩;refine Zum (n:=cs.length) (fun i σ H'=>∃ u0 u1:Option V,σ=[u0,u1]∧Same H3 H'∧H' N=some (.dT (numD (cs.take i)))) ⟨_,_,rfl,Same.new nN,Zc⟩ (fun i σ H' hi p=>?_) (fun σ H' p=>?_) (fun i x σ H4 H5 hi y p=>?_) (fun σ H4 p=>?_)
 · obtain ⟨_,_,_,s4,_⟩:=p;exact ⟨cv,cv[i]'(by omega),SqT.of (s4 _ _ hca3),n1_ (by omega)⟩
 · obtain ⟨_,_,_,s4,_⟩:=p;exact ⟨cv,SqT.of (s4 _ _ hca3),lcv⟩
 · obtain ⟨u0,u1,rfl,s4,h4⟩:=p;obtain ⟨p4,x4,rfl,n4,rfl,yx⟩:=y;have ex:=yx _ (SqT.of (s4 _ _ hca3));obtain ⟨g,eg,b,rfl,hb⟩:=al.get ex;have s5:Same H4 (upd H4 p4 (.tup [.int i,.ref b])):=Same.new n4;have hb5:=s5 _ _ (s4 _ _ (s3 _ _ (s2 _ _ hb)));have hN5:=s5 _ _ h4;refine ⟨p4,_,rfl,SqT.of Zc,rfl,_,_,rfl,_,_,rfl,rfl,_,rfl,_,rfl,_,kp g,b,hN5,rfl,by rw [kI_V];exact hb5,by rw [Zoq,n47_,sizeLine_eq];omega,cs.length-(i+1),by omega,by omega,rfl,_,_,rfl,?_,?_⟩
   · intro b' o' e';have nb:b'≠N:=fun z=>by rw [z] at e';rw [e'] at nN;cases nN
     rw [Zj nb];exact s5 _ _ (s4 _ _ e')
   · rw [Zqu ndup eg];exact Zc
 obtain ⟨u0,u1,rfl,s4,h4⟩:=p;rw [List.take_length] at h4;have e24:=s4 _ _ (s3 _ _ e2);refine ⟨_,rfl,D,rfl,⟨_,SqL.of e24⟩,fun R nR=>?_⟩;have a4:Al (IsP H4) us (cs.map (img [m0,m1,m2,m3])):=a2.imp fun v x r=>r.tk (s3.trans s4).tk;refine Zmi (k:=.l) (vs:=us) (fun _ v o=>v=oV o) (fun _ _ _ _ _ e=>e) (ordB cs [m0,m1,m2,m3]) (by unfold ordB;rw [n5_,a2.1,n5_]) (by rw [a2.1,n5_];omega) nR e24 (fun i w hw=>?_) (fun i p x y H5 C hv hp s5 c=>?_) (fun H5 us5 s5 e5 a5=>?_)
 · obtain ⟨g,eg,b,rfl,hb⟩:=a4.get hw;exact ⟨b,_,_,rfl,hb⟩
 · obtain ⟨g,eg,b,e,hb⟩:=a4.get hv;cases e
   rw [hp] at hb;cases hb
   have hl5:=s5 _ _ (s4 _ _ (s3 _ _ hla));have hg5:=s5 _ _ (s4 _ _ (s3 _ _ (show H2 ga=some (.tup ([(Yt cs).1,(Yt cs).2].map V.int)) from hga)));refine ⟨_,rfl,N,rfl,.inr ⟨_,.inl (s5 _ _ h4)⟩,?_⟩;refine ⟨_,rfl,_,rfl,ga,_,0,_,rfl,rfl,SqT.of hg5,rfl,_,_,rfl,rfl,_,rfl,la,_,0,_,rfl,rfl,SqT.of hl5,rfl,_,_,rfl,rfl,?_⟩;refine ⟨_,rfl,_,rfl,ga,_,1,_,rfl,rfl,SqT.of hg5,rfl,_,_,rfl,rfl,_,rfl,la,_,1,_,rfl,rfl,SqT.of hl5,rfl,_,_,rfl,rfl,z2_,fun p6 n6=>?_⟩;rw [n6_] at eg;obtain ⟨p0,ep,rfl⟩:=n16_.mp eg
   have eq:mv (shf cs [m0,m1,m2,m3]) (img [m0,m1,m2,m3] p0)=((img [m0,m1,m2,m3] p0).1+(Yt cs).1-(Yt (cs.map (img [m0,m1,m2,m3]))).1,(img [m0,m1,m2,m3] p0).2+(Yt cs).2-(Yt (cs.map (img [m0,m1,m2,m3]))).2):=by
    unfold mv shf;refine Prod.ext ?_ ?_<;>(simp only [];omega)
   refine ⟨_,.inr ⟨numD cs,kp (mv (shf cs [m0,m1,m2,m3]) (img [m0,m1,m2,m3] p0)),p6,.inl (Same.new n6 _ _ (s5 _ _ h4)),rfl,by rw [kI_V,eq];exact Zc,rfl⟩,?_⟩;rw [Zjx];refine c _ _ (Xe cs (mv (shf cs [m0,m1,m2,m3]) (img [m0,m1,m2,m3] p0))) (Same.new n6) (by unfold ordB;rw [n6_,ep];rfl) ?_;cases Xe cs (mv (shf cs [m0,m1,m2,m3]) (img [m0,m1,m2,m3] p0))<;>rfl
 · rw [Zd3 a5] at e5;exact q H5 R (s2.trans (s3.trans (s4.trans s5))) e5
abbrev Xi:Stmt:=top 36
theorem Zc4 (F:Fun K "leads_pieces" "leads_pieces" Xi f fd):FnOk P w K mg base CX0 1 f fd ["plate","order"] Zjo:=by
 have sc:FnScope ["plate","order","thicks","piece","thick"] ["plate","order"] (Zf Xi):=fsc (by decide +kernel);refine F.ok sc fun cdv A outer s H vs Q E hr h=>?_;obtain ⟨v,oa,P',os,rfl,⟨a,c,p,t,st,rfl,ha,hc,⟨pa,pvs,rfl,hpa,pal⟩,⟨ta,rfl,hta⟩,hs⟩,ok,ho,ol,q⟩:=h;have nd:=sc.nd;have hu:=Zk9 hr;refine' ⟨_,?term,?read⟩
 case term=>refine' @Ze _ _ _ _ _ ?g1 (Ze (X9 PassesOwn.never rfl (Zot (pv 2)) (Yg (n:=2) rfl (Zg (Zl (i:=3) nd rfl (Or.inl rfl)) (Zg (Zl (i:=4) nd rfl (Or.inl rfl)) Zz))) (Zh (Xg (Yl Zl2 (Zjr hu (pv 2) (Zu Zw rfl T.b_tuple Z5 (Za (Zi Zch rfl T.b_sorted Yw (Za (Xh (N:=["corner","order"]) (fr:=[none,some 1]) rfl (Z4 (XN:=["plate","order","thicks","piece","thick"]) (Scope.names (Zf Xi)) rfl rfl rfl (fun _ h=>Zx h) (by decide +kernel) rfl) (Y2 (pv 3)) (fun _ _ _ _=>pgB 0) (fun _ _ _ _=>Zs) (fun _ _ _ _=>Zv (Zcw K rfl) (pv 1) (pv 0) (fun _ _=>rfl))) Zb rfl)) Zb rfl)) ⟨rfl,rfl,rfl,rfl⟩) (pv 4) (Yn _)) (Zh (Zn X0)) Z1))) (Zh (Zn X0)));case g1=>refine' @Zt _ _ (2) _ _ _ _ nd rfl (Or.inl rfl) (Zrz .t .t rfl (Zqd hr) rfl T.b_dict rfl T.b_zip (Za (Zv Z3 (pv 0) Zd (fun _ _=>rfl)) (Za (Zv Z3 (pv 0) Zd (fun _ _=>rfl)) Zb rfl) rfl)) (by rfl) (by first|exact Or.inl rfl|exact Or.inr rfl|assumption)
 have plen:=pal.1;have p40:=ok.p40
 have kal:Al (fun v (key:List Key)=>∃ c,v=V.ref c∧H c=some (.tup (key.map kV))) pvs (P'.ps.map kI):=by
  refine ⟨by rw [n5_];exact plen,fun i v x e1 e2=>?_⟩;rw [n6_] at e2;obtain ⟨p,ep,rfl⟩:=n16_.mp e2;obtain ⟨b,rfl,hb⟩:=pal.2 i v p e1 ep;exact ⟨b,rfl,by rw [kI_V];exact hb⟩
 refine ⟨_,rfl,a,_,1,_,rfl,rfl,SqT.of ha,rfl,_,rfl,a,_,2,_,rfl,rfl,SqT.of ha,rfl,pa,ta,rfl,⟨_,SqT.of hpa⟩,⟨_,SqT.of hta⟩,pvs,P'.ts.map V.int,P'.ps.map kI,SqT.of hpa,SqT.of hta,kal,by omega,fun D nD=>?_⟩;rw [show Zbw [] ((P'.ps.map kI).zip (P'.ts.map V.int))=dP P' from Zqc ok];refine ⟨_,rfl,D,dP P',rfl,Zc,fun o=>?_⟩
 have s1:Same H (upd (upd H D (.dT (dP P'))) D (.frz o (.dT (dP P')))):=fun b' o' e'=>by
  have ne:b'≠D:=fun z=>by rw [z,nD] at e';cases e'
  rw [Zj ne,Zj ne];exact e'
 have hD1:upd (upd H D (.dT (dP P'))) D (.frz o (.dT (dP P'))) D=some (.frz o (.dT (dP P'))):=Zc;generalize upd (upd H D (.dT (dP P'))) D (.frz o (.dT (dP P')))=H1 at s1 hD1 ⊢;have dl:=Znm ok;refine Xy (n:=(dP P').length) (fun i σ H'=>∃ w0 w1:Option V,σ=[some (.ref a),some (.ref oa),some (.ref D),w0,w1]∧Same H1 H'∧((P'.ps.zip P'.ts).take i).all (fun x=>decide (valV (dP P') (kI (Zb9 os x.1))=some (V.int x.2)))=true) ⟨_,_,rfl,Same.refl _,rfl⟩ (fun i σ H' hi p=>?_) (fun σ H' p=>?_) (fun i x σ H2 H3 hi y p=>?_) (fun σ H2 p=>?_)
 · obtain ⟨_,_,_,s2,_⟩:=p;exact ⟨_,s2 _ _ hD1,hi⟩
 · obtain ⟨_,_,_,s2,_⟩:=p;exact ⟨_,s2 _ _ hD1,n7_ _⟩
 · obtain ⟨w0,w1,rfl,s2,hall⟩:=p;obtain ⟨g,b,k,y,rfl,ng,rfl,hb,hk⟩:=y;obtain ⟨pc,t,ez,ep,rfl,rfl⟩:=Zqo ok (hk _ (s2 _ _ hD1));have s3:Same H2 (upd H2 g (.tup [.ref b,.int t])):=Same.new ng;have pok:=ok.pc pc (n10_ ep);rw [kI_V] at hb;have hb3:=s3 _ _ hb;have s13:=s2.trans s3;refine ⟨g,_,rfl,SqT.of Zc,rfl,_,_,rfl,_,_,rfl,rfl,?_⟩;generalize upd H2 g (.tup [.ref b,.int t])=H3 at s3 hb3 s13 ⊢;refine ⟨_,rfl,D,rfl,.inr ⟨_,.inr ⟨o,s13 _ _ hD1⟩⟩,?_⟩;refine ⟨_,rfl,b,rfl,⟨_,SqT.of hb3⟩,fun L nL=>?_⟩;refine lc_T (k:=.t) (vs:=pc.map V.int) (fun _ v (z:Int)=>v=.int z) (fun _ _ _ _ _ e=>e) (pc.map fun c=>((os.getD c.toNat 0:Nat):Int)) (by simp) (by rw [n5_,pok.len];decide) nL hb3 (fun i w H4 C hw s4 c=>?_) (fun H4 us s4 e4 a4=>?_)
   · rw [n6_] at hw;obtain ⟨z,ez',rfl⟩:=n16_.mp hw;obtain ⟨z0,z1⟩:=pok.bd z (n10_ ez');obtain ⟨n,rfl⟩:∃ n:Nat,z=n:=⟨z.toNat,by omega⟩;have hn:n<os.length:=by omega
     refine ⟨_,rfl,_,rfl,oa,_,_,_,rfl,rfl,SqL.of (s4 _ _ (s13 _ _ (s1 _ _ ho))),Xz (by rw [n6_,n1_ hn];rfl),?_⟩;refine c _ _ _ (Same.refl _) (by rw [n6_,ez'];rfl) ?_;show V.int _=V.int ((os.getD (n:Int).toNat 0:Nat):Int)
     rw [n57_,n4_,n1_ hn];rfl
   · rw [Zd3 a4] at e4;refine ⟨L,_,rfl,SqL.of e4,by rw [n5_,pok.len];decide,fun l2 ns' n2 pm ps'=>?_⟩;have ens:=Zih pm ps';have s5:Same H4 (upd H4 l2 (.lst (ns'.map V.int))):=Same.new n2;refine ⟨l2,_,rfl,.inl ⟨SqL.of Zc,fun l3 n3=>?_⟩⟩;have s6:Same (upd H4 l2 (.lst (ns'.map V.int))) (upd (upd H4 l2 (.lst (ns'.map V.int))) l3 (.tup (ns'.map V.int))):=Same.new n3;have h6:upd (upd H4 l2 (.lst (ns'.map V.int))) l3 (.tup (ns'.map V.int)) l3=some (.tup (ns'.map V.int)):=Zc;generalize upd (upd H4 l2 (.lst (ns'.map V.int))) l3 (.tup (ns'.map V.int))=H6 at s6 h6 ⊢;have s16:=s13.trans (s4.trans (s5.trans s6));refine ⟨_,.inr ⟨dP P',kI ns',l3,.inr ⟨o,s16 _ _ hD1⟩,rfl,by rw [kI_V];exact h6,rfl⟩,?_⟩;rw [ens];have es:srtI (pc.map fun c=>((os.getD c.toNat 0:Nat):Int))=Zb9 os pc:=rfl;rw [es];have tk1:(P'.ps.zip P'.ts).take (i+1)=(P'.ps.zip P'.ts).take i++[(pc,t)]:=by rw [List.take_succ,ez];rfl
     have ne0:∀ x,valV (dP P') (kI (Zb9 os pc))=x→scal (x.getD V.non) (V.int t)=true:=fun x hx=>by
      rcases Zjn (P:=P') (kI (Zb9 os pc)) with e|⟨t',e⟩
      · rw [hx] at e;subst e;rfl
      · rw [hx] at e;subst e;rfl
     refine ⟨_,rfl,ne0 _ rfl,_,rfl,?_⟩
     by_cases e:valV (dP P') (kI (Zb9 os pc))=some (V.int t)
     · rw [e,show (some (V.int t)).getD V.non=V.int t from rfl,n24_ rfl];refine iteF ⟨_,_,rfl,s16,?_⟩;rw [tk1,List.all_append,hall,n60_,n24_ e];rfl
     · have ne1:(valV (dP P') (kI (Zb9 os pc))).getD V.non≠V.int t:=fun z=>e (by
        rcases Zjn (P:=P') (kI (Zb9 os pc)) with e'|⟨t',e'⟩
        · rw [e'] at z;cases z
        · rw [e'] at z ⊢;exact congrArg some z)
       rw [n25_ ne1];refine iteT ?_
       have:Zbb P' os=false:=by
        unfold Zbb;rw [n69_];intro z;exact e (n35_ (n32_.mp z (pc,t) (n10_ ez)))
       have:=q H6 (s1.trans s16)
       rw [show Zbb P' os=false by assumption] at this;exact this
 · obtain ⟨w0,w1,rfl,s2,hall⟩:=p
   have:=q H2 (s1.trans s2)
   rw [show Zbb P' os=true by unfold Zbb;rw [dl,show P'.ps.length=(P'.ps.zip P'.ts).length by rw [List.length_zip,ok.t1,Nat.min_self],List.take_length] at hall;exact hall] at this;exact this
abbrev Zal:Stmt:=top 37
theorem Zeb (F:Fun K "turnings_of" "turnings_of" Zal f fd) (G:MatK K mg) (Cs_:a22_ P w K mg base) (Cap_:a23_ P w K mg base):FnOk P w K mg base CX0 2 f fd ["plate"] (Zbx K):=by
 have sc:FnScope ["plate","found","matrix","order"] ["plate"] (Zf Zal):=fsc (by decide +kernel);refine F.ok sc fun cdv A outer s H vs Q E hr h=>?_;obtain ⟨v,P',rfl,hP,ok,q⟩:=h;have nd:=sc.nd;obtain ⟨m_,rs,hmg,hKm,mal⟩:=G;refine' ⟨_,?term,?read⟩
 case term=>refine' @Ze _ _ _ _ _ (Zt (i:=1) nd rfl (Or.inl rfl) (Yy Zb)) ?g1;case g1=>refine' @Ze _ _ _ _ _ ?g2 (Zh (Zn (Zi (Zcj (hu3n hr)) rfl T.b_sorted Yw (Za (pv 1) Zb rfl))));case g2=>refine' @X9 _ _ _ _ _ _ _ _ PassesOwn.never rfl (Y2 (Zl6 rfl hmg (show RelV (.ref m_) (Value.ref m_) from rfl))) (Zl (i:=2) nd rfl (Or.inl rfl)) ?g3 (by intro _ ;rfl);case g3=>refine' @Ze _ _ _ _ _ (Zt (i:=3) nd rfl (Or.inl rfl) (Zk Cap_ hr (by decide) rfl (Za (Zv Z3 (pv 0) Zd (fun _ _=>rfl)) (Za (pv 2) Zb rfl) rfl))) (Zh (Xg (PW.pt (Zgv (Yl Zce Zjb (pv 3) rfl) (Zf2 (Zy (Zk Cs_ hr (by decide) rfl (Za (pv 0) (Za (pv 3) Zb rfl) rfl)) (fun _=>rfl))))) (Zh (Za1 (Zfc PySem.F.plainAttrs_list PySem.F.slot_list_append PySem.F.type_list_append Y8 (pv 1) (Za (Zo (Za (Zu Zw rfl T.b_tuple Z5 (Za (pv 3) Zb rfl)) (Za (pv 2) Zb rfl) rfl)) Zb rfl)))) Z1))
 have hP0:=hP;obtain ⟨a,c,p,t,st,rfl,ha,hc,hp,ht,hs⟩:=hP0;have rl:rs.length=8:=mal.1;refine ⟨z0_,fun fl nf=>?_⟩;generalize gG:upd H fl (.lst [])=H1;obtain ⟨sf,hf⟩:=gen_upd gG nf;refine ⟨m_,rfl,⟨_,hKm.sq⟩,?_⟩;refine Xy (n:=rs.length) (fun i σ H'=>∃ (w0 w1:Option V) (us:List V),σ=[some (.ref a),some (.ref fl),w0,w1]∧Same H H'∧H' fl=some (.lst us)∧Al (IsTk K H') us ((MATS.take i).filterMap (tOne P'))) ⟨_,_,[],rfl,sf,hf,⟨rfl,fun i v x e _=>by simp at e⟩⟩ (fun i σ H' hi p=>⟨_,rs[i],hKm.sq,n1_ hi⟩) (fun σ H' p=>⟨_,hKm.sq,n7_ _⟩) (fun i x σ H2 H3 hi y p=>?_) (fun σ H2 p=>?_)
 · obtain ⟨w0,w1,us,rfl,s2,h2,a2⟩:=p;obtain ⟨rfl,yx⟩:=y;have ex:rs[i]? = some x:=yx _ hKm.sq;obtain ⟨M,eM,ma,rfl,hma⟩:=mal.get ex;obtain ⟨hM4,hM1⟩:=Zmp M (n10_ eM)
   have tk1:(MATS.take (i+1)).filterMap (tOne P')=(MATS.take i).filterMap (tOne P')++(tOne P' M).toList:=by
    rw [List.take_succ,eM,n75_,List.filterMap_append];cases h:tOne P' M<;>simp [h]
   refine ⟨_,rfl,a,_,0,_,rfl,rfl,SqT.of (s2 _ _ ha),rfl,_,rfl,c,ma,P'.cs,M,rfl,hc.tk s2.tk,(by have:=ok.c3;omega),ok.c30,ok.nr,ok.nd,hma.sq,hM4,hM1,fun H3 ol s3 h3=>?_⟩;have s23:=s2.trans s3;have a3:=a2.imp fun v x r=>r.tk s3.tk
   have skip:∀ H4,Same H3 H4→tOne P' M=none→∃ (w0 w1:Option V) (us:List V),[some (.ref a),some (.ref fl),some (.ref ma),some (.ref ol)]=[some (V.ref a),some (.ref fl),w0,w1]∧Same H H4∧H4 fl=some (.lst us)∧Al (IsTk K H4) us ((MATS.take (i+1)).filterMap (tOne P')):=fun H4 s4 e=>by
    refine ⟨_,_,us,rfl,s23.trans s4,s4 _ _ (s3 _ _ h2),?_⟩;rw [tk1,e,Option.toList_none,n71_];exact a3.imp fun v x r=>r.tk s4.tk
   refine ⟨_,rfl,ol,_,rfl,.inl (SqL.of h3),rfl,Zq8 _,_,rfl,?_⟩;rw [Zv2]
   by_cases hfull:(ordB P'.cs M).all Option.isSome=true
   · obtain ⟨f1,f2⟩:=Zq2 hfull;rw [hfull];refine iteT ?_;rw [f2] at h3;refine ⟨_,rfl,_,rfl,.ref a,ol,P',_,rfl,hP.tk s23.tk,ok,h3,by rw [n5_,Zfb],fun H4 s4=>⟨_,rfl,?_⟩⟩;have e1:tOne P' M=if Zbb P' ((ordB P'.cs M).map (·.getD 0)) then some (((ordB P'.cs M).map (·.getD 0)).map fun i=>((i:Nat):Int),M) else none:=by unfold tOne;rw [f1];rfl
     generalize (ordB P'.cs M).map (·.getD 0)=os at *
     by_cases hl:Zbb P' os=true
     · rw [hl] at e1 ⊢;rw [if_pos rfl] at e1;refine iteT ?_;refine ⟨_,rfl,(.inl ⟨rfl,_,SqL.of (s4 _ _ (s3 _ _ h2))⟩),?_⟩;refine ⟨_,rfl,ol,_,rfl,.inl ⟨SqL.of (s4 _ _ h3),fun o2 n2=>?_⟩⟩;have s5:Same H4 (upd H4 o2 (.tup (oI os))):=Same.new n2;have h5:upd H4 o2 (.tup (oI os)) o2=some (.tup ((os.map fun i=>((i:Nat):Int)).map V.int)):=by rw [Zc,n74_];rfl
       generalize upd H4 o2 (.tup (oI os))=H5 at s5 h5 ⊢;refine ⟨_,rfl,z2_,fun t2 n3=>?_⟩;generalize gG:upd H5 t2 (.tup [.ref o2,.ref ma])=H6;obtain ⟨s6,h6⟩:=gen_upd gG n3;have s36:=s4.trans (s5.trans s6);have hfl:=s36 _ _ (s3 _ _ h2);have ul:us.length≤8:=by rw [a2.1];exact n33_ (n70_ _ _) (n33_ (List.length_take_le' _ _) (by decide))
       refine ⟨fl,us,_,rfl,rfl,hfl,by rw [sizeLine_eq];omega,?_⟩;have nfl:∀ b' o',H b'=some o'→b'≠fl:=fun b' o' e z=>by rw [z,nf] at e;cases e
       refine ⟨_,_,us++[.ref t2],rfl,fun b' o' e'=>by rw [Zj (nfl b' o' e')];exact s36 _ _ (s23 _ _ e'),Zc,?_⟩
       have tkF:Tk H6 (upd H6 fl (.lst (us++[.ref t2]))):=fun b' xs e'=>by
        rw [Zj (fun z=>by rw [z,hfl] at e';cases e')];exact e'
       rw [tk1,e1,n75_];refine Al.snoc (a3.imp fun v x r=>(r.tk s36.tk).tk tkF) ?_;exact ⟨t2,o2,ma,rfl,tkF _ _ h6,tkF _ _ (s6 _ _ h5),hma⟩
     · rw [n69_.mpr hl] at e1 ⊢;exact iteF (skip H4 s4 (by rw [e1];rfl))
   · rw [n69_.mpr hfull];exact iteF (iteF (skip H3 (Same.refl _) (by unfold tOne full;rw [if_neg hfull];rfl)))
 · obtain ⟨w0,w1,us,rfl,s2,h2,a2⟩:=p;rw [rl,show (MATS.take 8).filterMap (tOne P')=Xj P' from rfl] at a2;have tl:(Xj P').length≤8:=n33_ (n70_ _ _) (by decide);refine ⟨_,rfl,fl,us,Xj P',P'.cs.length,4,rfl,SqL.of h2,a2.imp fun v x r=>r.tn,Zr6 MATS Zro,by omega,Zm1,fun l q' nl nsy pm pw=>?_⟩;have s3:Same H2 (upd H2 l (.lst (q'.map fun i=>us.getD i .non))):=Same.new nl;refine q _ l _ (q'.map fun i=>(Xj P').getD i ([],[])) (s2.trans s3) (s2.free nl) nsy Zc ?_ (Zgs pm) pw;exact (al_q a2 fun i hi=>n34_.mp (pm.mem_iff.mp hi)).imp fun v x r=>r.tk s3.tk
abbrev Xw:Stmt:=top 38
theorem Zcr (F:Fun K "is_turning_of" "is_turning_of" Xw f fd) (Cas_:a24_ P w K mg base) (Caj_:a25_ P w K mg base) (Cx_:a26_ P w K mg base):FnOk P w K mg base CX0 3 f fd ["plate","thing"] (Zcx K):=by
 have sc:FnScope ["plate","thing"] ["plate","thing"] (Zf Xw):=fsc (by decide +kernel);refine F.ok sc fun cdv A outer s H vs Q E hr h=>?_;obtain ⟨v,th,P',N,k,d,rfl,hP,ok,h,hz,q⟩:=h;refine' ⟨_,?term,?read⟩
 case term=>refine' @Ze _ _ _ _ _ ?g1 ?g2;(case g1=>refine' @Xg _ _ _ _ _ _ _ _ ?g3 (Zh (Zn X0)) Z1;case g3=>refine' @PW.pt _ _ _ ?g4;case g4=>refine' @Zim _ _ _ _ _ _ _ (Y7 (Zy (Zk Cas_ hr (by decide) rfl (Za (pv 1) (Za Zd (Za Zd Zb rfl) rfl) rfl)) (fun _=>rfl))) ?g5;case g5=>refine' @Zdz _ _ _ _ ?g6;case g6=>refine' @Y7 _ _ _ _ ?g7;case g7=>refine' @Zy _ _ _ (Zi (Yo rfl) rfl T.b_all Zaq (Za (Xh (N:=["part"]) (fr:=[none]) rfl (Ys (by decide) rfl (by decide) rfl rfl) (Y2 (pv 1)) (fun _ _ _ _=>pgB 0) (fun _ _ _ _=>Zs) (fun _ _ _ _=>Zi (Zl5 K rfl) rfl T.b_isinstance Z0 (Za (pv 0) (Za (Xx (v:=.ty "tuple") rfl T.b_tuple Z5 rfl) Zb rfl) rfl))) Zb rfl)) (fun _=>rfl));case g2=>refine' @Ze _ _ _ _ _ ?g8 (Zh (Zn (Xs (Zt6 Ztz Zqb (hu3n hr)) (pv 1) (Zk Cx_ hr (by decide) rfl (Za (pv 0) Zb rfl)) rfl)));case g8=>refine' @Xg _ _ _ _ _ _ _ _ ?g9 (Zh (Zn X0)) Z1;case g9=>refine' @Y7 _ _ _ _ ?ga;case ga=>refine' @Zy _ _ _ ?gb (fun _=>rfl);case gb=>refine' @Zi _ _ _ _ _ _ _ _ _ (Yo rfl) rfl T.b_all Zaq ?gc (by decide) (by decide) (by rfl) (by rfl);case gc=>refine' @Za _ _ _ _ _ (Zug (N:=["part","number"]) (fr:=[none,none]) rfl (Ys (by decide) rfl (by decide) rfl rfl) (Y2 (pv 1)) (fun _ _ _ _=>pgB 0) (fun _ _ _ _=>Zdf K rfl (pv 0)) (fun _ _ _ _=>pgB 1) (fun _ _ _ _=>Zk Caj_ hr (by decide) rfl (Za (pv 1) Zb rfl))) Zb rfl
 refine ⟨_,rfl,N,k,th,d,rfl,h,_,rfl,?_⟩;cases e2:is2 d with
 | false =>
   rw [Zde (fun x z=>by rw [z] at e2;cases e2)] at q;exact iteT (iteT (q H (Same.refl H)))
 | true =>
 refine iteF ?_
 obtain ⟨t,x,y,d1,d2,rfl,rfl,ht,k1,k2⟩:∃ t x y d1 d2,th=.ref t∧d=.tuple [d1,d2]∧H t=some (.tup [x,y])∧Dt N H k x d1∧Dt N H k y d2:=by
  rcases h.isT with ⟨p,xs,ds,rfl,rfl,hp,hs⟩|e
  · have e3:xs.length=2:=hs.len.trans (n35_ e2)
    match xs,ds,hs,e3 with
    | [x,y],[d1,d2],.cons a (.cons b .nil),_=>exact ⟨p,x,y,d1,d2,rfl,rfl,hp,a,b⟩
  · cases d<;>first|(cases e2;done)|(cases e;done)
 refine ⟨_,rfl,t,rfl,⟨_,SqT.of ht⟩,fun D nD=>?_⟩;refine lc_T (k:=.t) (vs:=[x,y]) (fun _ v (z:Bool)=>v=.bl z) (fun _ _ _ _ _ e=>e) [isT d1,isT d2] rfl (by show 2≤1000;decide) nD ht (fun i w H2 C hw s2 c=>?_) (fun H2 us s2 e2' a2=>?_)
 · have hi:i=0∨i=1:=by
    have:=(n19_.mp hw).1
    simp at this;omega
   rcases hi with rfl|rfl
   · cases hw
     obtain ⟨t',ty,ki⟩:=(k1.same s2).ty (K:=K);exact ⟨_,rfl,_,_,t',_,rfl,ty,ki,c _ _ _ (Same.refl _) rfl rfl⟩
   · cases hw
     obtain ⟨t',ty,ki⟩:=(k2.same s2).ty (K:=K);exact ⟨_,rfl,_,_,t',_,rfl,ty,ki,c _ _ _ (Same.refl _) rfl rfl⟩
 rw [Zd3 a2] at e2';refine ⟨D,[isT d1,isT d2],rfl,SqL.of e2',_,rfl,?_⟩;cases e3:([isT d1,isT d2]:List Bool).all id with
 | false =>
   rw [Zde (fun x z=>by
    injection z with z
    injection z with z1 z
    injection z with z2 _
    subst z1 z2;cases e3)] at q
   exact iteT (q H2 s2)
 | true =>
 refine iteF ?_;simp only [n60_,List.all_nil,Bool.and_true,id,n30_] at e3
 rcases k1.isT with ⟨a,xs1,ds1,rfl,rfl,ha,hs1⟩|e
 case inr=>rw [e] at e3;cases e3.1
 rcases k2.isT with ⟨b,xs2,ds2,rfl,rfl,hb,hs2⟩|e
 case inr=>rw [e] at e3;cases e3.2
 have n1:=Zc9 ds1;have n2:=Zc9 ds2;have l1:=hs1.len;have l2:=hs2.len;simp only [nz,Zr] at hz;refine ⟨_,rfl,t,rfl,⟨_,SqT.of (s2 _ _ ht)⟩,fun D2 nD2=>?_⟩;refine Zvx (f:=isI) (N:=N) (kb:=k) (vs:=[.ref a,.ref b]) (pss:=[(xs1,ds1),(xs2,ds2)]) (SqT.of (s2 _ _ ht)) (.cons ⟨a,rfl,s2 _ _ ha,hs1.same s2⟩ (.cons ⟨b,rfl,s2 _ _ hb,hs2.same s2⟩ .nil)) (by show 2≤1000;decide) (fun p hp=>?_) nD2 (fun w v dd H3 C s3 hd c=>⟨_,rfl,N,k,v,dd,rfl,hd,c _ (Same.refl _)⟩) (fun H3 bs s3 e3' hb3=>?_)
 · simp only [n12_,n13_,or_false] at hp
   rcases hp with rfl|rfl
   · show xs1.length≤1000;omega
   · show xs2.length≤1000;omega
 refine ⟨D2,bs,rfl,SqL.of e3',_,rfl,?_⟩;rw [hb3];have s13:=s2.trans s3;cases e4:([(xs1,ds1),(xs2,ds2)]:List (List V×List PyData)).all (fun p=>p.2.all isI) with
 | false =>
   rw [Zde (fun x z=>by
    injection z with z
    injection z with z1 z
    injection z with z2 _
    injection z1 with z1
    injection z2 with z2
    subst z1 z2;simp only [n60_,List.all_nil,Bool.and_true,Zn6] at e4;cases e4)] at q
   exact iteT (q H3 s13)
 | true =>
 refine iteF ?_;simp only [n60_,List.all_nil,Bool.and_true,n30_] at e4;obtain ⟨ns1,rfl,rfl⟩:=Zie hs1 e4.1;obtain ⟨ns2,rfl,rfl⟩:=Zie hs2 e4.2;refine ⟨_,rfl,_,rfl,_,P',rfl,hP.tk s13.tk,ok,fun H4 l us ts s4 nl nsy e4' a4 pm pw=>?_⟩;have s14:=s13.trans s4;refine ⟨l,us,ts,(ns1,ns2),rfl,e4',a4.imp fun v x r=>r.tn,⟨t,a,b,rfl,SqT.of (s14 _ _ ht),SqT.of (s14 _ _ ha),SqT.of (s14 _ _ hb)⟩,?_⟩
 have:=q H4 s14
 rw [show isTurn P' (.tuple [.tuple (ns1.map .int),.tuple (ns2.map .int)])=decide ((ns1,ns2)∈Xj P') from Zn1 (ns1,ns2)] at this;refine (show ∀ b:Bool,b=decide ((ns1,ns2)∈Xj P')→Q (.bl b) H4 from fun b hb=>hb ▸ this) _ ?_;rw [if_neg (by simp)];exact (@decide_eq_decide _ _ (_) (_)).mpr pm.mem_iff
abbrev Za4:Stmt:=top 39
theorem Ze7 (F:Fun K "is_turning" "is_turning" Za4 f fd) (Cm_:a27_ P w K mg base) (Cn_:a28_ P w K mg base):FnOk P w K mg base CX0 7 f fd ["plate","thing"] (Zcx K):=by
 have sc:FnScope ["plate","thing"] ["plate","thing"] (Zf Za4):=fsc (by decide +kernel);refine F.ok sc fun cdv A outer s H vs Q E hr h=>?_;obtain ⟨v,th,P',N,k,d,rfl,hP,ok,h,hz,q⟩:=h;refine' ⟨_,?term,?read⟩
 case term=>refine' @Ze _ _ _ _ _ (Za1 (Zk Cn_ hr (by decide) rfl (Za (pv 0) Zb rfl))) (Zh (Zn (Zk Cm_ hr (by decide) rfl (Za (pv 0) (Za (pv 1) Zb rfl) rfl))))
 refine ⟨_,rfl,v,P',rfl,hP,ok,fun H2 s2=>?_⟩;exact ⟨_,rfl,_,rfl,v,th,P',N,k,d,rfl,hP.tk s2.tk,ok,h.same s2,hz,fun H3 s3=>q H3 (s2.trans s3)⟩
abbrev X7:Stmt:=top 41
theorem Zdj (F:Fun K "_law_cell_at" "_law_cell_at" X7 f fd):FnOk P w K mg base CX0 1 f fd ["_law_script","_law_k"] (Znl K):=by
 have sc:FnScope ["_law_script","_law_k"] ["_law_script","_law_k"] (Zf X7):=fsc (by decide +kernel);refine F.ok sc fun cdv A outer s H vs Q E hr h=>?_;obtain ⟨a,ns,k,rfl,hS,q⟩:=h;refine' ⟨_,?term,?read⟩
 case term=>refine' @Ze _ _ _ _ _ (Xg (Yl Zna (pv 1) (Zi Zq rfl T.b_len Y3 (Za (pv 0) Zb rfl)) (Yn _)) (Zh (Zn (Zv Z9 (pv 0) (pv 1) (fun _ _=>rfl)))) Z1) (Zh (Zn Zd))
 refine ⟨_,rfl,_,rfl,a,_,rfl,.inl hS,_,_,rfl,rfl,_,rfl,?_⟩;refine ite2 (fun hlt=>?_) (fun _=>q 0)
 have hk:k<ns.length:=by
  have z:=n35_ hlt;rw [n5_] at z;omega
 exact ⟨_,rfl,_,rfl,a,_,_,_,rfl,rfl,hS,Xz (by rw [n6_,n1_ hk];rfl),q _⟩
abbrev Za2:Stmt:=top 42
theorem Zez (F:Fun K "_law_state" "_law_state" Za2 f fd) (Ct_:a29_ P w K mg base):FnOk P w K mg base CX0 2 f fd ["_law_script","_law_k"] (Zjm K):=by
 have sc:FnScope ["_law_script","_law_k","_law_cell"] ["_law_script","_law_k"] (Zf Za2):=fsc (by decide +kernel);refine F.ok sc fun cdv A outer s H vs Q E hr h=>?_;obtain ⟨a,ns,k,rfl,hS,q⟩:=h;have nd:=sc.nd;refine' ⟨_,?term,?read⟩
 case term=>refine' @Ze _ _ _ _ _ (Zt (i:=2) nd rfl (Or.inl rfl) (Zk Ct_ hr (by decide) rfl (Za (pv 0) (Za (pv 1) Zb rfl) rfl))) (Zh (Zn (Yy (Za (Zi (Zhe rfl) rfl T.b_max Zpv (Za Zd (Za (Zp Xd (pv 2) (Zp Zpw Zd Zd)) Zb rfl) rfl)) (Za (Zp Yd (Zp Zb7 (pv 2) Zd) Zd) (Za Zd Zb rfl) rfl) rfl))))
 refine ⟨_,rfl,_,rfl,a,ns,k,rfl,hS,fun c=>?_⟩;refine ⟨_,rfl,_,_,rfl,rfl,⟨by decide,by decide,by decide⟩,_,_,rfl,rfl,_,_,rfl,?_⟩;refine ⟨_,rfl,_,_,rfl,rfl,(by show (2147483629:Int)≠0;decide),_,_,rfl,rfl,(z3_),fun p hp=>q p _ hp (Same.new hp) ⟨_,_,_,Zc,?_,?_⟩⟩
 · have:=Int.fmod_nonneg_of_pos c (b:=2147483629) (by decide)
   omega
 · have:=Int.fmod_lt_of_pos c (b:=2147483629) (by decide)
   omega
abbrev Zaa:Stmt:=top 43
theorem Zec (F:Fun K "_law_choice" "_law_choice" Zaa f fd):FnOk P w K mg base CX0 1 f fd ["_law_state_here","_law_many"] Zdo:=by
 have sc:FnScope ["_law_state_here","_law_many","_law_found","_law_mixed"] ["_law_state_here","_law_many"] (Zf Zaa):=fsc (by decide +kernel);refine F.ok sc fun cdv A outer s H vs Q E hr h=>?_;obtain ⟨l,m,rfl,⟨s0,s1,s2,hl,h0,h1⟩,hm,hz,q⟩:=h;have nd:=sc.nd;refine' ⟨_,?term,?read⟩
 case term=>refine' @Ze _ _ _ _ _ ?g1 ?g2;(case g1=>refine' @Xg _ _ _ _ _ _ _ _ (Yl Zst (Zv Z9 (pv 0) Zd (fun _ _=>rfl)) Zd (Yn _)) ?g3 Z1;case g3=>refine' @Ze _ _ _ _ _ (Zt (i:=2) nd rfl (Or.inl rfl) (Zp Zb7 (Zv Z9 (pv 0) Zd (fun _ _=>rfl)) (pv 1))) (Ze (Xo (Zp Zjj (Zv Z9 (pv 0) Zd (fun _ _=>rfl)) (pv 1)) (Zgy (pv 0) Zd Zbn)) (Zh (Zn (pv 2)))));case g2=>refine' @Ze _ _ _ _ _ (Xo (Zp Yd (Zv Z9 (pv 0) Zd (fun _ _=>rfl)) Zd) (Zgy (pv 0) Zd Zbn)) ?g4;case g4=>refine' @Ze _ _ _ _ _ ?g5 ?g6;(case g5=>refine' @Xo _ _ _ _ _ _ ?g7 (Zgy (pv 0) Zd Zbn) (by rfl) (by rfl) (by rfl);case g7=>refine' @Zp _ _ _ _ _ _ _ _ Zb7 ?g8 Zd;case g8=>refine' @Zp _ _ _ _ _ _ _ _ Yd (Zp Yd (Zp Z6 (Zv Z9 (pv 0) Zd (fun _ _=>rfl)) Zd) Zd) (Zv Z9 (pv 0) Zd (fun _ _=>rfl)));case g6=>refine' @Ze _ _ _ _ _ ?g9 (Ze (Zt (i:=3) nd rfl (Or.inl rfl) (Zp Zb7 (Zp Yd (Zp Z6 (pv 3) (pv 3)) (Zp Z6 Zd (pv 3))) Zd)) (Zh (Zn (Zp Zb7 (Zp Zjj (pv 3) Zd) (pv 1)))));case g9=>refine' @Zt _ _ (3) _ _ _ _ nd rfl (Or.inl rfl) ?ga (by rfl) (by first|exact Or.inl rfl|exact Or.inr rfl|assumption);case ga=>refine' @Zp _ _ _ _ _ _ _ _ Zb7 ?gb Zd;case gb=>refine' @Zp _ _ _ _ _ _ _ _ Yd ?gc Zd;case gc=>refine' @Zp _ _ _ _ _ _ _ _ Yd ?gd (Zp Z6 Zd (Zv Z9 (pv 0) Zd (fun _ _=>rfl)));case gd=>refine' @Zp _ _ _ _ _ _ _ _ Z6 (Zv Z9 (pv 0) Zd (fun _ _=>rfl)) (Zv Z9 (pv 0) Zd (fun _ _=>rfl))
 have hm0:m≠0:=by omega
 refine ⟨_,rfl,l,_,0,_,rfl,rfl,SqL.of hl,rfl,_,_,rfl,rfl,_,rfl,?_⟩;refine ite2 (fun _=>?_) (fun _=>?_)
 · refine ⟨_,rfl,l,_,0,_,rfl,rfl,SqL.of hl,rfl,_,rfl,_,_,rfl,rfl,hm0,?_⟩;refine ⟨_,rfl,l,_,0,_,rfl,rfl,SqL.of hl,rfl,_,rfl,_,_,rfl,rfl,⟨hm0,hz⟩,?_⟩;refine ⟨_,rfl,l,_,0,0,rfl,rfl,hl,rfl,?_⟩;exact ⟨_,rfl,q _ _ (Int.fmod_nonneg_of_pos _ hm) (Int.fmod_lt_of_pos _ hm) Keep.upd ⟨_,_,_,Zc,h0,h1⟩⟩
 ·
  refine ⟨_,rfl,l,_,2,_,rfl,rfl,SqL.of hl,rfl,_,_,rfl,rfl,?_⟩;refine ⟨_,rfl,l,_,2,2,rfl,rfl,hl,rfl,?_⟩;refine ⟨_,rfl,l,_,1,_,rfl,rfl,SqL.of Zc,rfl,_,_,rfl,rfl,mulS (by rw [p64];omega) (by decide),_,_,rfl,rfl,?_⟩;refine ⟨_,rfl,l,_,2,_,rfl,rfl,SqL.of Zc,rfl,_,_,rfl,rfl,_,_,rfl,rfl,(by show (2147483647:Int)≠0;decide),?_⟩;refine ⟨_,rfl,l,_,1,1,rfl,rfl,Zc,rfl,?_⟩;generalize hs:Int.fmod (s1*48271+29+(s2+1)) 2147483647=u;have u0:0≤u:=by rw [← hs];exact Int.fmod_nonneg_of_pos _ (by decide)
  have u1:u<2147483647:=by rw [← hs];exact Int.fmod_lt_of_pos _ (by decide)
  refine ⟨_,rfl,l,_,1,_,rfl,rfl,SqL.of Zc,rfl,_,rfl,l,_,1,_,rfl,rfl,SqL.of Zc,rfl,u,u,by rw [← hs],by rw [← hs],mulS (by rw [p64];omega) (by rw [p64];omega),?_⟩;refine ⟨_,rfl,l,_,1,_,rfl,rfl,SqL.of Zc,rfl,39373,u,rfl,by rw [← hs],mulS (by decide) (by rw [p64];omega),_,_,rfl,rfl,_,_,rfl,rfl,_,_,rfl,rfl,(by show (2147483629:Int)≠0;decide),?_⟩;generalize hv:Int.fmod (u*u+39373*u+7) 2147483629=v;have v0:0≤v:=by rw [← hv];exact Int.fmod_nonneg_of_pos _ (by decide)
  have v1:v<2147483629:=by rw [← hv];exact Int.fmod_lt_of_pos _ (by decide)
  refine ⟨_,rfl,_,rfl,v,v,by rw [← hv],by rw [← hv],mulS (by rw [p64];omega) (by rw [p64];omega),_,rfl,50021,v,rfl,by rw [← hv],mulS (by decide) (by rw [p64];omega),_,_,rfl,rfl,_,_,rfl,rfl,(by show (2147483587:Int)≠0;decide),?_⟩;refine ⟨_,rfl,_,_,rfl,rfl,⟨by decide,Ye (by decide)⟩,_,rfl,_,_,rfl,rfl,hm0,?_⟩;exact q _ _ (Int.fmod_nonneg_of_pos _ hm) (Int.fmod_lt_of_pos _ hm) (Keep.upd.trans Keep.upd) ⟨_,u,_,by rw [← hs];exact Zc,u0,by omega⟩
abbrev Za0:Stmt:=top 44
theorem Zfq (F:Fun K "_law_order" "_law_order" Za0 f fd) (Ca_:a30_ P w K mg base):FnOk P w K mg base CX0 2 f fd ["_law_state_here","_law_many"] Zj5:=by
 have sc:FnScope ["_law_state_here","_law_many","_law_left","_law_found"] ["_law_state_here","_law_many"] (Zf Za0):=fsc (by decide +kernel);refine F.ok sc fun cdv A outer s H vs Q E hr h=>?_;obtain ⟨l,n,rfl,hl,h60,q⟩:=h;have nd:=sc.nd;have hu:=Zk9 hr;have hu1:=Nat.lt_of_succ_lt hu;refine' ⟨_,?term,?read⟩
 case term=>refine' @Ze _ _ _ _ _ (Zi5 rfl nd (i:=2) (j:=3) rfl rfl (by decide) rfl rfl (Za (Zu (Zk2 rfl) rfl T.b_list Zc7 (Za (Zts rfl T.b_range (Za (pv 1) Zb rfl)) Zb rfl)) (Za (Yy Zb) Zb rfl) rfl) rfl) (Ze (Zo5 PassesOwn.never (Yl (Zup hu1) (pv 2) (Yy Zb) (Yn _)) (Zh (Za1 (Zfc PySem.F.plainAttrs_list PySem.F.slot_list_append PySem.F.type_list_append Y8 (pv 3) (Za (Zfc PySem.F.plainAttrs_list PySem.F.slot_list_pop PySem.F.type_list_pop Zn9 (pv 2) (Za (Zk Ca_ hr (by decide) rfl (Za (pv 0) (Za (Zi Zq rfl T.b_len Y3 (Za (pv 2) Zb rfl)) Zb rfl) rfl)) Zb rfl)) Zb rfl))))) (Zh (Zn (pv 3))))
 refine ⟨_,rfl,n,rfl,fun R nR=>?_⟩;refine ⟨R,n,rfl,Zc,by omega,fun L nL=>?_⟩;have s1:Same H (upd H R (.rng 0 n)):=Same.new nR;generalize upd H R (.rng 0 n)=H1 at s1 nL ⊢
 have nL0:H L=none:=by
  cases e:H L with
  | none=>rfl
  | some o=>rw [s1 _ _ e] at nL;cases nL
 generalize gG:upd H1 L (.lst ((List.range n).map fun i:Nat=>V.int i))=H2;obtain ⟨s2,e2⟩:=gen_upd gG nL;refine ⟨z0_,fun F nF=>?_⟩;have s3:Same H2 (upd H2 F (.lst [])):=Same.new nF;have e3:upd H2 F (.lst []) F=some (.lst []):=Zc;have nLF:L≠F:=Zm e2 nF;generalize upd H2 F (.lst [])=H3 at s3 e3 ⊢;have s03:=s1.trans (s2.trans s3)
 have nF0:H F=none:=by
  cases e:H F with
  | none=>rfl
  | some o=>rw [s2 _ _ (s1 _ _ e)] at nF;cases nF
 have nLl:L≠l:=hl.neN nL0;have nFl:F≠l:=hl.neN nF0;refine ⟨_,_,rfl,?_⟩;refine Zpe (fun σ H2=>σ=[some (.ref l),some (.int n),some (.ref L),some (.ref F)]∧Keep l H H2∧StAt H2 l∧∃ xs ys:List Int,H2 L=some (.lst (xs.map V.int))∧H2 F=some (.lst (ys.map V.int))∧(ys++xs).Perm ((List.range n).map fun i:Nat=>(i:Int))) (fun σ H2=>match H2 L with|some (.lst xs)=>xs.length|_=>0) ⟨rfl,s03.keep,hl.same s03,(List.range n).map fun i:Nat=>(i:Int),[],?_,e3,.refl _⟩ ?_ ?_
 · rw [n74_];exact s3 _ _ e2
 · rintro σ H4 ⟨rfl,k4,l4,xs,ys,eL,eF,pm⟩
   refine ⟨_,rfl,z0_,fun E nE=>?_⟩;generalize gG:upd H4 E (.lst [])=H5;obtain ⟨s5,e5⟩:=gen_upd gG nE;refine ⟨L,E,_,rfl,rfl,SqL.of (s5 _ _ eL),SqL.of e5,_,rfl,?_⟩;cases xs with
   | nil =>
     refine iteF ?_;refine ⟨_,rfl,q H5 F ys (k4.trans s5.keep) (l4.same s5) nF0 (s5 _ _ eF) ?_⟩
     simpa using pm
   | cons x xs =>
     refine iteT ?_
     have len:ys.length+(x :: xs).length=n:=by
      have:=pm.length_eq
      simpa using this
     have l5:=l4.same s5;refine ⟨_,rfl,.inl ⟨rfl,_,SqL.of (s5 _ _ eF)⟩,_,rfl,.inl ⟨rfl,_,SqL.of (s5 _ _ eL)⟩,_,rfl,_,rfl,L,_,rfl,.inl (SqL.of (s5 _ _ eL)),l,_,rfl,l5,?_,?_,fun r H6 r0 r1 k6 l6=>?_⟩
     · simp
     · rw [n5_];refine Ye ?_;show _<18446744073709551616
       simp at len ⊢;omega
     · rw [n5_] at r1;have hr:r.toNat<(x :: xs).length:=by omega
       have eL6:=k6 _ _ nLl (s5 _ _ eL);have eF6:=k6 _ _ nFl (s5 _ _ eF);refine ⟨L,_,r,r.toNat,.int ((x :: xs)[r.toNat]),rfl,rfl,eL6,by omega,?_,seqI r0 (by rw [n5_];exact r1),by rw [n6_,n1_ hr];rfl,?_⟩
       · have:(n:Int)≤60:=by omega
         have:((x :: xs).length:Int)≤n:=by omega
         omega
       · refine ⟨F,_,_,rfl,rfl,by rw [Zj nLF.symm];exact eF6,?_,?_⟩
         · rw [n5_,sizeLine_eq];omega
         · have eL7:∀ o,upd (upd H6 L (.lst (((x :: xs).map V.int).eraseIdx r.toNat))) F o L=some (.lst (((x :: xs).map V.int).eraseIdx r.toNat)):=fun o=>by rw [Zj nLF,Zc]
           refine ⟨⟨rfl,?_,?_,(x :: xs).eraseIdx r.toNat,ys++[(x :: xs)[r.toNat]],?_,?_,?_⟩,?_⟩
           · intro b o nb e;rw [Zj (Zm e nF0),Zj (Zm e nL0)];exact k6 _ _ nb (s5 _ _ (k4 _ _ nb e))
           · obtain ⟨a,b,c,e,r⟩:=l6;exact ⟨a,b,c,by rw [Zj nFl.symm,Zj nLl.symm];exact e,r⟩
           · rw [eL7,Zho]
           · rw [Zc,List.map_append];rfl
           · refine List.Perm.trans ?_ pm;rw [n28_];refine List.Perm.append_left ys ?_;exact Zeq _ _ hr
           · rw [eL7,eL];dsimp only;rw [List.length_eraseIdx_of_lt (by rw [n5_];exact hr)]
             simp
 · rintro σ H' Q1 Q2 hq ⟨v,e,z,f⟩
   refine ⟨v,e,z,fun p np=>?_⟩;obtain ⟨a,b,xs,e1,e2,h1,h2,k,t,q'⟩:=f p np;exact ⟨a,b,xs,e1,e2,h1,h2,k,t,hq _ _ q'⟩
abbrev Zan:Stmt:=top 45
theorem Zd7 (F:Fun K "_law_shapes" "_law_shapes" Zan f fd):FnOk P w K mg base CX0 1 f fd [] Zgk:=by
 have sc:FnScope ["_law_one","_law_two","_law_hub","_law_hinge","_law_apart","_law_strip","_law_cross","_law_chain"] [] (Zf Zan):=fsc (by decide +kernel);refine F.ok sc fun cdv A outer s H vs Q E hr h=>?_;obtain ⟨rfl,q⟩:=h;have nd:=sc.nd;refine' ⟨_,?term,?read⟩
 case term=>refine' @Ze _ _ _ _ _ ?g1 ?g2;(case g1=>refine' @Zt _ _ (0) _ _ _ _ nd rfl (Or.inl rfl) ?g3 (by rfl) (by first|exact Or.inl rfl|exact Or.inr rfl|assumption);case g3=>refine' @Yx _ _ (([(0,0),(2,0),(0,3)],[[0,1,2]])) rfl);case g2=>refine' @Ze _ _ _ _ _ ?g4 ?g5;(case g4=>refine' @Zt _ _ (1) _ _ _ _ nd rfl (Or.inl rfl) ?g6 (by rfl) (by first|exact Or.inl rfl|exact Or.inr rfl|assumption);case g6=>refine' @Yx _ _ (([(0,0),(3,0),(3,2),(0,2)],[[0,1,2],[0,2,3]])) rfl);case g5=>refine' @Ze _ _ _ _ _ ?g7 ?g8;(case g7=>refine' @Zt _ _ (2) _ _ _ _ nd rfl (Or.inl rfl) ?g9 (by rfl) (by first|exact Or.inl rfl|exact Or.inr rfl|assumption);case g9=>refine' @Yx _ _ (([(0,0),(6,0),(0,6),(2,1)],[[0,1,3],[0,2,3],[1,2,3]])) rfl);case g8=>refine' @Ze _ _ _ _ _ ?ga ?gb;(case ga=>refine' @Zt _ _ (3) _ _ _ _ nd rfl (Or.inl rfl) ?gc (by rfl) (by first|exact Or.inl rfl|exact Or.inr rfl|assumption);case gc=>refine' @Yx _ _ (([(0,0),(2,1),(2,-1),(-2,1),(-3,-1)],[[0,1,2],[0,3,4]])) rfl);case gb=>refine' @Ze _ _ _ _ _ ?gd ?ge;(case gd=>refine' @Zt _ _ (4) _ _ _ _ nd rfl (Or.inl rfl) ?gf (by rfl) (by first|exact Or.inl rfl|exact Or.inr rfl|assumption);case gf=>refine' @Yx _ _ (([(0,0),(2,0),(0,2),(4,0),(6,1),(4,3)],[[0,1,2],[3,4,5]])) rfl);case ge=>refine' @Ze _ _ _ _ _ ?gg ?gh;(case gg=>refine' @Zt _ _ (5) _ _ _ _ nd rfl (Or.inl rfl) ?gi (by rfl) (by first|exact Or.inl rfl|exact Or.inr rfl|assumption);case gi=>refine' @Yx _ _ (([(0,0),(0,2),(2,0),(3,2),(5,0)],[[0,1,2],[1,2,3],[2,3,4]])) rfl);case gh=>refine' @Ze _ _ _ _ _ ?gj ?gk;(case gj=>refine' @Zt _ _ (6) _ _ _ _ nd rfl (Or.inl rfl) ?gl (by rfl) (by first|exact Or.inl rfl|exact Or.inr rfl|assumption);case gl=>refine' @Yx _ _ (([(0,0),(2,0),(0,3),(-2,0),(0,-1)],[[0,1,2],[0,2,3],[0,3,4],[0,1,4]])) rfl);case gk=>refine' @Ze _ _ _ _ _ ?gm ?gn;(case gm=>refine' @Zt _ _ (7) _ _ _ _ nd rfl (Or.inl rfl) ?go (by rfl) (by first|exact Or.inl rfl|exact Or.inr rfl|assumption);case go=>refine' @Yx _ _ (([(0,0),(1,2),(2,0),(3,2),(4,0),(5,3)],[[0,1,2],[2,3,4],[3,4,5]])) rfl);case gn=>refine' @Zh _ _ _ ?gp;case gp=>refine' @Zn _ _ _ _ ?gq;case gq=>refine' @Yy _ _ _ _ (Za (pv 0) (Za (pv 1) (Za (pv 3) (Za (pv 4) (Za (pv 2) (Za (pv 5) (Za (pv 7) (Za (pv 6) Zb rfl) rfl) rfl) rfl) rfl) rfl) rfl) rfl)
 intro H1 v_one s1 h_one;intro H2 v_two s2 h_two;intro H3 v_hub s3 h_hub;intro H4 v_hinge s4 h_hinge;intro H5 v_apart s5 h_apart;intro H6 v_strip s6 h_strip;intro H7 v_cross s7 h_cross;intro H8 v_chain s8 h_chain;replace h_one:=h_one.tk s2.tk;replace h_one:=h_one.tk s3.tk;replace h_one:=h_one.tk s4.tk;replace h_one:=h_one.tk s5.tk;replace h_one:=h_one.tk s6.tk;replace h_one:=h_one.tk s7.tk;replace h_one:=h_one.tk s8.tk;replace h_two:=h_two.tk s3.tk;replace h_two:=h_two.tk s4.tk;replace h_two:=h_two.tk s5.tk;replace h_two:=h_two.tk s6.tk;replace h_two:=h_two.tk s7.tk;replace h_two:=h_two.tk s8.tk;replace h_hub:=h_hub.tk s4.tk;replace h_hub:=h_hub.tk s5.tk;replace h_hub:=h_hub.tk s6.tk;replace h_hub:=h_hub.tk s7.tk;replace h_hub:=h_hub.tk s8.tk;replace h_hinge:=h_hinge.tk s5.tk;replace h_hinge:=h_hinge.tk s6.tk;replace h_hinge:=h_hinge.tk s7.tk;replace h_hinge:=h_hinge.tk s8.tk;replace h_apart:=h_apart.tk s6.tk;replace h_apart:=h_apart.tk s7.tk;replace h_apart:=h_apart.tk s8.tk;replace h_strip:=h_strip.tk s7.tk;replace h_strip:=h_strip.tk s8.tk;replace h_cross:=h_cross.tk s8.tk;refine ⟨_,rfl,_,rfl,_,rfl,_,rfl,_,rfl,_,rfl,_,rfl,_,rfl,by show 8≤sizeLine;decide,fun r nr=>?_⟩;have s9:Same H8 (upd H8 r (.lst [v_one,v_two,v_hinge,v_apart,v_hub,v_strip,v_chain,v_cross])):=Same.new nr;have s08:=(((((((s1.trans s2).trans s3).trans s4).trans s5).trans s6).trans s7).trans s8);refine q _ r _ (s08.trans s9) ?_ Zc ?_
 · cases e:H r with
   | none=>rfl
   | some o=>rw [s08 _ _ e] at nr;cases nr
 · exact (.cons (h_one.tk s9.tk) (.cons (h_two.tk s9.tk) (.cons (h_hinge.tk s9.tk) (.cons (h_apart.tk s9.tk) (.cons (h_hub.tk s9.tk) (.cons (h_strip.tk s9.tk) (.cons (h_chain.tk s9.tk) (.cons (h_cross.tk s9.tk) .nil))))))))
abbrev Y4:Stmt:=top 46
theorem Zfp (F:Fun K "_law_plate" "_law_plate" Y4 f fd) (Ca_:a30_ P w K mg base) (Cd_:a31_ P w K mg base) (Cy_:a32_ P w K mg base):FnOk P w K mg base CX0 3 f fd ["_law_state_here","_law_most"] Zjk:=by
 have sc:FnScope ["_law_state_here","_law_most","_law_points","_law_pieces","_law_a","_law_b","_law_c","_law_d","_law_s","_law_t","_law_order_here","_law_corners","_law_at","_law_x","_law_y","_law_rows","_law_thicks"] ["_law_state_here","_law_most"] (Zf Y4):=fsc (by decide +kernel);refine F.ok sc fun cdv A outer s H vs Q E hr h=>?_;obtain ⟨l,rfl,hl,q'⟩:=h;have nd:=sc.nd;refine' ⟨_,?term,?read⟩
 case term=>refine' @Ze _ _ _ _ _ ?g1 ?g2;(case g1=>refine' @Xo _ _ _ _ _ _ ?g3 (Yg (n:=2) rfl (Zg (Zl (i:=2) nd rfl (Or.inl rfl)) (Zg (Zl (i:=3) nd rfl (Or.inl rfl)) Zz))) (by rfl) (by rfl) (by rfl);case g3=>refine' @Zv _ _ _ _ _ _ _ Z9 (Zic Cy_ hr (by decide) rfl) (Zk Ca_ hr (by decide) rfl (Za (pv 0) (Za (pv 1) Zb rfl) rfl)) (fun _ _=>rfl));case g2=>refine' @Ze _ _ _ _ _ (Zm4 rfl nd (i:=4) (j:=5) (k:=6) rfl rfl rfl (by decide) (by decide) (by decide) rfl rfl rfl (Za (Zp Yd Zd (Zk Ca_ hr (by decide) rfl (Za (pv 0) (Za Zd Zb rfl) rfl))) (Za (Zp Xd (Zk Ca_ hr (by decide) rfl (Za (pv 0) (Za Zd Zb rfl) rfl)) Zd) (Za (Zp Xd (Zk Ca_ hr (by decide) rfl (Za (pv 0) (Za Zd Zb rfl) rfl)) Zd) Zb rfl) rfl) rfl) rfl) ?g4;case g4=>refine' @Ze _ _ _ _ _ (Zm4 rfl nd (i:=7) (j:=8) (k:=9) rfl rfl rfl (by decide) (by decide) (by decide) rfl rfl rfl (Za (Zp Xd (Zk Ca_ hr (by decide) rfl (Za (pv 0) (Za Zd Zb rfl) rfl)) Zd) (Za (Zp Xd (Zk Ca_ hr (by decide) rfl (Za (pv 0) (Za Zd Zb rfl) rfl)) Zd) (Za (Zp Xd (Zk Ca_ hr (by decide) rfl (Za (pv 0) (Za Zd Zb rfl) rfl)) Zd) Zb rfl) rfl) rfl) rfl) ?g5;case g5=>refine' @Ze _ _ _ _ _ ?g6 ?g7;(case g6=>refine' @Xg _ _ _ _ _ _ _ _ (Yl Zmo (Zp Z6 (pv 4) (pv 7)) (Zp Z6 (pv 5) (pv 6)) (Yn _)) ?g8 Z1;case g8=>refine' @Zh _ _ _ ?g9;case g9=>refine' @Xo _ _ _ _ _ _ ?ga (Yg (n:=4) rfl (Zg (Zl (i:=4) nd rfl (Or.inl rfl)) (Zg (Zl (i:=5) nd rfl (Or.inl rfl)) (Zg (Zl (i:=6) nd rfl (Or.inl rfl)) (Zg (Zl (i:=7) nd rfl (Or.inl rfl)) Zz))))) (by rfl) (by rfl) (by rfl);case ga=>refine' @Zo _ _ _ _ _ ?gb;case gb=>refine' @Za _ _ _ _ _ Zd (Za (pv 5) (Za Zd (Za Zd Zb rfl) rfl) rfl) rfl);case g7=>refine' @Ze _ _ _ _ _ (Zt (i:=10) nd rfl (Or.inr rfl) (Zk Cd_ hr (by decide) rfl (Za (pv 0) (Za (Zi Zq rfl T.b_len Y3 (Za (pv 2) Zb rfl)) Zb rfl) rfl))) ?gc;case gc=>refine' @Ze _ _ _ _ _ (Zt (i:=11) nd rfl (Or.inl rfl) (Zp Zqg (Yy (Za (Zo (Za Zd (Za Zd Zb rfl) rfl)) Zb rfl)) (Zi Zq rfl T.b_len Y3 (Za (pv 2) Zb rfl)))) ?gd;case gd=>refine' @Ze _ _ _ _ _ ?ge ?gf;(case ge=>refine' @X9 _ _ _ _ _ _ _ _ PassesOwn.never rfl (Ze4 .t rfl T.b_enumerate (Za (pv 2) Zb rfl)) (Yg (n:=2) rfl (Zg (Zl (i:=12) nd rfl (Or.inl rfl)) (Zg (Yg (n:=2) rfl (Zg (Zl (i:=13) nd rfl (Or.inl rfl)) (Zg (Zl (i:=14) nd rfl (Or.inl rfl)) Zz))) Zz))) ?gg (by intro _ ;rfl);case gg=>refine' @Zh _ _ _ ?gh;case gh=>refine' @Xo _ _ _ _ _ _ (Zo (Za (Zp Yd (Zp Yd (Zp Z6 (pv 4) (pv 13)) (Zp Z6 (pv 5) (pv 14))) (pv 8)) (Za (Zp Yd (Zp Yd (Zp Z6 (pv 6) (pv 13)) (Zp Z6 (pv 7) (pv 14))) (pv 9)) Zb rfl) rfl)) ?gi (by rfl) (by rfl) (by rfl);case gi=>refine' @Zgy _ _ _ _ _ _ _ (pv 11) ?gj Zbn (by intro _ ;rfl);case gj=>refine' @Zv _ _ _ _ _ _ _ Z9 (pv 10) (pv 12) (fun _ _=>rfl));case gf=>refine' @Ze _ _ _ _ _ ?gk ?gl;(case gk=>refine' @Zt _ _ (15) _ _ _ _ nd rfl (Or.inl rfl) ?gm (by rfl) (by first|exact Or.inl rfl|exact Or.inr rfl|assumption);case gm=>refine' @Zi _ _ _ _ _ _ _ _ _ Xl rfl T.b_sorted Yw ?gn (by decide) (by decide) (by rfl) (by rfl);case gn=>refine' @Za _ _ _ _ _ ?go Zb rfl;case go=>refine' @Xh _ _ _ _ _ _ _ (["_law_piece","_law_order_here"]) ([none,some 10]) _ _ _ _ _ rfl (Z4 (XN:=["_law_state_here","_law_most","_law_points","_law_pieces","_law_a","_law_b","_law_c","_law_d","_law_s","_law_t","_law_order_here","_law_corners","_law_at","_law_x","_law_y","_law_rows","_law_thicks"]) (Scope.names (Zf Y4)) rfl rfl rfl (fun _ h=>Zx h) (by decide +kernel) rfl) (Y2 (pv 3)) (fun _ _ _ _=>pgB 0) (fun _ _ _ _=>Zs) (fun _ _ _ _=>Zu (X5 K rfl) rfl T.b_tuple Z5 (Za (Zi (Zac K rfl) rfl T.b_sorted Yw (Za (Xh (N:=["_law_at","_law_order_here"]) (fr:=[none,some 1]) rfl (Z4 (XN:=["_law_piece","_law_order_here"]) (relN _ (Scope.names (Zf Y4))) rfl rfl rfl (fun _ h=>Zd2 (by decide +kernel) h) (by decide +kernel) rfl) (Zdf K rfl (pv 0)) (fun _ _ _ _=>pgB 0) (fun _ _ _ _=>Zs) (fun _ _ _ _=>Zv (Zcw K rfl) (pv 1) (pv 0) (fun _ _=>rfl))) Zb rfl)) Zb rfl)) (by intro _ ;rfl));case gl=>refine' @Ze _ _ _ _ _ ?gp ?gq;(case gp=>refine' @Zt _ _ (16) _ _ _ _ nd rfl (Or.inl rfl) ?gr (by rfl) (by first|exact Or.inl rfl|exact Or.inr rfl|assumption);case gr=>refine' @Zu _ _ _ _ _ _ _ _ _ Zw rfl T.b_tuple Z5 ?gs (by decide) (by decide) (by rfl) (by rfl);case gs=>refine' @Za _ _ _ _ _ ?gt Zb rfl;case gt=>refine' @Xh _ _ _ _ _ _ _ (["_law_row","_law_state_here"]) ([none,some 0]) _ _ _ _ _ rfl (Z4 (XN:=["_law_state_here","_law_most","_law_points","_law_pieces","_law_a","_law_b","_law_c","_law_d","_law_s","_law_t","_law_order_here","_law_corners","_law_at","_law_x","_law_y","_law_rows","_law_thicks"]) (Scope.names (Zf Y4)) rfl rfl rfl (fun _ h=>Zx h) (by decide +kernel) rfl) (Yz (pv 15)) (fun _ _ _ _=>pgB 0) (fun _ _ _ _=>Zs) (fun _ _ _ _=>Zp Yd Zd (Zk Ca_ hr (by decide) rfl (Za (pv 1) (Za (Zv (Zcw K rfl) (Yy (Za Zd (Za Zd Zb rfl) rfl)) (Zk Ca_ hr (by decide) rfl (Za (pv 1) (Za Zd Zb rfl) rfl)) (fun _ _=>rfl)) Zb rfl) rfl))) (by intro _ ;rfl));case gq=>refine' @Zh _ _ _ ?gu;case gu=>refine' @Zn _ _ _ _ ?gv;case gv=>refine' @Zo _ _ _ _ _ ?gw;case gw=>refine' @Za _ _ _ _ _ (Zu Zw rfl T.b_tuple Z5 (Za (pv 11) Zb rfl)) (Za (Zu Zw rfl T.b_tuple Z5 (Za (pv 15) Zb rfl)) (Za (pv 16) (Za (Zo (Za (Zk Ca_ hr (by decide) rfl (Za (pv 0) (Za Zd Zb rfl) rfl)) (Za (Zp Yd Zd (Zk Ca_ hr (by decide) rfl (Za (pv 0) (Za Zd Zb rfl) rfl))) Zb rfl) rfl)) Zb rfl) rfl) rfl) rfl
 refine ⟨rfl,fun H0 R us0 s0 nR eR al0=>?_⟩;have nRl:R≠l:=hl.neN nR;refine ⟨_,rfl,_,rfl,l,8,rfl,hl.same s0,by decide,Ye (by decide),fun r0 H1 r00 r01 k1 l1=>?_⟩;have al1:Al (IsSh H1) us0 Zdt:=al0.imp fun v x r=>r.tk (tkS k1 (hl.same s0));obtain ⟨u,sh,eu,hsh,msh⟩:=Zov al1 r00 r01;have B:=Zk0 msh;obtain ⟨pts,pcs⟩:=sh;obtain ⟨a0,c,p,rfl,ha0,hc0,hp0⟩:=hsh;obtain ⟨c,cvs,rfl,hc7,cal⟩:=hc0;obtain ⟨p,pvs,rfl,hp7,pal⟩:=hp0;replace cal:Al (IsP H1) cvs pts:=cal;replace pal:Al (IsI H1) pvs pcs:=pal;replace B:Base pts pcs:=B;have n6:pts.length≤6:=B.n6;have clen:=cal.1;refine ⟨R,us0,_,_,rfl,rfl,SqL.of (k1 _ _ nRl eR),eu,?_⟩;refine ⟨a0,_,rfl,SqT.of ha0,rfl,_,_,rfl,_,_,rfl,rfl,?_⟩;refine ⟨_,rfl,l,3,rfl,l1,by decide,Ye (by decide),fun r1 H2 r10 r11 k2 l2=>⟨_,_,rfl,rfl,?_⟩⟩;refine ⟨_,rfl,l,5,rfl,l2,by decide,Ye (by decide),fun r2 H3 r20 r21 k3 l3=>⟨_,_,rfl,rfl,?_⟩⟩;refine ⟨_,rfl,l,5,rfl,l3,by decide,Ye (by decide),fun r3 H4 r30 r31 k4 l4=>⟨_,_,rfl,rfl,?_⟩⟩;refine ⟨_,_,_,rfl,?_⟩;refine ⟨_,rfl,l,7,rfl,l4,by decide,Ye (by decide),fun r4 H5 r40 r41 k5 l5=>⟨_,_,rfl,rfl,?_⟩⟩;refine ⟨_,rfl,l,41,rfl,l5,by decide,Ye (by decide),fun r5 H6 r50 r51 k6 l6=>⟨_,_,rfl,rfl,?_⟩⟩;refine ⟨_,rfl,l,9,rfl,l6,by decide,Ye (by decide),fun r6 H7 r60 r61 k7 l7=>⟨_,_,rfl,rfl,?_⟩⟩;refine ⟨_,_,_,rfl,?_⟩;have k17:=k2.trans (k3.trans (k4.trans (k5.trans (k6.trans k7))));have t7:Tk H1 H7:=tkS k17 l1;have kk:Keep l H H7:=s0.keep.trans (k1.trans k17);dsimp only;refine Zt2 (R:=fun σ Hn=>∃ A:Aff,σ=[some (.ref l),some (.int 8),some (.ref c),some (.ref p),some (.int A.a),some (.int A.b),some (.int A.c),some (.int A.d),some (.int A.s),some (.int A.t),none,none,none,none,none,none,none]∧A.det≠0∧Small A∧Same H7 Hn) ?_ ?_ ?_ ?_ ?_
 · refine ⟨_,rfl,_,rfl,_,_,rfl,rfl,mul4 (by omega) (by omega),_,rfl,_,rfl,_,_,rfl,rfl,mul4 (by omega) (by omega),rfl,_,rfl,?_⟩;refine ite2 (fun hd=>?_) (fun hd=>?_)
   · refine ⟨_,rfl,z4_,fun Z nZ=>?_⟩;exact ⟨Z,_,rfl,SqT.of Zc,rfl,_,_,rfl,_,_,rfl,_,_,rfl,_,_,rfl,rfl,Aff.mk 1 (r2-2) 0 1 (r5-20) (r6-4),rfl,by show (1:Int)*1-(r2-2)*0≠0;omega,⟨by show (1:Int).natAbs≤3;decide,by show (r2-2).natAbs≤3;omega,by show (0:Int).natAbs≤3;decide,by show (1:Int).natAbs≤3;decide,by show (r5-20).natAbs≤20;omega,by show (r6-4).natAbs≤20;omega⟩,Same.new nZ⟩
   · refine ⟨Aff.mk (1+r1) (r2-2) (r3-2) (r4-3) (r5-20) (r6-4),rfl,fun z=>?_,⟨by show (1+r1).natAbs≤3;omega,by show (r2-2).natAbs≤3;omega,by show (r3-2).natAbs≤3;omega,by show (r4-3).natAbs≤3;omega,by show (r5-20).natAbs≤20;omega,by show (r6-4).natAbs≤20;omega⟩,Same.refl _⟩;refine hd (n24_ (congrArg V.int ?_));have z':(1+r1)*(r4-3)-(r2-2)*(r3-2)=0:=z;omega
 · rintro Q1 Q2 hq ⟨v1,e1,v2,e2,i1,j1,f1,f2,m1,v3,e3,v4,e4,i2,j2,f3,f4,m2,f5,k,f6,q6⟩
   exact ⟨v1,e1,v2,e2,i1,j1,f1,f2,m1,v3,e3,v4,e4,i2,j2,f3,f4,m2,f5,k,f6,hq _ _ q6⟩
 · rintro key H1' ⟨v1,e1,z1,f1⟩
   refine ⟨v1,e1,z1,fun Z nZ=>?_⟩;obtain ⟨b1,xs1,g1,g2,g3,x1,y1,g4,x2,y2,g5,x3,y3,g6,x4,y4,g7,g8,q8⟩:=f1 Z nZ;exact ⟨b1,xs1,g1,g2,g3,x1,y1,g4,x2,y2,g5,x3,y3,g6,x4,y4,g7,g8,key _ _ q8⟩
 · exact fun key H1' r=>key _ _ r
 rintro σ H7n ⟨A,rfl,hdet,W,s7n⟩
 replace t7:=t7.trans s7n.tk;replace kk:=kk.trans s7n.keep;replace l7:=l7.same s7n;clear k1 k2 k3 k4 k5 k6 k7 k17;have Wa:=W.a;have Wb:=W.b;have Wc:=W.c;have Wd:=W.d;obtain ⟨Aa,Ab,Ac,Ad,As,At⟩:=A;replace Wa:Aa.natAbs≤1000:=n33_ Wa (by decide);replace Wb:Ab.natAbs≤1000:=n33_ Wb (by decide);replace Wc:Ac.natAbs≤1000:=n33_ Wc (by decide);replace Wd:Ad.natAbs≤1000:=n33_ Wd (by decide);refine ⟨_,rfl,_,rfl,c,cvs,rfl,.inr (SqT.of (t7 _ _ hc7)),l,cvs.length,rfl,l7,by omega,fun H8 O o k8 l8 nO eO pm=>?_⟩;rw [cal.1] at pm;have CO:=Zqa pm;have t8:Tk H1 H8:=t7.trans (tkS k8 l7);refine ⟨z2_,fun z nz=>?_⟩;generalize gG:upd H8 z (.tup [.int 0,.int 0])=H9;obtain ⟨s9,e9⟩:=gen_upd gG nz;refine ⟨z1_,fun y ny=>?_⟩;generalize gG:upd H9 y (.lst [.ref z])=H10;obtain ⟨s10,e10⟩:=gen_upd gG ny;have t10:Tk H1 H10:=t8.trans (s9.trans s10).tk;refine ⟨_,rfl,c,cvs,rfl,.inr (SqT.of (t10 _ _ hc7)),y,cvs.length,_,rfl,rfl,e10,by omega,by omega,by simp;rw [sizeLine_eq];omega,fun C nC=>?_⟩;rw [n57_,Zfw];have s11:Same H10 (upd H10 C (.lst (List.replicate cvs.length (.ref z)))):=Same.new nC;have e11:upd H10 C (.lst (List.replicate cvs.length (.ref z))) C=some (.lst (List.replicate cvs.length (.ref z))):=Zc;have nCl:C≠l:=(l8.same (s9.trans s10)).neN nC;generalize upd H10 C (.lst (List.replicate cvs.length (.ref z)))=H11 at s11 e11 ⊢;have s811:=s9.trans (s10.trans s11);have t11:Tk H1 H11:=t8.trans s811.tk;have l11:=l8.same s811;have k11:Keep l H H11:=(kk.trans k8).trans s811.keep;have eO11:=s811 _ _ eO;have nOC:O≠C:=Zm (s9.trans s10 _ _ eO) nC
 have nC0:H C=none:=by
  cases e:H C with
  | none=>rfl
  | some ob =>
    have:=(kk.trans k8).trans (s9.trans s10).keep _ _ nCl e
    rw [this] at nC;cases nC
 refine ⟨_,rfl,c,rfl,⟨_,SqT.of (t11 _ _ hc7)⟩,?_⟩;refine Xy (n:=pts.length) (fun i σ H2=>Keep C H11 H2∧(∃ x1 x2 x3,σ=[some (.ref l),some (.int 8),some (.ref c),some (.ref p),some (.int Aa),some (.int Ab),some (.int Ac),some (.int Ad),some (.int As),some (.int At),some (.ref O),some (.ref C),x1,x2,x3,none,none])∧∃ us cs,H2 C=some (.lst us)∧Al (IsP H2) us cs∧cs.length=pts.length∧∀ j:Nat,j<i→cs[(o.getD j 0).toNat]? = some ((Aff.mk Aa Ab Ac Ad As At).at (pts.getD j (0,0)))) ⟨Keep.refl _ _,⟨_,_,_,rfl⟩,_,List.replicate cvs.length (0,0),e11,Zmr ⟨z,rfl,s11 _ _ (s10 _ _ e9)⟩ _,by simp [cal.1],fun j hj=>absurd hj (Nat.not_lt_zero _)⟩ (fun i σ H2 hi p=>?_) (fun σ H2 p=>?_) (fun i x σ H2 H3 hi y p=>?_) (fun σ H2 p=>?_)
 · have t2:Tk H11 H2:=Tk.of_keep p.1 e11;exact ⟨cvs,cvs[i]'(by rw [cal.1];exact hi),SqT.of (t2 _ _ (t11 _ _ hc7)),n1_ _⟩
 · have t2:Tk H11 H2:=Tk.of_keep p.1 e11;exact ⟨cvs,SqT.of (t2 _ _ (t11 _ _ hc7)),cal.1⟩
 · obtain ⟨k2,⟨x1,x2,x3,rfl⟩,us,cs,eC,alc,lc,hc⟩:=p;obtain ⟨g,x,rfl,ng,rfl,y1⟩:=y;have t2:Tk H11 H2:=Tk.of_keep k2 e11;have ex:=y1 cvs (SqT.of (t2 _ _ (t11 _ _ hc7)));obtain ⟨pt,ept,b,rfl,hb⟩:=cal.get ex;have hpt:=Zi9 (B.bd pt (n10_ ept));generalize gG:upd H2 g (.tup [.int i,.ref b])=H3;obtain ⟨sg,eg⟩:=gen_upd gG ng;have hb3:=sg _ _ (t2 _ _ (t11 _ _ hb));refine ⟨g,_,rfl,SqT.of eg,rfl,_,_,rfl,_,_,rfl,⟨b,_,rfl,SqT.of hb3,rfl,_,_,rfl,_,_,rfl,rfl,rfl,?_⟩⟩;refine ⟨_,rfl,_,rfl,_,_,rfl,rfl,mul4 Wa hpt.1,_,rfl,_,rfl,_,_,rfl,rfl,mul4 Wb hpt.2,_,_,rfl,rfl,_,rfl,_,_,rfl,rfl,?_⟩;refine ⟨_,rfl,_,rfl,_,_,rfl,rfl,mul4 Wc hpt.1,_,rfl,_,rfl,_,_,rfl,rfl,mul4 Wd hpt.2,_,_,rfl,rfl,_,rfl,_,_,rfl,rfl,?_⟩;refine ⟨z2_,fun w nw=>?_⟩;generalize hH4:upd H3 w _=H4;have sw:Same H3 H4:=by (rw [← hH4];exact Same.new nw)
   have ew0:=(congrFun hH4 w).symm;rw [Zc] at ew0;have ew:H4 w=some (.tup [.int (Aa*pt.1+Ab*pt.2+As),.int (Ac*pt.1+Ad*pt.2+At)]):=ew0;clear ew0 hH4;have s24:=sg.trans sw;have eO4:H4 O=some (.lst (o.map V.int)):=s24 _ _ (k2 _ _ nOC eO11);have bo:=CO.bd i hi;have eC4:=s24 _ _ eC;refine ⟨_,rfl,_,rfl,_,rfl,O,_,(i:Int),_,rfl,rfl,SqL.of eO4,o_at CO (Int.natCast_nonneg i) (Int.ofNat_lt.mpr hi),?_⟩;have ulen:us.length=pts.length:=by rw [alc.1,lc]
   refine ⟨C,us,_,(o.getD i 0).toNat,rfl,rfl,eC4,Zli bo.1 (by rw [ulen];exact bo.2),?_⟩;have tC:Tk H4 (upd H4 C (.lst (us.set (o.getD i 0).toNat (.ref w)))):=Tk.upd_lst eC4;refine ⟨fun b' o' nb e=>?_,⟨_,_,_,rfl⟩,_,cs.set (o.getD i 0).toNat ((Aff.mk Aa Ab Ac Ad As At).at pt),Zc,?_,by simp [lc],fun j hj=>?_⟩
   · rw [Zj nb];exact s24 _ _ (k2 _ _ nb e)
   · exact Zsu (alc.imp fun v x r=>r.tk (s24.tk.trans tC)) _ ⟨w,rfl,tC _ _ ew⟩
   · rw [List.getElem?_set]
     by_cases hji:j=i
     · subst hji;rw [if_pos rfl,if_pos (by rw [lc];omega),n4_ (l:=pts),ept];rfl
     · rw [if_neg (fun z=>hji (CO.inj j i (by omega) hi (by have b2:=CO.bd j (by omega);omega)))];exact hc j (by omega)
 · obtain ⟨k2,⟨x1,x2,x3,rfl⟩,us,cs,eC,alc,lc,hc⟩:=p;have t2:Tk H11 H2:=Tk.of_keep k2 e11;have t12:=t11.trans t2;have eO2:=k2 _ _ nOC eO11
   have l2:StAt H2 l:=by
    obtain ⟨a',b',c',e,r⟩:=l11;exact ⟨a',b',c',k2 _ _ nCl.symm e,r⟩
   have k02:Keep l H H2:=fun b' o' nb e=>k2 _ _ (Zm e nC0) (k11 _ _ nb e);have hp2:=t12 _ _ hp7;refine ⟨_,rfl,p,rfl,⟨_,SqT.of hp2⟩,fun D nD=>?_⟩;refine lc_T (k:=.t) (vs:=pvs) (fun H v pc=>∃ r,IsI H v r∧(r.Perm (pc.map (oAt o))∧r.Pairwise (·≤·))) (fun H1 H2 v x t r=>let ⟨r',i,j⟩:=r;⟨r',i.tk t,j⟩) pcs (by rw [pal.1]) (by rw [pal.1];have:=B.p4;omega) nD hp2 (fun i w H4 C' hw s4 c'=>?_) (fun H4 vs s4 e4 a4=>?_)
   · obtain ⟨pc,epc,b,rfl,hb⟩:=pal.get hw;have hb4:=s4 _ _ (t12 _ _ hb);obtain ⟨i1,j1,k1,rfl,bi,bj,bk,_⟩:=Znc (B.pc _ (n10_ epc));refine ⟨_,rfl,b,rfl,⟨_,SqT.of hb4⟩,fun E nE=>?_⟩;refine lc_T (k:=.t) (vs:=[i1,j1,k1].map V.int) RI hRI ([i1,j1,k1].map (oAt o)) (by simp) (by simp) nE hb4 (fun n x H6 C6 hx s6 c6=>?_) (fun H6 us6 s6 e6 a6=>?_)
     · rw [n6_] at hx;obtain ⟨y,ey,rfl⟩:=n16_.mp hx
       have by':0≤y∧y<(pts.length:Int):=by
        have:=n10_ ey
        simp only [n12_,n13_,or_false] at this
        rcases this with rfl|rfl|rfl<;>assumption
       exact ⟨_,rfl,_,rfl,O,_,y,_,rfl,rfl,SqL.of (s6 _ _ (s4 _ _ eO2)),o_at CO by'.1 by'.2,c6 _ _ _ (Same.refl _) (by rw [n6_,ey];rfl) rfl⟩
     · rw [a6.ints] at e6;refine ⟨E,_,rfl,SqL.of e6,by simp,fun L ns' nL pm' so'=>?_⟩;have s7:Same H6 (upd H6 L (.lst (ns'.map V.int))):=Same.new nL;have e7:upd H6 L (.lst (ns'.map V.int)) L=some (.lst (ns'.map V.int)):=Zc;generalize upd H6 L (.lst (ns'.map V.int))=H7' at s7 e7 ⊢;refine ⟨L,_,rfl,.inl ⟨SqL.of e7,fun T' nT=>?_⟩⟩;exact c' _ _ [i1,j1,k1] (s6.trans (s7.trans (Same.new nT))) epc ⟨ns',⟨T',rfl,Zc⟩,pm',so'⟩
   · obtain ⟨kl,klen,kal,kT⟩:=Zhw a4;have DR:∀ q:List Nat,q.Perm (List.range pcs.length)→Drawn pts pcs (Aff.mk Aa Ab Ac Ad As At) o cs kl q:=fun q hq=>⟨B,hdet,W,CO,lc,hc,klen,fun i hi=>kT i hi,hq⟩;have D0:=DR _ (List.Perm.refl _);have p4:=B.p4;refine ⟨D,vs,kl,3,rfl,SqL.of e4,kal.1,fun i v hv=>?_,D0.knd,by rw [klen];omega,fun k hk=>?_,by decide,fun L q nL qp rise=>?_⟩
     · obtain ⟨k,ek,b,rfl,hb⟩:=kal.get hv;exact ⟨b,k,rfl,ek,SqT.of hb⟩
     · obtain ⟨n,hn,rfl⟩:=n37_ hk;rw [klen] at hn;obtain ⟨_,_,_,x,y,z,_,e,_⟩:=D0.piece hn
       have:kl[n]=[x,y,z]:=by rw [← e,n4_,n1_ (by rw [klen];exact hn)];rfl
       rw [this];rfl
     · rw [klen] at qp;have D1:=DR q qp;have s5:Same H4 (upd H4 L (.lst (q.map fun i=>vs.getD i .non))):=Same.new nL;have e5:upd H4 L (.lst (q.map fun i=>vs.getD i .non)) L=some (.lst (q.map fun i=>vs.getD i .non)):=Zc;have nLl:L≠l:=(l2.same s4).neN nL;generalize upd H4 L (.lst (q.map fun i=>vs.getD i .non))=H5 at s5 e5 ⊢;have s25:=s4.trans s5;have l5:=l2.same s25;have k05:=k02.trans s25.keep;have qlen:q.length=pcs.length:=by rw [qp.length_eq,n73_]
       refine ⟨_,rfl,L,rfl,⟨_,SqL.of e5⟩,fun E nE=>?_⟩;refine Zmg (n:=pcs.length) (l:=l) (fun H v (x:Int)=>v=.int x∧1≤x∧x≤9) (fun _ _ _ _ _ r=>r) (by omega) (fun σ=>∃ u,σ=[u,some (.ref l)]) ⟨_,rfl⟩ nE l5 (fun i H6 k6 hi=>⟨_,_,SqL.of (k6 _ _ nLl e5),n1_ (by simp [qlen];exact hi)⟩) (fun H6 k6=>⟨_,SqL.of (k6 _ _ nLl e5),by simp [qlen]⟩) (fun i x σ2 H6 H7' C' hi k6 l6 y o' c'=>?_) (fun H6 ts ys k6 l6 e6 hy a6=>?_)
       · obtain ⟨u,rfl⟩:=o';obtain ⟨rfl,y2⟩:=y;refine ⟨_,rfl,z2_,fun W' nW=>?_⟩;have s8':Same H7' (upd H7' W' (.lst [.int 9,.int 2])):=Same.new nW;have e8':upd H7' W' (.lst [.int 9,.int 2]) W'=some (.lst [.int 9,.int 2]):=Zc;have nWl:W'≠l:=l6.neN nW;generalize upd H7' W' (.lst [.int 9,.int 2])=H8' at s8' e8' ⊢;refine ⟨_,rfl,l,2,rfl,l6.same s8',by decide,Ye (by decide),fun r9 H9' r90 r91 k9 l9=>?_⟩;have hr9:r9=0∨r9=1:=by omega
         have fin:∀ m:Int,0<m→m≤9→Zdo [.ref l,.int m] H9' (fun v H=>∃ i j,V.int 1=.int i∧v=.int j∧C' [some x,some (.ref l)] (.int (i+j)) H) E0:=fun m m0 m9=>⟨l,m,rfl,l9,m0,Ye (by show _<18446744073709551616;omega),fun r10 H10' ra rb k10 l10=>⟨_,_,rfl,rfl,c' _ _ _ _ ⟨_,rfl⟩ (s8'.keep.trans (k9.trans k10)) l10 ⟨rfl,by omega,by omega⟩⟩⟩
         rcases hr9 with rfl|rfl
         · exact ⟨W',_,_,_,rfl,rfl,SqL.of (k9 _ _ nWl e8'),rfl,fin 9 (by decide) (by decide)⟩
         · exact ⟨W',_,_,_,rfl,rfl,SqL.of (k9 _ _ nWl e8'),rfl,fin 2 (by decide) (by decide)⟩
       · have ets:ts=ys.map V.int:=by
          refine (Al.ints (ns:=ys) ?_);exact a6.imp fun v x r=>r.1
         refine ⟨E,ts,rfl,.inl ⟨SqL.of e6,fun T' nT=>?_⟩⟩;have s7:Same H6 (upd H6 T' (.tup ts)):=Same.new nT;have e7:upd H6 T' (.tup ts) T'=some (.tup (ys.map V.int)):=by rw [Zc,ets]
         generalize upd H6 T' (.tup ts)=H7' at s7 e7 ⊢;have t57:Tk H5 H7':=(tkS k6 l5).trans s7.tk;have t27:Tk H2 H7':=s25.tk.trans t57;have k07:=k05.trans (k6.trans s7.keep);have l7':=l6.same s7;have nDl:C≠l:=nCl;have eC7:H7' C=some (.lst us):=s7 _ _ (k6 _ _ nCl (s25 _ _ eC));have eL7:H7' L=some (.lst (q.map fun i=>vs.getD i .non)):=s7 _ _ (k6 _ _ nLl e5);refine ⟨_,rfl,C,us,rfl,.inl ⟨SqL.of eC7,fun T1 n1=>?_⟩⟩;generalize gG:upd H7' T1 (.tup us)=G1;obtain ⟨u1,f1⟩:=gen_upd gG n1;refine ⟨_,rfl,L,_,rfl,.inl ⟨SqL.of (u1 _ _ eL7),fun T2 n2=>?_⟩⟩;generalize gG:upd G1 T2 (.tup (q.map fun i=>vs.getD i .non))=G2;obtain ⟨u2,f2⟩:=gen_upd gG n2;have u02:=u1.trans u2;refine ⟨_,rfl,_,rfl,l,10,rfl,l7'.same u02,by decide,Ye (by decide),fun rl G3 rl0 rl1 k3' l3'=>?_⟩;refine ⟨_,rfl,l,9,rfl,l3',by decide,Ye (by decide),fun rm G4 rm0 rm1 k4' l4'=>⟨_,_,rfl,rfl,z2_,fun T4 n4=>?_⟩⟩;generalize gG:upd G4 T4 (.tup [.int rl,.int (1+rm)])=G5;obtain ⟨u5,f5⟩:=gen_upd gG n4;refine ⟨z4_,fun T5 n5=>?_⟩;have u6:Same G5 (upd G5 T5 (.tup [.ref T1,.ref T2,.ref T',.ref T4])):=Same.new n5;have w24:Tk G2 G4:=(tkS k3' (l7'.same u02)).trans (tkS k4' l3');have w26:Tk G2 (upd G5 T5 (.tup [.ref T1,.ref T2,.ref T',.ref T4])):=w24.trans (u5.trans u6).tk;have w76:=u02.tk.trans w26;refine q' _ _ ⟨cs,q.map fun i=>kl.getD i [],ys,rl,1+rm⟩ (k07.trans (u02.keep.trans (k3'.trans (k4'.trans (u5.trans u6).keep)))) (l4'.same (u5.trans u6)) ⟨T5,_,_,_,_,rfl,Zc,⟨T1,us,rfl,w26 _ _ (u2 _ _ f1),alc.imp fun v x r=>r.tk (t27.trans w76)⟩,⟨T2,_,rfl,w26 _ _ f2,?_⟩,⟨T',rfl,w76 _ _ e7⟩,⟨T4,rfl,u6 _ _ f5⟩⟩ (D1.ok rise (by rw [hy]) (fun t ht=>?_) ⟨rl0,by omega⟩ ⟨by omega,by omega⟩) (show (q.map fun i=>kl.getD i []).length≤4 by rw [n5_,qlen];exact p4)
         · refine (Zs3 kal (q:=q) fun i hi=>?_).imp fun v x r=>r.tk (s5.tk.trans (t57.trans w76));rw [klen];exact n34_.mp (qp.mem_iff.mp hi)
         · obtain ⟨i,hi,e⟩:=n37_ ht;obtain ⟨v,_,r⟩:=a6.got (show ys[i]? = some t by rw [n1_ hi,e]);exact r.2
abbrev Zb5:Stmt:=top 47
theorem Zh7 (F:Fun K "_law_odd" "_law_odd" Zb5 f fd) (Ca_:a30_ P w K mg base):FnOk P w K mg base CX0 2 f fd ["_law_state_here"] Zpt:=by
 have sc:FnScope ["_law_state_here","_law_some"] ["_law_state_here"] (Zf Zb5):=fsc (by decide +kernel);refine F.ok sc fun cdv A outer s H vs Q E hr h=>?_;obtain ⟨l,N,rfl,hl,hN,hD,q⟩:=h;have nd:=sc.nd;refine' ⟨_,?term,?read⟩
 case term=>refine' @Ze _ _ _ _ _ ?g1 ?g2;(case g1=>refine' @Zt _ _ (1) _ _ _ _ nd rfl (Or.inl rfl) ?g3 (by rfl) (by first|exact Or.inl rfl|exact Or.inr rfl|assumption);case g3=>refine' @Zdy _ _ _ _ ?g4;case g4=>refine' @Za _ _ _ _ _ Zjb ?g5 rfl;case g5=>refine' @Za _ _ _ _ _ X0 ?g6 rfl;case g6=>refine' @Za _ _ _ _ _ X0 ?g7 rfl;case g7=>refine' @Za _ _ _ _ _ Zd ?g8 rfl;case g8=>refine' @Za _ _ _ _ _ Zd ?g9 rfl;case g9=>refine' @Za _ _ _ _ _ (Zco Zap Zd) ?ga rfl;case ga=>refine' @Za _ _ _ _ _ (Zp Zpw Zd Zd) ?gb rfl;case gb=>refine' @Za _ _ _ _ _ Zpy ?gc rfl;case gc=>refine' @Za _ _ _ _ _ Zpy ?gd rfl;case gd=>refine' @Za _ _ _ _ _ (Zo Zb) ?ge rfl;case ge=>refine' @Za _ _ _ _ _ (Zdy Zb) ?gf rfl;case gf=>refine' @Za _ _ _ _ _ Zrw (Za (Zo (Za Zd (Za Zd Zb rfl) rfl)) (Za (Zo (Za Zd (Za Zd Zb rfl) rfl)) (Za (Zdy (Za Zd (Za Zd Zb rfl) rfl)) Zb rfl) rfl) rfl) rfl);case g2=>refine' @Zh _ _ _ ?gg;case gg=>refine' @Zn _ _ _ _ ?gh;case gh=>refine' @Zv _ _ _ _ _ _ _ Z9 ?gi (Zk Ca_ hr (by decide) rfl (Za (pv 0) (Za Zd Zb rfl) rfl)) (fun _ _=>rfl);case gi=>refine' @Zp _ _ _ _ _ _ _ _ Zsq (pv 1) ?gj;case gj=>refine' @Zdy _ _ _ _ ?gk;case gk=>refine' @Za _ _ _ _ _ (Zo (Za (Zo (Za Zd (Za Zd Zb rfl) rfl)) Zb rfl)) ?gl rfl;case gl=>refine' @Za _ _ _ _ _ (Zo (Za Zd (Za Zd Zb rfl) rfl)) (Za (Zo (Za Zd (Za Zd Zb rfl) rfl)) (Za (Zo (Za Zd (Za Zd Zb rfl) rfl)) (Za (Zo (Za X0 (Za Zd Zb rfl) rfl)) Zb rfl) rfl) rfl) rfl
 refine ⟨_,rfl,_,_,rfl,rfl,⟨by decide,by decide,by decide⟩,z0_,?_⟩;intro p1 n1;generalize hH1:upd H p1 _=H1;have S1:Same H H1:=by (rw [← hH1];exact Same.new n1)
 have A1:=(congrFun hH1 p1).symm;rw [Zc] at A1;clear hH1;have st1:=(hl).same S1;refine ⟨z0_,?_⟩;intro p2 n2 m2;generalize hH2:upd H1 p2 _=H2;have S2:Same H1 H2:=by (rw [← hH2];exact Same.new n2)
 have A2:=(congrFun hH2 p2).symm;rw [Zc] at A2;clear hH2;have st2:=(st1).same S2;intro p3 n3;generalize hH3:upd H2 p3 _=H3;have S3:Same H2 H3:=by (rw [← hH3];exact Same.new n3)
 have A3:=(congrFun hH3 p3).symm;rw [Zc] at A3;clear hH3;have st3:=(st2).same S3;refine ⟨z2_,?_⟩;intro p4 n4;generalize hH4:upd H3 p4 _=H4;have S4:Same H3 H4:=by (rw [← hH4];exact Same.new n4)
 have A4:=(congrFun hH4 p4).symm;rw [Zc] at A4;clear hH4;have st4:=(st3).same S4;refine ⟨z2_,?_⟩;intro p5 n5;generalize hH5:upd H4 p5 _=H5;have S5:Same H4 H5:=by (rw [← hH5];exact Same.new n5)
 have A5:=(congrFun hH5 p5).symm;rw [Zc] at A5;clear hH5;have st5:=(st4).same S5;refine ⟨z2_,?_⟩;intro p6 n6 m6;generalize hH6:upd H5 p6 _=H6;have S6:Same H5 H6:=by (rw [← hH6];exact Same.new n6)
 have A6:=(congrFun hH6 p6).symm;rw [Zc] at A6;clear hH6;have st6:=(st5).same S6;refine ⟨by show 15≤sizeLine;decide,?_⟩;intro p7 n7 m7;generalize hH7:upd H6 p7 _=H7;have S7:Same H6 H7:=by (rw [← hH7];exact Same.new n7)
 have A7:=(congrFun hH7 p7).symm;rw [Zc] at A7;clear hH7;have st7:=(st6).same S7;refine ⟨_,rfl,z2_,?_⟩;intro p8 n8;generalize hH8:upd H7 p8 _=H8;have S8:Same H7 H8:=by (rw [← hH8];exact Same.new n8)
 have A8:=(congrFun hH8 p8).symm;rw [Zc] at A8;clear hH8;have st8:=(st7).same S8;refine ⟨z1_,?_⟩;intro p9 n9;generalize hH9:upd H8 p9 _=H9;have S9:Same H8 H9:=by (rw [← hH9];exact Same.new n9)
 have A9:=(congrFun hH9 p9).symm;rw [Zc] at A9;clear hH9;have st9:=(st8).same S9;refine ⟨z2_,?_⟩;intro p10 n10;generalize hH10:upd H9 p10 _=H10;have S10:Same H9 H10:=by (rw [← hH10];exact Same.new n10)
 have A10:=(congrFun hH10 p10).symm;rw [Zc] at A10;clear hH10;have st10:=(st9).same S10;refine ⟨z2_,?_⟩;intro p11 n11;generalize hH11:upd H10 p11 _=H11;have S11:Same H10 H11:=by (rw [← hH11];exact Same.new n11)
 have A11:=(congrFun hH11 p11).symm;rw [Zc] at A11;clear hH11;have st11:=(st10).same S11;refine ⟨z2_,?_⟩;intro p12 n12;generalize hH12:upd H11 p12 _=H12;have S12:Same H11 H12:=by (rw [← hH12];exact Same.new n12)
 have A12:=(congrFun hH12 p12).symm;rw [Zc] at A12;clear hH12;have st12:=(st11).same S12;refine ⟨z2_,?_⟩;intro p13 n13;generalize hH13:upd H12 p13 _=H13;have S13:Same H12 H13:=by (rw [← hH13];exact Same.new n13)
 have A13:=(congrFun hH13 p13).symm;rw [Zc] at A13;clear hH13;have st13:=(st12).same S13;refine ⟨z5_,?_⟩;intro p14 n14 m14;generalize hH14:upd H13 p14 _=H14;have S14:Same H13 H14:=by (rw [← hH14];exact Same.new n14)
 have A14:=(congrFun hH14 p14).symm;rw [Zc] at A14;clear hH14;have st14:=(st13).same S14;refine ⟨p7,p14,_,_,rfl,rfl,(S14 _ _ (S13 _ _ (S12 _ _ (S11 _ _ (S10 _ _ (S9 _ _ (S8 _ _ A7))))))),A14,by show 20≤sizeLine;decide,?_⟩;intro p15 n15;generalize hH15:upd H14 p15 _=H15;have S15:Same H14 H15:=by (rw [← hH15];exact Same.new n15)
 have A15:=(congrFun hH15 p15).symm;rw [Zc] at A15;clear hH15;have st15:=(st14).same S15;have T1:Tgs N H15 100 2 20 [.non,.bl true,.bl false,.int 0,.int 1,.int (-1),.int (10^Int.toNat 29),.str "",.str "a",.ref p1,.ref p2,.ref p3,.ref p4,.ref p5,.ref p6]:=(Tgs.cons (⟨_,.non,n18_ rfl,by decide +kernel⟩) (Tgs.cons (⟨_,(.bl true),n18_ rfl,by decide +kernel⟩) (Tgs.cons (⟨_,(.bl false),n18_ rfl,by decide +kernel⟩) (Tgs.cons (⟨_,(dint 0 (by decide) (by decide)),n18_ rfl,by decide +kernel⟩) (Tgs.cons (⟨_,(dint 1 (by decide) (by decide)),n18_ rfl,by decide +kernel⟩) (Tgs.cons (⟨_,(dint (-1) (by decide) (by decide)),n18_ rfl,by decide +kernel⟩) (Tgs.cons (⟨_,(dint (10^Int.toNat 29) (by decide) (by decide)),n18_ rfl,by decide +kernel⟩) (Tgs.cons (⟨_,(.str ""),n18_ rfl,by decide +kernel⟩) (Tgs.cons (⟨_,(.str "a"),n18_ rfl,by decide +kernel⟩) (Tgs.cons (⟨_,.tup (S15 _ _ (S14 _ _ (S13 _ _ (S12 _ _ (S11 _ _ (S10 _ _ (S9 _ _ (S8 _ _ (S7 _ _ (S6 _ _ (S5 _ _ (S4 _ _ (S3 _ _ (S2 _ _ A1)))))))))))))) .nil,n18_ rfl,by decide +kernel⟩) (Tgs.cons (⟨_,.lst (S15 _ _ (S14 _ _ (S13 _ _ (S12 _ _ (S11 _ _ (S10 _ _ (S9 _ _ (S8 _ _ (S7 _ _ (S6 _ _ (S5 _ _ (S4 _ _ (S3 _ _ A2))))))))))))) ((hD.same S1).new n2) m2 .nil,n18_ rfl,by decide +kernel⟩) (Tgs.cons (⟨_,.dic (S15 _ _ (S14 _ _ (S13 _ _ (S12 _ _ (S11 _ _ (S10 _ _ (S9 _ _ (S8 _ _ (S7 _ _ (S6 _ _ (S5 _ _ (S4 _ _ A3)))))))))))),n18_ rfl,by decide +kernel⟩) (Tgs.cons (⟨_,.tup (S15 _ _ (S14 _ _ (S13 _ _ (S12 _ _ (S11 _ _ (S10 _ _ (S9 _ _ (S8 _ _ (S7 _ _ (S6 _ _ (S5 _ _ A4))))))))))) (.cons (dint 0 (by decide) (by decide)) (.cons (dint 1 (by decide) (by decide)) .nil)),n18_ rfl,by decide +kernel⟩) (Tgs.cons (⟨_,.tup (S15 _ _ (S14 _ _ (S13 _ _ (S12 _ _ (S11 _ _ (S10 _ _ (S9 _ _ (S8 _ _ (S7 _ _ (S6 _ _ A5)))))))))) (.cons (dint 1 (by decide) (by decide)) (.cons (dint 1 (by decide) (by decide)) .nil)),n18_ rfl,by decide +kernel⟩) (Tgs.cons (⟨_,.lst (S15 _ _ (S14 _ _ (S13 _ _ (S12 _ _ (S11 _ _ (S10 _ _ (S9 _ _ (S8 _ _ (S7 _ _ A6))))))))) ((hD.same (S1.trans (S2.trans (S3.trans (S4.trans S5))))).new n6) m6 (.cons (dint 0 (by decide) (by decide)) (.cons (dint 1 (by decide) (by decide)) .nil)),n18_ rfl,by decide +kernel⟩) Tgs.nil)))))))))))))));have T2:Tgs N H15 100 2 20 [.ref p9,.ref p10,.ref p11,.ref p12,.ref p13]:=(Tgs.cons (⟨_,.tup (S15 _ _ (S14 _ _ (S13 _ _ (S12 _ _ (S11 _ _ (S10 _ _ A9)))))) (.cons (.tup (S15 _ _ (S14 _ _ (S13 _ _ (S12 _ _ (S11 _ _ (S10 _ _ (S9 _ _ A8))))))) (.cons (dint 0 (by decide) (by decide)) (.cons (dint 1 (by decide) (by decide)) .nil))) .nil),n18_ rfl,by decide +kernel⟩) (Tgs.cons (⟨_,.tup (S15 _ _ (S14 _ _ (S13 _ _ (S12 _ _ (S11 _ _ A10))))) (.cons (dint 2 (by decide) (by decide)) (.cons (dint 4 (by decide) (by decide)) .nil)),n18_ rfl,by decide +kernel⟩) (Tgs.cons (⟨_,.tup (S15 _ _ (S14 _ _ (S13 _ _ (S12 _ _ A11)))) (.cons (dint 1 (by decide) (by decide)) (.cons (dint 0 (by decide) (by decide)) .nil)),n18_ rfl,by decide +kernel⟩) (Tgs.cons (⟨_,.tup (S15 _ _ (S14 _ _ (S13 _ _ A12))) (.cons (dint 0 (by decide) (by decide)) (.cons (dint 2 (by decide) (by decide)) .nil)),n18_ rfl,by decide +kernel⟩) (Tgs.cons (⟨_,.tup (S15 _ _ (S14 _ _ A13)) (.cons (.bl true) (.cons (dint 1 (by decide) (by decide)) .nil)),n18_ rfl,by decide +kernel⟩) Tgs.nil)))))
 refine ⟨_,rfl,l,20,rfl,st15,by decide,Ye (by decide),fun r Hz r0 r1 kz lz=>?_⟩;have TT:=T1.app T2;obtain ⟨v,hv,mv⟩:=Zfx (xs:=[.non,.bl true,.bl false,.int 0,.int 1,.int (-1),.int (10^Int.toNat 29),.str "",.str "a",.ref p1,.ref p2,.ref p3,.ref p4,.ref p5,.ref p6]++[.ref p9,.ref p10,.ref p11,.ref p12,.ref p13]) r0 (by exact r1);exact ⟨p15,_,r,v,rfl,rfl,SqL.of (kz _ _ (fun z=>st14.ne n15 z.symm) A15),hv,q _ _ (((S1.trans (S2.trans (S3.trans (S4.trans (S5.trans (S6.trans (S7.trans (S8.trans (S9.trans (S10.trans (S11.trans (S12.trans (S13.trans (S14.trans S15))))))))))))))).keep.trans kz) lz (Tg.keepS hN st15 (TT v mv) kz)⟩
abbrev Zaw:Stmt:=top 48
theorem Zfz (F:Fun K "_law_whole" "_law_whole" Zaw f fd):FnOk P w K mg base CX0 1 f fd ["_law_thing"] Zbt:=by
 have sc:FnScope ["_law_thing"] ["_law_thing"] (Zf Zaw):=fsc (by decide +kernel);refine F.ok sc fun cdv A outer s H vs Q E hr h=>?_;obtain ⟨N,k,v,d,rfl,h,q⟩:=h;refine' ⟨_,?term,?read⟩
 case term=>refine' @Zh _ _ _ (Zn (Zbe (Zi Y9 rfl T.b_isinstance Z0 (Za (pv 0) (Za (Xx (v:=.ty "int") rfl T.b_int Zi1 rfl) Zb rfl) rfl)) (Za3 (Zi8 (Zi Y9 rfl T.b_isinstance Z0 (Za (pv 0) (Za (Xx (v:=.ty "bool") rfl T.b_bool Zig rfl) Zb rfl) rfl))))))
 cases h with
 | non=>exact ⟨_,rfl,_,_,_,_,rfl,TyOf.non,rfl,false,rfl,iteF q⟩
 | bl b=>exact ⟨_,rfl,_,_,_,_,rfl,TyOf.bl b,rfl,true,rfl,iteT ⟨_,rfl,_,_,_,_,rfl,TyOf.bl b,rfl,true,rfl,q⟩⟩
 | int hi=>exact ⟨_,rfl,_,_,_,_,rfl,TyOf.int _,rfl,true,rfl,iteT ⟨_,rfl,_,_,_,_,rfl,TyOf.int _,rfl,false,rfl,q⟩⟩
 | str x=>exact ⟨_,rfl,_,_,_,_,rfl,TyOf.str x,rfl,false,rfl,iteF q⟩
 | tup h r=>exact ⟨_,rfl,_,_,_,_,rfl,TyOf.tup h,rfl,false,rfl,iteF q⟩
 | lst h n m r=>exact ⟨_,rfl,_,_,_,_,rfl,TyOf.lst h,rfl,false,rfl,iteF q⟩
 | dic h=>exact ⟨_,rfl,_,_,_,_,rfl,TyOf.dK h,rfl,false,rfl,iteF q⟩
abbrev Ze6:Nat→Sp|0=>fun _ _ _ _=>False|n+1=>Zdx n
abbrev X2:Stmt:=top 49
theorem Zaj {n:Nat} (F:Fun K "_law_bent" "_law_bent" X2 f fd) (Cab_:Cal P w K mg base "_law_bent" (n+2) ["_law_state_here","_law_thing"] (Ze6 n)) (Ca_:a30_ P w K mg base) (Ch_:a33_ P w K mg base) (Cac_:a34_ P w K mg base):FnOk P w K mg base CX0 (n+3) f fd ["_law_state_here","_law_thing"] (Zdx n):=by
 have sc:FnScope ["_law_state_here","_law_thing","_law_at","_law_way","_law_more"] ["_law_state_here","_law_thing"] (Zf X2):=fsc (by decide +kernel);refine F.ok sc fun cdv A outer s H vs Q E hr h=>?_;obtain ⟨l,N,k,v,d,rfl,hl,hN,hD,hd,hk,hn,hm,q⟩:=h;have nd:=sc.nd;have hu:=Zk9 hr;refine' ⟨_,?term,?read⟩
 case term=>refine' @Ze _ _ _ _ _ ?g1 ?g2;(case g1=>refine' @Xg _ _ _ _ _ _ _ _ ?g3 ?g4 Z1;(case g3=>refine' @PW.pt _ _ _ ?g5;case g5=>refine' @Zgv _ _ _ _ _ _ _ ?g6 (Zgv (Yl (Zuj (Nat.lt_of_succ_lt hu)) (pv 1) (Zo Zb) (Yn _)) (Zf2 (Yl Zst (Zk Ca_ hr (by omega) rfl (Za (pv 0) (Za Zd Zb rfl) rfl)) Zd (Yn _))));case g6=>refine' @Zy _ _ _ (Zi Y9 rfl T.b_isinstance Z0 (Za (pv 1) (Za (Xx (v:=.ty "tuple") rfl T.b_tuple Z5 rfl) Zb rfl) rfl)) (fun _=>rfl));case g4=>refine' @Ze _ _ _ _ _ (Zt (i:=2) nd rfl (Or.inl rfl) (Zk Ca_ hr (by omega) rfl (Za (pv 0) (Za (Zi Zq rfl T.b_len Y3 (Za (pv 1) Zb rfl)) Zb rfl) rfl))) ?g7;case g7=>refine' @Zh _ _ _ ?g8;case g8=>refine' @Zn _ _ _ _ ?g9;case g9=>refine' @Zp _ _ _ _ _ _ _ _ Zc2 ?ga (X4 Zbf (pv 1) (Zax (Zp Yd (pv 2) Zd)) Zav);case ga=>refine' @Zp _ _ _ _ _ _ _ _ Zc2 (X4 Zbf (pv 1) Zav (Zax (pv 2))) ?gb;case gb=>refine' @Zo _ _ _ _ _ ?gc;case gc=>refine' @Za _ _ _ _ _ ?gd Zb rfl;case gd=>refine' @Zk _ _ _ _ _ _ _ _ _ _ _ Cab_ hr (by omega) rfl ?ge (by decide) (by rfl) (by rfl);case ge=>refine' @Za _ _ _ _ _ (pv 0) ?gf rfl;case gf=>refine' @Za _ _ _ _ _ ?gg Zb rfl;case gg=>refine' @Zv _ _ _ _ _ _ _ Z3 (pv 1) (pv 2) (fun _ _=>rfl));case g2=>refine' @Ze _ _ _ _ _ (Zt (i:=3) nd rfl (Or.inl rfl) (Zk Ca_ hr (by omega) rfl (Za (pv 0) (Za Zd Zb rfl) rfl))) ?gh;case gh=>refine' @Ze _ _ _ _ _ ?gi ?gj;(case gi=>refine' @Xg _ _ _ _ _ _ _ _ ?gk ?gl Z1;(case gk=>refine' @PW.pt _ _ _ ?gm;case gm=>refine' @Zgv _ _ _ _ _ _ _ ?gn (Zf2 (Yl Zna (pv 3) Zd (Yn _)));case gn=>refine' @Zy _ _ _ (Zi Y9 rfl T.b_isinstance Z0 (Za (pv 1) (Za (Xx (v:=.ty "tuple") rfl T.b_tuple Z5 rfl) Zb rfl) rfl)) (fun _=>rfl));case gl=>refine' @Ze _ _ _ _ _ ?go ?gp;(case go=>refine' @Zt _ _ (4) _ _ _ _ nd rfl (Or.inl rfl) ?gq (by rfl) (by first|exact Or.inl rfl|exact Or.inr rfl|assumption);case gq=>refine' @Yy _ _ _ _ ?gr;case gr=>refine' @Za _ _ _ _ _ (Zp Zc2 (pv 1) (X4 Zbf (pv 1) (Zax (Zco Zap Zd)) Zav)) ?gs rfl;case gs=>refine' @Za _ _ _ _ _ (X4 Zbf (pv 1) Zav (Zax (Zco Zap Zd))) ?gt rfl;case gt=>refine' @Za _ _ _ _ _ (X4 Zbf (pv 1) (Zax Zd) Zav) (Za (Znn Zvl (pv 1)) (Za (Zu Za8 rfl T.b_list Zc7 (Za (pv 1) Zb rfl)) (Za (Zp Zc2 (pv 1) (Zo (Za Zd Zb rfl))) Zb rfl) rfl) rfl) rfl);case gp=>refine' @Ze _ _ _ _ _ (Za1 (Zfc PySem.F.plainAttrs_list PySem.F.slot_list_append PySem.F.type_list_append Y8 (pv 4) (Za (Zp Zc2 (pv 1) (Zo (Za (pv 1) Zb rfl))) Zb rfl))) ?gu;case gu=>refine' @Zh _ _ _ ?gv;case gv=>refine' @Zn _ _ _ _ ?gw;case gw=>refine' @Zv _ _ _ _ _ _ _ Z9 (pv 4) (pv 3) (fun _ _=>rfl));case gj=>refine' @Ze _ _ _ _ _ ?gx (Zh (Zn (Zk Ch_ hr (by omega) rfl (Za (pv 0) Zb rfl))));case gx=>refine' @Xg _ _ _ _ _ _ _ _ ?gy ?gz Z1;(case gy=>refine' @PW.pt _ _ _ ?g10;case g10=>refine' @Zgv _ _ _ _ _ _ _ ?g11 (Zf2 (Yl Zna (pv 3) Zd (Yn _)));case g11=>refine' @Zy _ _ _ (Zk Cac_ hr (by omega) rfl (Za (pv 1) Zb rfl)) (fun _=>rfl));case gz=>refine' @Zh _ _ _ ?g12;case g12=>refine' @Zn _ _ _ _ ?g13;case g13=>refine' @Zp _ _ _ _ _ _ _ _ Yd (pv 1) ?g14;case g14=>refine' @Zv _ _ _ _ _ _ _ Z9 ?g15 (pv 3) (fun _ _=>rfl);case g15=>refine' @Yy _ _ _ _ ?g16;case g16=>refine' @Za _ _ _ _ _ Zd ?g17 rfl;case g17=>refine' @Za _ _ _ _ _ (Zco Zap Zd) ?g18 rfl;case g18=>refine' @Za _ _ _ _ _ Zd (Za Zd (Za (Zco Zap Zd) (Za Zd Zb rfl) rfl) rfl) rfl
 rcases hd.isT with ⟨a,xs,ds,rfl,rfl,ha,hs⟩|e
 case inr =>
  obtain ⟨t,ty,ki⟩:=hd.ty (K:=K);rw [e] at ki;refine ⟨_,rfl,_,_,t,_,rfl,ty,ki,_,rfl,iteF (iteF ?_)⟩;refine ⟨_,rfl,l,9,rfl,hl,by decide,Ye (by decide),fun r H1 r0 r1 k1 l1=>?_⟩;have hd1:=Dt.keepS hN hl hd k1;obtain ⟨t',ty',ki'⟩:=hd1.ty (K:=K);rw [e] at ki';refine ⟨_,rfl,_,_,t',_,rfl,ty',ki',_,rfl,iteF (iteF ?_)⟩;refine ⟨_,rfl,N,k,v,d,rfl,hd1,_,rfl,?_⟩
  rcases hd1.isI with ⟨i,rfl,rfl,hi⟩|e2
  · refine iteT ?_;refine ⟨_,rfl,_,_,rfl,rfl,_,rfl,?_⟩;refine ite2 (fun hlt=>?_) (fun _=>?_)
    · refine ⟨_,rfl,_,rfl,_,rfl,by show 6≤sizeLine;decide,fun p2 n2=>?_⟩;obtain ⟨w,hw,hm⟩:=Zfx (xs:=[V.int 1,V.int (-1),V.int 2,V.int 30,V.int (-101),V.int 5]) r0 (n35_ hlt)
      obtain ⟨c,ec,hc⟩:∃ c,w=.int c∧c.natAbs≤101:=by
       simp only [n12_,n13_,or_false] at hm
       rcases hm with rfl|rfl|rfl|rfl|rfl|rfl<;>exact ⟨_,rfl,by decide⟩
      refine ⟨_,rfl,p2,_,r,w,rfl,rfl,SqL.of Zc,hw,i,c,rfl,ec,?_⟩;refine q _ _ (k1.trans (Keep.new n2)) (l1.new n2) ⟨.int (i+c),.int ?_,n42_ _,by show 1≤_;omega⟩;have h1:2^(k+1)=2*2^k:=Nat.pow_succ';have h2:2^7≤2^k:=n61_ (by decide) (by omega);have h3:=Int.natAbs_add_le i c;rw [h1];have h5:(2:Nat)^7=128:=by decide
      omega
    · exact ⟨_,rfl,l,N,rfl,l1,hN,Dom.keepS hD k1 l1,fun Hy vy ky ly ty=>q _ _ (k1.trans ky) ly (ty.up (by omega) (by omega) (by omega))⟩
  · rw [e2];exact iteF (iteF ⟨_,rfl,l,N,rfl,l1,hN,Dom.keepS hD k1 l1,fun Hy vy ky ly ty=>q _ _ (k1.trans ky) ly (ty.up (by omega) (by omega) (by omega))⟩)
 have dep:PyData.depthAll ds+1≤n:=hn;obtain ⟨n,rfl⟩:∃ m,n=m+1:=⟨n-1,by omega⟩;have hz:1+Zr ds≤100000:=hm;have hlen:xs.length≤100000:=by rw [hs.len];have:=Zqh ds;omega
 refine ⟨_,rfl,_,_,_,_,rfl,TyOf.tup ha,rfl,true,rfl,iteT ?_⟩;refine ⟨_,rfl,z0_,?_⟩;intro p1 n1;generalize hH1:upd H p1 _=H1;have S1:Same H H1:=by (rw [← hH1];exact Same.new n1)
 have A1:=(congrFun hH1 p1).symm;rw [Zc] at A1;clear hH1;have st1:=(hl).same S1;refine ⟨a,p1,xs,rfl,rfl,SqT.of (S1 _ _ ha),SqT.of A1,_,rfl,?_⟩
 by_cases hx:xs=[]
 · rw [n24_ hx];refine iteF (iteF ?_);refine ⟨_,rfl,l,9,rfl,st1,by decide,Ye (by decide),fun r Hc r0 r1 kc lc=>?_⟩;have hc:=kc _ _ (fun z=>by subst z;exact absurd (((st1).neT (S1 _ _ ha)) rfl) id) (S1 _ _ ha);have Kc:Keep l H Hc:=(S1.keep).trans kc;have hsc:Dts N Hc k xs ds:=Dts.keepS hN hl hs Kc;refine ⟨_,rfl,_,_,_,_,rfl,TyOf.tup hc,rfl,true,rfl,iteT ?_⟩;refine ⟨_,rfl,_,_,rfl,rfl,_,rfl,?_⟩;refine ite2 (fun hlt=>?_) (fun _=>?_)
   · refine ⟨_,rfl,_,rfl,_,rfl,_,rfl,a,xs,rfl,hc,fun pc1 Hc1 Sc1 Ac1=>?_⟩;have stc1:=(lc).same Sc1;refine ⟨a,pc1,_,_,rfl,rfl,(Sc1 _ _ hc),Ac1,by have e:=sizeLine_eq;have:=Yu xs (some (-1)) none;(try simp only [n15_,n53_]);omega,fun pc2 Hc2 Sc2 Ac2=>?_⟩;have stc2:=(stc1).same Sc2;refine ⟨_,rfl,_,rfl,_,rfl,a,xs,rfl,(Sc2 _ _ (Sc1 _ _ hc)),fun pc3 Hc3 Sc3 Ac3=>?_⟩;have stc3:=(stc2).same Sc3;refine ⟨_,rfl,_,rfl,a,xs,rfl,(Sc3 _ _ (Sc2 _ _ (Sc1 _ _ hc))),fun pc4 Hc4 Sc4 Ac4=>?_⟩;have stc4:=(stc3).same Sc4;refine ⟨_,rfl,a,xs,rfl,SqT.of (Sc4 _ _ (Sc3 _ _ (Sc2 _ _ (Sc1 _ _ hc)))),?_⟩;intro pc5 nc5;generalize hHc5:upd Hc4 pc5 _=Hc5;have Sc5:Same Hc4 Hc5:=by (rw [← hHc5];exact Same.new nc5)
     have Ac5:=(congrFun hHc5 pc5).symm;rw [Zc] at Ac5;clear hHc5;have stc5:=(stc4).same Sc5;refine ⟨_,rfl,a,xs,rfl,.inr (SqT.of (Sc5 _ _ (Sc4 _ _ (Sc3 _ _ (Sc2 _ _ (Sc1 _ _ hc)))))),?_⟩;intro pc6 nc6 mc6;generalize hHc6:upd Hc5 pc6 _=Hc6;have Sc6:Same Hc5 Hc6:=by (rw [← hHc6];exact Same.new nc6)
     have Ac6:=(congrFun hHc6 pc6).symm;rw [Zc] at Ac6;clear hHc6;have stc6:=(stc5).same Sc6;refine ⟨_,rfl,z1_,?_⟩;intro pc7 nc7;generalize hHc7:upd Hc6 pc7 _=Hc7;have Sc7:Same Hc6 Hc7:=by (rw [← hHc7];exact Same.new nc7)
     have Ac7:=(congrFun hHc7 pc7).symm;rw [Zc] at Ac7;clear hHc7;have stc7:=(stc6).same Sc7;refine ⟨a,pc7,_,_,rfl,rfl,(Sc7 _ _ (Sc6 _ _ (Sc5 _ _ (Sc4 _ _ (Sc3 _ _ (Sc2 _ _ (Sc1 _ _ hc))))))),Ac7,by have e:=sizeLine_eq;have:=Yu xs (some (-1)) none;(try simp only [n15_,n53_]);omega,fun pc8 Hc8 Sc8 Ac8=>?_⟩;have stc8:=(stc7).same Sc8;refine ⟨by show 6≤sizeLine;decide,?_⟩;intro pc9 nc9;generalize hHc9:upd Hc8 pc9 _=Hc9;have Sc9:Same Hc8 Hc9:=by (rw [← hHc9];exact Same.new nc9)
     have Ac9:=(congrFun hHc9 pc9).symm;rw [Zc] at Ac9;clear hHc9;have stc9:=(stc8).same Sc9;refine ⟨_,rfl,.inl ⟨rfl,_,SqL.of Ac9⟩,_,rfl,_,rfl,z1_,?_⟩;intro pc10 nc10;generalize hHc10:upd Hc9 pc10 _=Hc10;have Sc10:Same Hc9 Hc10:=by (rw [← hHc10];exact Same.new nc10)
     have Ac10:=(congrFun hHc10 pc10).symm;rw [Zc] at Ac10;clear hHc10;have stc10:=(stc9).same Sc10;refine ⟨a,pc10,_,_,rfl,rfl,(Sc10 _ _ (Sc9 _ _ (Sc8 _ _ (Sc7 _ _ (Sc6 _ _ (Sc5 _ _ (Sc4 _ _ (Sc3 _ _ (Sc2 _ _ (Sc1 _ _ hc)))))))))),Ac10,by have e:=sizeLine_eq;have:=Yu xs (some (-1)) none;(try simp only [n15_,n53_]);omega,fun pc11 Hc11 Sc11 Ac11=>?_⟩;have stc11:=(stc10).same Sc11;have QL:Hc11 pc9=some (.lst [.ref pc2,.ref pc3,.ref pc4,.ref pc5,.ref pc6,.ref pc8]):=(Sc11 _ _ (Sc10 _ _ Ac9));refine ⟨pc9,_,_,rfl,rfl,QL,by show 6<sizeLine;decide,?_⟩;generalize hHz:upd Hc11 pc9 _=Hz;have Kz:Keep pc9 Hc11 Hz:=by (rw [← hHz];exact Keep.upd)
     have Az:Hz pc9=some (.lst ([.ref pc2,.ref pc3,.ref pc4,.ref pc5,.ref pc6,.ref pc8]++[.ref pc11])):=by (rw [← hHz];exact Zc)
     clear hHz;have Sz:Same Hc8 Hz:=fun b o e=>Kz b o (Zm e nc9) ((Sc9.trans (Sc10.trans Sc11)) b o e);have stz:StAt Hz l:=(stc11).keep Kz (fun z=>stc8.ne nc9 z);have dz:Dts N Hz (k+1) xs ds:=(hsc.same ((Sc1.trans (Sc2.trans (Sc3.trans (Sc4.trans (Sc5.trans (Sc6.trans (Sc7.trans Sc8))))))).trans Sz)).up (by omega);obtain ⟨es1,f1,g1,h1⟩:=dz.cut (some (-1)) none;obtain ⟨es2,f2,g2,h2⟩:=dz.cut none (some (-1));obtain ⟨es3,f3,g3,h3⟩:=dz.cut (some 1) none;have U1:Tg N Hz (k+1) (n+3) (2*nz (.tuple ds)+40) (.ref pc2):=⟨_,.tup (Sz _ _ (Sc8 _ _ (Sc7 _ _ (Sc6 _ _ (Sc5 _ _ (Sc4 _ _ (Sc3 _ _ Ac2))))))) (dz.app f1),by show PyData.depthAll _+1≤_;rw [Z2];omega,by show 1+Zr _≤2*(1+Zr ds)+40;rw [Yv];omega⟩;have U2:Tg N Hz (k+1) (n+3) (2*nz (.tuple ds)+40) (.ref pc3):=⟨_,.tup (Sz _ _ (Sc8 _ _ (Sc7 _ _ (Sc6 _ _ (Sc5 _ _ (Sc4 _ _ Ac3)))))) f2,by show PyData.depthAll _+1≤_;omega,by show 1+Zr _≤2*(1+Zr ds)+40;omega⟩;have U3:Tg N Hz (k+1) (n+3) (2*nz (.tuple ds)+40) (.ref pc4):=⟨_,.tup (Sz _ _ (Sc8 _ _ (Sc7 _ _ (Sc6 _ _ (Sc5 _ _ Ac4))))) f3,by show PyData.depthAll _+1≤_;omega,by show 1+Zr _≤2*(1+Zr ds)+40;omega⟩;have U4:Tg N Hz (k+1) (n+3) (2*nz (.tuple ds)+40) (.ref pc5):=⟨_,.tup (Sz _ _ (Sc8 _ _ (Sc7 _ _ (Sc6 _ _ Ac5)))) dz.rev,by show PyData.depthAll _+1≤_;rw [Zci];omega,by show 1+Zr _≤2*(1+Zr ds)+40;rw [Zgn];omega⟩;have U5:Tg N Hz (k+1) (n+3) (2*nz (.tuple ds)+40) (.ref pc6):=⟨_,.lst (Sz _ _ (Sc8 _ _ (Sc7 _ _ Ac6))) (((Dom.keepS hD Kc lc).same (Sc1.trans (Sc2.trans (Sc3.trans (Sc4.trans Sc5))))).new nc6) mc6 dz,by show PyData.depthAll _+1≤_;omega,by show 1+Zr _≤2*(1+Zr ds)+40;omega⟩;have U6:Tg N Hz (k+1) (n+3) (2*nz (.tuple ds)+40) (.ref pc8):=⟨_,.tup (Sz _ _ Ac8) (dz.app (.cons (dint 0 (by omega) (by decide)) .nil)),by show PyData.depthAll _+1≤_;rw [Z2];simp only [PyData.depthAll,PyData.depth];omega,by show 1+Zr _≤2*(1+Zr ds)+40;rw [Yv];simp only [Zr,nz];omega⟩;have hz':Hz a=some (.tup xs):=Sz _ _ (Sc8 _ _ (Sc7 _ _ (Sc6 _ _ (Sc5 _ _ (Sc4 _ _ (Sc3 _ _ (Sc2 _ _ (Sc1 _ _ hc))))))));have U7:Tg N Hz (k+1) (n+3) (2*nz (.tuple ds)+40) (.ref pc11):=⟨_,.tup (Kz _ _ (Zfk Ac11 QL (by intro z;cases z)) Ac11) (dz.app (.cons (.tup hz' dz) .nil)),by show PyData.depthAll _+1≤_;rw [Z2];simp only [PyData.depthAll,PyData.depth];omega,by show 1+Zr _≤2*(1+Zr ds)+40;rw [Yv];simp only [Zr,nz];omega⟩;obtain ⟨w,hw,mw⟩:=Zfx (xs:=[.ref pc2,.ref pc3,.ref pc4,.ref pc5,.ref pc6,.ref pc8]++[.ref pc11]) r0 (by exact n35_ hlt);have TU:=Tgs.app (Tgs.cons U1 (Tgs.cons U2 (Tgs.cons U3 (Tgs.cons U4 (Tgs.cons U5 (Tgs.cons U6 Tgs.nil)))))) (Tgs.cons U7 Tgs.nil);refine ⟨_,rfl,_,rfl,pc9,_,r,w,rfl,rfl,SqL.of Az,hw,q _ _ ?_ stz (TU w mw)⟩;exact fun b o nb e=>Sz b o ((Sc1.trans (Sc2.trans (Sc3.trans (Sc4.trans (Sc5.trans (Sc6.trans (Sc7.trans Sc8))))))) b o (Kc b o nb e))
   · refine ⟨_,rfl,N,k,_,_,rfl,.tup hc hsc,_,rfl,iteF (iteF ?_)⟩;exact ⟨_,rfl,l,N,rfl,lc,hN,Dom.keepS hD Kc lc,fun Hy vy ky ly ty=>q _ _ (Kc.trans ky) ly (ty.up (by omega) (by omega) (by omega))⟩
 rw [n25_ hx];refine iteT ?_;refine ⟨_,rfl,l,5,rfl,st1,by decide,Ye (by decide),fun r5 H2 r50 r51 k2 l2=>?_⟩;have K2:Keep l H H2:=S1.keep.trans k2;have h2:H2 a=some (.tup xs):=K2 _ _ (hl.neT ha) ha;refine ⟨_,_,rfl,rfl,_,rfl,?_⟩;refine ite2 (fun _=>?_) (fun _=>?_)
 case refine_2 =>
  refine ⟨_,rfl,l,9,rfl,l2,by decide,Ye (by decide),fun r Hc r0 r1 kc lc=>?_⟩;have hc:=kc _ _ (fun z=>by subst z;exact absurd (((l2).neT h2) rfl) id) h2;have Kc:Keep l H Hc:=(K2).trans kc;have hsc:Dts N Hc k xs ds:=Dts.keepS hN hl hs Kc;refine ⟨_,rfl,_,_,_,_,rfl,TyOf.tup hc,rfl,true,rfl,iteT ?_⟩;refine ⟨_,rfl,_,_,rfl,rfl,_,rfl,?_⟩;refine ite2 (fun hlt=>?_) (fun _=>?_)
  · refine ⟨_,rfl,_,rfl,_,rfl,_,rfl,a,xs,rfl,hc,fun pc1 Hc1 Sc1 Ac1=>?_⟩;have stc1:=(lc).same Sc1;refine ⟨a,pc1,_,_,rfl,rfl,(Sc1 _ _ hc),Ac1,by have e:=sizeLine_eq;have:=Yu xs (some (-1)) none;(try simp only [n15_,n53_]);omega,fun pc2 Hc2 Sc2 Ac2=>?_⟩;have stc2:=(stc1).same Sc2;refine ⟨_,rfl,_,rfl,_,rfl,a,xs,rfl,(Sc2 _ _ (Sc1 _ _ hc)),fun pc3 Hc3 Sc3 Ac3=>?_⟩;have stc3:=(stc2).same Sc3;refine ⟨_,rfl,_,rfl,a,xs,rfl,(Sc3 _ _ (Sc2 _ _ (Sc1 _ _ hc))),fun pc4 Hc4 Sc4 Ac4=>?_⟩;have stc4:=(stc3).same Sc4;refine ⟨_,rfl,a,xs,rfl,SqT.of (Sc4 _ _ (Sc3 _ _ (Sc2 _ _ (Sc1 _ _ hc)))),?_⟩;intro pc5 nc5;generalize hHc5:upd Hc4 pc5 _=Hc5;have Sc5:Same Hc4 Hc5:=by (rw [← hHc5];exact Same.new nc5)
    have Ac5:=(congrFun hHc5 pc5).symm;rw [Zc] at Ac5;clear hHc5;have stc5:=(stc4).same Sc5;refine ⟨_,rfl,a,xs,rfl,.inr (SqT.of (Sc5 _ _ (Sc4 _ _ (Sc3 _ _ (Sc2 _ _ (Sc1 _ _ hc)))))),?_⟩;intro pc6 nc6 mc6;generalize hHc6:upd Hc5 pc6 _=Hc6;have Sc6:Same Hc5 Hc6:=by (rw [← hHc6];exact Same.new nc6)
    have Ac6:=(congrFun hHc6 pc6).symm;rw [Zc] at Ac6;clear hHc6;have stc6:=(stc5).same Sc6;refine ⟨_,rfl,z1_,?_⟩;intro pc7 nc7;generalize hHc7:upd Hc6 pc7 _=Hc7;have Sc7:Same Hc6 Hc7:=by (rw [← hHc7];exact Same.new nc7)
    have Ac7:=(congrFun hHc7 pc7).symm;rw [Zc] at Ac7;clear hHc7;have stc7:=(stc6).same Sc7;refine ⟨a,pc7,_,_,rfl,rfl,(Sc7 _ _ (Sc6 _ _ (Sc5 _ _ (Sc4 _ _ (Sc3 _ _ (Sc2 _ _ (Sc1 _ _ hc))))))),Ac7,by have e:=sizeLine_eq;have:=Yu xs (some (-1)) none;(try simp only [n15_,n53_]);omega,fun pc8 Hc8 Sc8 Ac8=>?_⟩;have stc8:=(stc7).same Sc8;refine ⟨by show 6≤sizeLine;decide,?_⟩;intro pc9 nc9;generalize hHc9:upd Hc8 pc9 _=Hc9;have Sc9:Same Hc8 Hc9:=by (rw [← hHc9];exact Same.new nc9)
    have Ac9:=(congrFun hHc9 pc9).symm;rw [Zc] at Ac9;clear hHc9;have stc9:=(stc8).same Sc9;refine ⟨_,rfl,.inl ⟨rfl,_,SqL.of Ac9⟩,_,rfl,_,rfl,z1_,?_⟩;intro pc10 nc10;generalize hHc10:upd Hc9 pc10 _=Hc10;have Sc10:Same Hc9 Hc10:=by (rw [← hHc10];exact Same.new nc10)
    have Ac10:=(congrFun hHc10 pc10).symm;rw [Zc] at Ac10;clear hHc10;have stc10:=(stc9).same Sc10;refine ⟨a,pc10,_,_,rfl,rfl,(Sc10 _ _ (Sc9 _ _ (Sc8 _ _ (Sc7 _ _ (Sc6 _ _ (Sc5 _ _ (Sc4 _ _ (Sc3 _ _ (Sc2 _ _ (Sc1 _ _ hc)))))))))),Ac10,by have e:=sizeLine_eq;have:=Yu xs (some (-1)) none;(try simp only [n15_,n53_]);omega,fun pc11 Hc11 Sc11 Ac11=>?_⟩;have stc11:=(stc10).same Sc11;have QL:Hc11 pc9=some (.lst [.ref pc2,.ref pc3,.ref pc4,.ref pc5,.ref pc6,.ref pc8]):=(Sc11 _ _ (Sc10 _ _ Ac9));refine ⟨pc9,_,_,rfl,rfl,QL,by show 6<sizeLine;decide,?_⟩;generalize hHz:upd Hc11 pc9 _=Hz;have Kz:Keep pc9 Hc11 Hz:=by (rw [← hHz];exact Keep.upd)
    have Az:Hz pc9=some (.lst ([.ref pc2,.ref pc3,.ref pc4,.ref pc5,.ref pc6,.ref pc8]++[.ref pc11])):=by (rw [← hHz];exact Zc)
    clear hHz;have Sz:Same Hc8 Hz:=fun b o e=>Kz b o (Zm e nc9) ((Sc9.trans (Sc10.trans Sc11)) b o e);have stz:StAt Hz l:=(stc11).keep Kz (fun z=>stc8.ne nc9 z);have dz:Dts N Hz (k+1) xs ds:=(hsc.same ((Sc1.trans (Sc2.trans (Sc3.trans (Sc4.trans (Sc5.trans (Sc6.trans (Sc7.trans Sc8))))))).trans Sz)).up (by omega);obtain ⟨es1,f1,g1,h1⟩:=dz.cut (some (-1)) none;obtain ⟨es2,f2,g2,h2⟩:=dz.cut none (some (-1));obtain ⟨es3,f3,g3,h3⟩:=dz.cut (some 1) none;have U1:Tg N Hz (k+1) (n+3) (2*nz (.tuple ds)+40) (.ref pc2):=⟨_,.tup (Sz _ _ (Sc8 _ _ (Sc7 _ _ (Sc6 _ _ (Sc5 _ _ (Sc4 _ _ (Sc3 _ _ Ac2))))))) (dz.app f1),by show PyData.depthAll _+1≤_;rw [Z2];omega,by show 1+Zr _≤2*(1+Zr ds)+40;rw [Yv];omega⟩;have U2:Tg N Hz (k+1) (n+3) (2*nz (.tuple ds)+40) (.ref pc3):=⟨_,.tup (Sz _ _ (Sc8 _ _ (Sc7 _ _ (Sc6 _ _ (Sc5 _ _ (Sc4 _ _ Ac3)))))) f2,by show PyData.depthAll _+1≤_;omega,by show 1+Zr _≤2*(1+Zr ds)+40;omega⟩;have U3:Tg N Hz (k+1) (n+3) (2*nz (.tuple ds)+40) (.ref pc4):=⟨_,.tup (Sz _ _ (Sc8 _ _ (Sc7 _ _ (Sc6 _ _ (Sc5 _ _ Ac4))))) f3,by show PyData.depthAll _+1≤_;omega,by show 1+Zr _≤2*(1+Zr ds)+40;omega⟩;have U4:Tg N Hz (k+1) (n+3) (2*nz (.tuple ds)+40) (.ref pc5):=⟨_,.tup (Sz _ _ (Sc8 _ _ (Sc7 _ _ (Sc6 _ _ Ac5)))) dz.rev,by show PyData.depthAll _+1≤_;rw [Zci];omega,by show 1+Zr _≤2*(1+Zr ds)+40;rw [Zgn];omega⟩;have U5:Tg N Hz (k+1) (n+3) (2*nz (.tuple ds)+40) (.ref pc6):=⟨_,.lst (Sz _ _ (Sc8 _ _ (Sc7 _ _ Ac6))) (((Dom.keepS hD Kc lc).same (Sc1.trans (Sc2.trans (Sc3.trans (Sc4.trans Sc5))))).new nc6) mc6 dz,by show PyData.depthAll _+1≤_;omega,by show 1+Zr _≤2*(1+Zr ds)+40;omega⟩;have U6:Tg N Hz (k+1) (n+3) (2*nz (.tuple ds)+40) (.ref pc8):=⟨_,.tup (Sz _ _ Ac8) (dz.app (.cons (dint 0 (by omega) (by decide)) .nil)),by show PyData.depthAll _+1≤_;rw [Z2];simp only [PyData.depthAll,PyData.depth];omega,by show 1+Zr _≤2*(1+Zr ds)+40;rw [Yv];simp only [Zr,nz];omega⟩;have hz':Hz a=some (.tup xs):=Sz _ _ (Sc8 _ _ (Sc7 _ _ (Sc6 _ _ (Sc5 _ _ (Sc4 _ _ (Sc3 _ _ (Sc2 _ _ (Sc1 _ _ hc))))))));have U7:Tg N Hz (k+1) (n+3) (2*nz (.tuple ds)+40) (.ref pc11):=⟨_,.tup (Kz _ _ (Zfk Ac11 QL (by intro z;cases z)) Ac11) (dz.app (.cons (.tup hz' dz) .nil)),by show PyData.depthAll _+1≤_;rw [Z2];simp only [PyData.depthAll,PyData.depth];omega,by show 1+Zr _≤2*(1+Zr ds)+40;rw [Yv];simp only [Zr,nz];omega⟩;obtain ⟨w,hw,mw⟩:=Zfx (xs:=[.ref pc2,.ref pc3,.ref pc4,.ref pc5,.ref pc6,.ref pc8]++[.ref pc11]) r0 (by exact n35_ hlt);have TU:=Tgs.app (Tgs.cons U1 (Tgs.cons U2 (Tgs.cons U3 (Tgs.cons U4 (Tgs.cons U5 (Tgs.cons U6 Tgs.nil)))))) (Tgs.cons U7 Tgs.nil);refine ⟨_,rfl,_,rfl,pc9,_,r,w,rfl,rfl,SqL.of Az,hw,q _ _ ?_ stz (TU w mw)⟩;exact fun b o nb e=>Sz b o ((Sc1.trans (Sc2.trans (Sc3.trans (Sc4.trans (Sc5.trans (Sc6.trans (Sc7.trans Sc8))))))) b o (Kc b o nb e))
  · refine ⟨_,rfl,N,k,_,_,rfl,.tup hc hsc,_,rfl,iteF (iteF ?_)⟩;exact ⟨_,rfl,l,N,rfl,lc,hN,Dom.keepS hD Kc lc,fun Hy vy ky ly ty=>q _ _ (Kc.trans ky) ly (ty.up (by omega) (by omega) (by omega))⟩
 have hpos:0<xs.length:=by rcases xs with _|⟨x,xs⟩;exact absurd rfl hx;simp
 refine ⟨_,rfl,_,rfl,a,xs,rfl,.inr (SqT.of h2),l,xs.length,rfl,l2,by omega,Ye (by rw [p64];omega),fun r H3 r0 r1 k3 l3=>?_⟩;obtain ⟨rn,rfl⟩:=Int.eq_ofNat_of_zero_le r0;have hrn:rn<xs.length:=by omega
 have K3:Keep l H H3:=K2.trans k3;have h3:H3 a=some (.tup xs):=K3 _ _ (hl.neT ha) ha;refine ⟨_,rfl,_,rfl,_,rfl,a,xs,rfl,h3,fun p4 H4 S4 A4=>?_⟩;rw [Zpb] at A4;have K4:Keep l H H4:=K3.trans S4.keep;obtain ⟨dx,edx,hdx⟩:=hs.get (n1_ hrn);obtain ⟨gn,gd⟩:=Zhf edx;refine ⟨_,rfl,_,rfl,_,rfl,a,xs,rn,xs[rn],rfl,rfl,SqT.of (S4 _ _ h3),Xz (n1_ hrn),l,N,k,xs[rn],dx,rfl,l3.same S4,hN,Dom.keepS hD K4 (l3.same S4),Dt.keepS hN hl hdx K4,hk,by omega,by omega,fun H5 v5 k5 l5 t5=>?_⟩;obtain ⟨d5,b5,c5,e5⟩:=t5;have st4:StAt H4 l:=l3.same S4;have a4:=k5 _ _ (st4.neT A4) A4;have K5:Keep l H H5:=K4.trans k5;refine ⟨z1_,?_⟩;intro p6 n6;generalize hH6:upd H5 p6 _=H6;have S6:Same H5 H6:=by (rw [← hH6];exact Same.new n6)
 have A6:=(congrFun hH6 p6).symm;rw [Zc] at A6;clear hH6;refine ⟨p4,p6,_,_,rfl,rfl,S6 _ _ a4,A6,by have e:=sizeLine_eq;simp only [n26_,n47_,List.length_drop,n15_,n53_];omega,fun p7 H7 S7 A7=>?_⟩;have K7:Keep l H H7:=K5.trans (S6.trans S7).keep;have h7:H7 a=some (.tup xs):=K7 _ _ (hl.neT ha) ha;refine ⟨_,rfl,_,rfl,_,_,rfl,rfl,_,rfl,a,xs,rfl,h7,fun p8 H8 S8 A8=>?_⟩;rw [show ((rn:Int)+1)=((rn+1:Nat):Int) from rfl,Zor] at A8;refine ⟨p7,p8,_,_,rfl,rfl,S8 _ _ A7,A8,by have e:=sizeLine_eq;simp only [n26_,n47_,List.length_drop,n15_,n53_];omega,fun p9 H9 S9 A9=>?_⟩;have K9:Keep l H H9:=K7.trans (S8.trans S9).keep;have s9:Same H5 H9:=S6.trans (S7.trans (S8.trans S9));have d9:Dts N H9 (k+1) xs ds:=(Dts.keepS hN hl hs K9).up (by omega);refine q _ _ K9 (l5.same s9) ⟨.tuple ((ds.take rn++[d5])++ds.drop (rn+1)),.tup A9 (((d9.take rn).app (.cons (b5.same s9) .nil)).app (d9.drop (rn+1))),?_,?_⟩
 · show PyData.depthAll _+1≤_
   rw [Z2,Z2];have z1:=Zbq rn ds;have z2:=Zbu (rn+1) ds;simp only [PyData.depthAll];omega
 · show 1+Zr _≤2*(1+Zr ds)+40
   rw [Yv,Yv];simp only [Zr];omega
theorem Zfg (F:Fun K "_law_bent" "_law_bent" X2 f fd):FnOk P w K mg base CX0 2 f fd ["_law_state_here","_law_thing"] (Ze6 0):=by
 have sc:FnScope ["_law_state_here","_law_thing","_law_at","_law_way","_law_more"] ["_law_state_here","_law_thing"] (Zf X2):=fsc (by decide +kernel);exact F.ok sc (fun _ _ _ _ _ _ _ _ _ h=>h.elim) fun _ _ _ _ h=>h.elim
abbrev Z7:Stmt:=top 50
theorem Zb0 (F:Fun K "_law_even_plate" "_law_even_plate" Z7 f fd) (Ca_:a30_ P w K mg base) (Cd_:a31_ P w K mg base):FnOk P w K mg base CX0 3 f fd ["_law_state_here"] Znp:=by
 have sc:FnScope ["_law_state_here","_law_square","_law_kite","_law_bow","_law_half","_law_skew","_law_points","_law_pieces","_law_order_here","_law_s","_law_t","_law_by","_law_back","_law_corners","_law_at","_law_x","_law_y","_law_rows","_law_much","_law_thicks"] ["_law_state_here"] (Zf Z7):=fsc (by decide +kernel);refine F.ok sc fun cdv A outer s H vs Q E hr h=>?_;obtain ⟨l,rfl,hl,q'⟩:=h;have nd:=sc.nd;refine' ⟨_,?term,?read⟩
 case term=>refine' @Ze _ _ _ _ _ ?g1 ?g2;(case g1=>refine' @Zt _ _ (1) _ _ _ _ nd rfl (Or.inl rfl) ?g3 (by rfl) (by first|exact Or.inl rfl|exact Or.inr rfl|assumption);case g3=>refine' @Yx _ _ (([(0,0),(2,0),(2,2),(0,2),(1,1)],[[0,1,4],[0,3,4],[1,2,4],[2,3,4]])) rfl);case g2=>refine' @Ze _ _ _ _ _ ?g4 ?g5;(case g4=>refine' @Zt _ _ (2) _ _ _ _ nd rfl (Or.inl rfl) ?g6 (by rfl) (by first|exact Or.inl rfl|exact Or.inr rfl|assumption);case g6=>refine' @Yx _ _ (([(0,0),(2,0),(-2,0),(0,3)],[[0,1,3],[0,2,3]])) rfl);case g5=>refine' @Ze _ _ _ _ _ ?g7 ?g8;(case g7=>refine' @Zt _ _ (3) _ _ _ _ nd rfl (Or.inl rfl) ?g9 (by rfl) (by first|exact Or.inl rfl|exact Or.inr rfl|assumption);case g9=>refine' @Yx _ _ (([(0,0),(2,1),(2,-1),(-2,1),(-2,-1)],[[0,1,2],[0,3,4]])) rfl);case g8=>refine' @Ze _ _ _ _ _ ?ga ?gb;(case ga=>refine' @Zt _ _ (4) _ _ _ _ nd rfl (Or.inl rfl) ?gc (by rfl) (by first|exact Or.inl rfl|exact Or.inr rfl|assumption);case gc=>refine' @Yx _ _ (([(0,0),(4,0),(0,4)],[[0,1,2]])) rfl);case gb=>refine' @Ze _ _ _ _ _ ?gd ?ge;(case gd=>refine' @Zt _ _ (5) _ _ _ _ nd rfl (Or.inl rfl) ?gf (by rfl) (by first|exact Or.inl rfl|exact Or.inr rfl|assumption);case gf=>refine' @Yx _ _ (([(0,0),(3,1),(4,4),(1,3)],[[0,1,2],[0,2,3]])) rfl);case ge=>refine' @Ze _ _ _ _ _ ?gg ?gh;(case gg=>refine' @Xo _ _ _ _ _ _ ?gi ?gj (by rfl) (by rfl) (by rfl);(case gi=>refine' @Zv _ _ _ _ _ _ _ Z9 ?gk (Zk Ca_ hr (by decide) rfl (Za (pv 0) (Za Zd Zb rfl) rfl)) (fun _ _=>rfl);case gk=>refine' @Yy _ _ _ _ (Za (pv 1) (Za (pv 2) (Za (pv 3) (Za (pv 4) (Za (pv 5) (Za (pv 1) Zb rfl) rfl) rfl) rfl) rfl) rfl));case gj=>refine' @Yg _ _ _ _ _ (2) rfl (Zg (Zl (i:=6) nd rfl (Or.inl rfl)) (Zg (Zl (i:=7) nd rfl (Or.inl rfl)) Zz)) (by rfl) (by rfl));case gh=>refine' @Ze _ _ _ _ _ ?gl ?gm;(case gl=>refine' @Xo _ _ _ _ _ _ (Zo (Za (Zk Cd_ hr (by decide) rfl (Za (pv 0) (Za (Zi Zq rfl T.b_len Y3 (Za (pv 6) Zb rfl)) Zb rfl) rfl)) (Za (Zp Xd (Zk Ca_ hr (by decide) rfl (Za (pv 0) (Za Zd Zb rfl) rfl)) Zd) (Za (Zp Xd (Zk Ca_ hr (by decide) rfl (Za (pv 0) (Za Zd Zb rfl) rfl)) Zd) Zb rfl) rfl) rfl)) ?gn (by rfl) (by rfl) (by rfl);case gn=>refine' @Yg _ _ _ _ _ (3) rfl (Zg (Zl (i:=8) nd rfl (Or.inr rfl)) (Zg (Zl (i:=9) nd rfl (Or.inl rfl)) (Zg (Zl (i:=10) nd rfl (Or.inl rfl)) Zz))) (by rfl) (by rfl));case gm=>refine' @Ze _ _ _ _ _ ?go ?gp;(case go=>refine' @Zi5 _ _ (11) (12) _ _ _ _ _ _ _ _ _ _ _ rfl nd rfl rfl (by decide) rfl rfl ?gq rfl (by rfl);case gq=>refine' @Za _ _ _ _ _ (Zp Yd Zd (Zk Ca_ hr (by decide) rfl (Za (pv 0) (Za Zd Zb rfl) rfl))) ?gr rfl;case gr=>refine' @Za _ _ _ _ _ ?gs Zb rfl;case gs=>refine' @Zv _ _ _ _ _ _ _ Z9 ?gt (Zk Ca_ hr (by decide) rfl (Za (pv 0) (Za Zd Zb rfl) rfl)) (fun _ _=>rfl);case gt=>refine' @Yy _ _ _ _ (Za Zd (Za (Zco Zap Zd) Zb rfl) rfl));case gp=>refine' @Ze _ _ _ _ _ ?gu ?gv;(case gu=>refine' @Zt _ _ (13) _ _ _ _ nd rfl (Or.inl rfl) ?gw (by rfl) (by first|exact Or.inl rfl|exact Or.inr rfl|assumption);case gw=>refine' @Zp _ _ _ _ _ _ _ _ Zqg ?gx (Zi Zq rfl T.b_len Y3 (Za (pv 6) Zb rfl));case gx=>refine' @Yy _ _ _ _ (Za (Zo (Za Zd (Za Zd Zb rfl) rfl)) Zb rfl));case gv=>refine' @Ze _ _ _ _ _ ?gy ?gz;(case gy=>refine' @X9 _ _ _ _ _ _ _ _ PassesOwn.never rfl ?g10 ?g11 ?g12 (by intro _ ;rfl);(case g10=>refine' @Ze4 _ _ _ _ .t _ _ _ _ rfl T.b_enumerate (Za (pv 6) Zb rfl) (by rfl));(case g11=>refine' @Yg _ _ _ _ _ (2) rfl ?g13 (by rfl) (by rfl);case g13=>refine' @Zg _ _ _ _ _ (Zl (i:=14) nd rfl (Or.inl rfl)) ?g14 (by rfl);case g14=>refine' @Zg _ _ _ _ _ ?g15 Zz (by rfl);case g15=>refine' @Yg _ _ _ _ _ (2) rfl (Zg (Zl (i:=15) nd rfl (Or.inl rfl)) (Zg (Zl (i:=16) nd rfl (Or.inl rfl)) Zz)) (by rfl) (by rfl));case g12=>refine' @Zh _ _ _ ?g16;case g16=>refine' @Xo _ _ _ _ _ _ (Zo (Za (Zp Yd (Zp Z6 (pv 11) (pv 15)) (pv 9)) (Za (Zp Yd (Zp Z6 (Zp Z6 (pv 12) (pv 11)) (pv 16)) (pv 10)) Zb rfl) rfl)) ?g17 (by rfl) (by rfl) (by rfl);case g17=>refine' @Zgy _ _ _ _ _ _ _ (pv 13) ?g18 Zbn (by intro _ ;rfl);case g18=>refine' @Zv _ _ _ _ _ _ _ Z9 (pv 8) (pv 14) (fun _ _=>rfl));case gz=>refine' @Ze _ _ _ _ _ ?g19 ?g1a;(case g19=>refine' @Zt _ _ (17) _ _ _ _ nd rfl (Or.inl rfl) ?g1b (by rfl) (by first|exact Or.inl rfl|exact Or.inr rfl|assumption);case g1b=>refine' @Zi _ _ _ _ _ _ _ _ _ Xl rfl T.b_sorted Yw ?g1c (by decide) (by decide) (by rfl) (by rfl);case g1c=>refine' @Za _ _ _ _ _ ?g1d Zb rfl;case g1d=>refine' @Xh _ _ _ _ _ _ _ (["_law_piece","_law_order_here"]) ([none,some 8]) _ _ _ _ _ rfl (Z4 (XN:=["_law_state_here","_law_square","_law_kite","_law_bow","_law_half","_law_skew","_law_points","_law_pieces","_law_order_here","_law_s","_law_t","_law_by","_law_back","_law_corners","_law_at","_law_x","_law_y","_law_rows","_law_much","_law_thicks"]) (Scope.names (Zf Z7)) rfl rfl rfl (fun _ h=>Zx h) (by decide +kernel) rfl) (Y2 (pv 7)) (fun _ _ _ _=>pgB 0) (fun _ _ _ _=>Zs) (fun _ _ _ _=>Zu (X5 K rfl) rfl T.b_tuple Z5 (Za (Zi (Zac K rfl) rfl T.b_sorted Yw (Za (Xh (N:=["_law_at","_law_order_here"]) (fr:=[none,some 1]) rfl (Z4 (XN:=["_law_piece","_law_order_here"]) (relN _ (Scope.names (Zf Z7))) rfl rfl rfl (fun _ h=>Zd2 (by decide +kernel) h) (by decide +kernel) rfl) (Zdf K rfl (pv 0)) (fun _ _ _ _=>pgB 0) (fun _ _ _ _=>Zs) (fun _ _ _ _=>Zv (Zcw K rfl) (pv 1) (pv 0) (fun _ _=>rfl))) Zb rfl)) Zb rfl)) (by intro _ ;rfl));case g1a=>refine' @Ze _ _ _ _ _ ?g1e ?g1f;(case g1e=>refine' @Zt _ _ (18) _ _ _ _ nd rfl (Or.inr rfl) (Zp Yd Zd (Zk Ca_ hr (by decide) rfl (Za (pv 0) (Za Zd Zb rfl) rfl))) (by rfl) (by first|exact Or.inl rfl|exact Or.inr rfl|assumption));case g1f=>refine' @Ze _ _ _ _ _ ?g1g ?g1h;(case g1g=>refine' @Zt _ _ (19) _ _ _ _ nd rfl (Or.inl rfl) ?g1i (by rfl) (by first|exact Or.inl rfl|exact Or.inr rfl|assumption);case g1i=>refine' @Zu _ _ _ _ _ _ _ _ _ Zw rfl T.b_tuple Z5 ?g1j (by decide) (by decide) (by rfl) (by rfl);case g1j=>refine' @Za _ _ _ _ _ ?g1k Zb rfl;case g1k=>refine' @Xh _ _ _ _ _ _ _ (["_law_row","_law_much","_law_state_here"]) ([none,some 18,some 0]) _ _ _ _ _ rfl (Z4 (XN:=["_law_state_here","_law_square","_law_kite","_law_bow","_law_half","_law_skew","_law_points","_law_pieces","_law_order_here","_law_s","_law_t","_law_by","_law_back","_law_corners","_law_at","_law_x","_law_y","_law_rows","_law_much","_law_thicks"]) (Scope.names (Zf Z7)) rfl rfl rfl (fun _ h=>Zx h) (by decide +kernel) rfl) (Yz (pv 17)) (fun _ _ _ _=>pgB 0) (fun _ _ _ _=>Zs) (fun _ _ _ _=>Zp Yd (pv 1) (Zu Zm3 rfl T.b_int Zi1 (Za (Xs Zmo (Zk Ca_ hr (by decide) rfl (Za (pv 2) (Za Zd Zb rfl) rfl)) Zd (Yn _)) Zb rfl))) (by intro _ ;rfl));case g1h=>refine' @Zh _ _ _ ?g1l;case g1l=>refine' @Zn _ _ _ _ ?g1m;case g1m=>refine' @Zo _ _ _ _ _ ?g1n;case g1n=>refine' @Za _ _ _ _ _ (Zu Zw rfl T.b_tuple Z5 (Za (pv 13) Zb rfl)) (Za (Zu Zw rfl T.b_tuple Z5 (Za (pv 17) Zb rfl)) (Za (pv 19) (Za (Zo (Za (Zk Ca_ hr (by decide) rfl (Za (pv 0) (Za Zd Zb rfl) rfl)) (Za (Zp Yd Zd (Zk Ca_ hr (by decide) rfl (Za (pv 0) (Za Zd Zb rfl) rfl))) Zb rfl) rfl)) Zb rfl) rfl) rfl) rfl
 intro H01 vsq u1 hsq;intro H02 vki u2 hki;intro H03 vbo u3 hbo;intro H04 vha u4 hha;intro H05 vsk u5 hsk;replace hsq:=hsq.tk (u2.trans (u3.trans (u4.trans u5))).tk;replace hki:=hki.tk (u3.trans (u4.trans u5)).tk;replace hbo:=hbo.tk (u4.trans u5).tk;replace hha:=hha.tk u5.tk;have u05:=u1.trans (u2.trans (u3.trans (u4.trans u5)));refine ⟨_,rfl,_,rfl,_,rfl,_,rfl,_,rfl,_,rfl,by show 6≤sizeLine;decide,fun R nR=>?_⟩;generalize gG:upd H05 R (.lst [vsq,vki,vbo,vha,vsk,vsq])=H06;obtain ⟨u6,eR⟩:=gen_upd gG nR;have u06:=u05.trans u6;have al0:Al (IsSh H06) [vsq,vki,vbo,vha,vsk,vsq] Zh9:=.cons (hsq.tk u6.tk) (.cons (hki.tk u6.tk) (.cons (hbo.tk u6.tk) (.cons (hha.tk u6.tk) (.cons (hsk.tk u6.tk) (.cons (hsq.tk u6.tk) .nil)))));have nRl:R≠l:=(hl.same u05).neN nR;refine ⟨_,rfl,l,6,rfl,hl.same u06,by decide,Ye (by decide),fun r0 H1 r00 r01 k1 l1=>?_⟩;have al1:Al (IsSh H1) _ Zh9:=al0.imp fun v x r=>r.tk (tkS k1 (hl.same u06));obtain ⟨u,sh,eu,hsh,msh⟩:=Zr7 al1 r00 r01;have B:=Zmq msh;obtain ⟨pts,pcs⟩:=sh;obtain ⟨a0,c,p,rfl,ha0,hc0,hp0⟩:=hsh;obtain ⟨c,cvs,rfl,hc7,cal⟩:=hc0;obtain ⟨p,pvs,rfl,hp7,pal⟩:=hp0;replace cal:Al (IsP H1) cvs pts:=cal;replace pal:Al (IsI H1) pvs pcs:=pal;replace B:Base pts pcs:=B;have n6:pts.length≤6:=B.n6;have clen:=cal.1;refine ⟨R,_,_,_,rfl,rfl,SqL.of (k1 _ _ nRl eR),eu,?_⟩;refine ⟨a0,_,rfl,SqT.of ha0,rfl,_,_,rfl,_,_,rfl,rfl,?_⟩;refine ⟨_,rfl,_,rfl,c,cvs,rfl,.inr (SqT.of hc7),l,cvs.length,rfl,l1,by omega,fun H2 O o k2 l2 nO eO pm=>?_⟩;rw [cal.1] at pm;have CO:=Zqa pm;have nOl:O≠l:=l1.neN nO;refine ⟨_,rfl,l,9,rfl,l2,by decide,Ye (by decide),fun r1 H3 r10 r11 k3 l3=>⟨_,_,rfl,rfl,?_⟩⟩;refine ⟨_,rfl,l,9,rfl,l3,by decide,Ye (by decide),fun r2 H4 r20 r21 k4 l4=>⟨_,_,rfl,rfl,z3_,fun Z nZ=>?_⟩⟩;generalize gG:upd H4 Z (.tup [.ref O,.int (r1-4),.int (r2-4)])=H5;obtain ⟨sZ,eZ⟩:=gen_upd gG nZ;refine ⟨Z,_,rfl,SqT.of eZ,rfl,_,_,rfl,_,_,rfl,_,_,rfl,rfl,?_⟩;refine ⟨_,rfl,l,3,rfl,l4.same sZ,by decide,Ye (by decide),fun r3 H6 r30 r31 k6 l6=>⟨_,_,rfl,rfl,?_⟩⟩;refine ⟨_,rfl,z2_,fun W' nW=>?_⟩;have sW:Same H6 (upd H6 W' (.lst [.int 1,.int (-1)])):=Same.new nW;have eW:upd H6 W' (.lst [.int 1,.int (-1)]) W'=some (.lst [.int 1,.int (-1)]):=Zc;have nWl:W'≠l:=l6.neN nW;generalize upd H6 W' (.lst [.int 1,.int (-1)])=H7 at sW eW ⊢;refine ⟨_,rfl,l,2,rfl,l6.same sW,by decide,Ye (by decide),fun r4 H8 r40 r41 k8 l8=>?_⟩
 have key:∃ Bk:Int,atI [V.int 1,V.int (-1)] r4=some (.int Bk)∧(Bk=1∨Bk = -1):=by
  have hr4:r4=0∨r4=1:=by omega
  rcases hr4 with rfl|rfl
  · exact ⟨1,rfl,.inl rfl⟩
  · exact ⟨-1,rfl,.inr rfl⟩
 obtain ⟨Bk,eB,hBk⟩:=key;refine ⟨W',_,_,_,rfl,rfl,SqL.of (k8 _ _ nWl eW),eB,?_⟩;refine ⟨_,_,rfl,?_⟩;have k28:Keep l H2 H8:=k3.trans (k4.trans (sZ.keep.trans (k6.trans (sW.keep.trans k8))));replace eO:=k28 _ _ nOl eO;have t8:Tk H1 H8:=tkS (k2.trans k28) l1;have kk8:Keep l H H8:=u06.keep.trans (k1.trans (k2.trans k28));clear k1 k2 k3 k4 k6 k8 k28 u1 u2 u3 u4 u5 u6 u05 u06 sZ sW eZ eW;have Wa:(1+r3).natAbs≤1000:=by omega
 have Wk:Bk.natAbs≤1000:=by omega
 have eBB:Bk*(1+r3)=(1+r3)∨Bk*(1+r3) = -(1+r3):=by
  rcases hBk with rfl|rfl
  · exact .inl (Int.one_mul _)
  · exact .inr (by omega)
 have Wd:(Bk*(1+r3)).natAbs≤1000:=by omega
 have hdet:(Aff.mk (1+r3) 0 0 (Bk*(1+r3)) (r1-4) (r2-4)).det≠0:=by
  show (1+r3)*(Bk*(1+r3))-0*0≠0
  rw [Int.zero_mul,Int.sub_zero];exact Int.mul_ne_zero (by omega) (by omega)
 have W:Small (Aff.mk (1+r3) 0 0 (Bk*(1+r3)) (r1-4) (r2-4)):=⟨by show (1+r3).natAbs≤3;omega,by show (0:Int).natAbs≤3;decide,by show (0:Int).natAbs≤3;decide,by show (Bk*(1+r3)).natAbs≤3;omega,by show (r1-4).natAbs≤20;omega,by show (r2-4).natAbs≤20;omega⟩;refine ⟨z2_,fun z nz=>?_⟩;generalize gG:upd H8 z (.tup [.int 0,.int 0])=H9;obtain ⟨s9,e9⟩:=gen_upd gG nz;refine ⟨z1_,fun y ny=>?_⟩;generalize gG:upd H9 y (.lst [.ref z])=H10;obtain ⟨s10,e10⟩:=gen_upd gG ny;have t10:Tk H1 H10:=t8.trans (s9.trans s10).tk;refine ⟨_,rfl,c,cvs,rfl,.inr (SqT.of (t10 _ _ hc7)),y,cvs.length,_,rfl,rfl,e10,by omega,by omega,by simp;rw [sizeLine_eq];omega,fun C nC=>?_⟩;rw [n57_,Zfw];have s11:Same H10 (upd H10 C (.lst (List.replicate cvs.length (.ref z)))):=Same.new nC;have e11:upd H10 C (.lst (List.replicate cvs.length (.ref z))) C=some (.lst (List.replicate cvs.length (.ref z))):=Zc;have nCl:C≠l:=(l8.same (s9.trans s10)).neN nC;generalize upd H10 C (.lst (List.replicate cvs.length (.ref z)))=H11 at s11 e11 ⊢;have s811:=s9.trans (s10.trans s11);have t11:Tk H1 H11:=t8.trans s811.tk;have l11:=l8.same s811;have k11:Keep l H H11:=kk8.trans s811.keep;have eO11:=s811 _ _ eO;have nOC:O≠C:=Zm (s9.trans s10 _ _ eO) nC
 have nC0:H C=none:=by
  cases e:H C with
  | none=>rfl
  | some ob =>
    have:=kk8.trans (s9.trans s10).keep _ _ nCl e
    rw [this] at nC;cases nC
 refine ⟨_,rfl,c,rfl,⟨_,SqT.of (t11 _ _ hc7)⟩,?_⟩;refine Xy (n:=pts.length) (fun i σ H2=>Keep C H11 H2∧(∃ x1 x2 x3,σ=[some (.ref l),some vsq,some vki,some vbo,some vha,some vsk,some (.ref c),some (.ref p),some (.ref O),some (.int (r1-4)),some (.int (r2-4)),some (.int (1+r3)),some (.int Bk),some (.ref C),x1,x2,x3,none,none,none])∧∃ us cs,H2 C=some (.lst us)∧Al (IsP H2) us cs∧cs.length=pts.length∧∀ j:Nat,j<i→cs[(o.getD j 0).toNat]? = some ((Aff.mk (1+r3) 0 0 (Bk*(1+r3)) (r1-4) (r2-4)).at (pts.getD j (0,0)))) ⟨Keep.refl _ _,⟨_,_,_,rfl⟩,_,List.replicate cvs.length (0,0),e11,Zmr ⟨z,rfl,s11 _ _ (s10 _ _ e9)⟩ _,by simp [cal.1],fun j hj=>absurd hj (Nat.not_lt_zero _)⟩ (fun i σ H2 hi p=>?_) (fun σ H2 p=>?_) (fun i x σ H2 H3 hi y p=>?_) (fun σ H2 p=>?_)
 · have t2:Tk H11 H2:=Tk.of_keep p.1 e11;exact ⟨cvs,cvs[i]'(by rw [cal.1];exact hi),SqT.of (t2 _ _ (t11 _ _ hc7)),n1_ _⟩
 · have t2:Tk H11 H2:=Tk.of_keep p.1 e11;exact ⟨cvs,SqT.of (t2 _ _ (t11 _ _ hc7)),cal.1⟩
 · obtain ⟨k2,⟨x1,x2,x3,rfl⟩,us,cs,eC,alc,lc,hc⟩:=p;obtain ⟨g,x,rfl,ng,rfl,y1⟩:=y;have t2:Tk H11 H2:=Tk.of_keep k2 e11;have ex:=y1 cvs (SqT.of (t2 _ _ (t11 _ _ hc7)));obtain ⟨pt,ept,b,rfl,hb⟩:=cal.get ex;have hpt:=Zi9 (B.bd pt (n10_ ept));generalize gG:upd H2 g (.tup [.int i,.ref b])=H3;obtain ⟨sg,eg⟩:=gen_upd gG ng;have hb3:=sg _ _ (t2 _ _ (t11 _ _ hb));refine ⟨g,_,rfl,SqT.of eg,rfl,_,_,rfl,_,_,rfl,⟨b,_,rfl,SqT.of hb3,rfl,_,_,rfl,_,_,rfl,rfl,rfl,?_⟩⟩;refine ⟨_,rfl,_,rfl,_,_,rfl,rfl,mul4 Wa hpt.1,_,rfl,_,_,rfl,rfl,?_⟩;refine ⟨_,rfl,_,rfl,_,_,rfl,rfl,mul4 Wk Wa,_,rfl,_,_,rfl,rfl,mul4 Wd hpt.2,_,rfl,_,_,rfl,rfl,?_⟩;refine ⟨z2_,fun w nw=>?_⟩;generalize hH4:upd H3 w _=H4;have sw:Same H3 H4:=by (rw [← hH4];exact Same.new nw)
   have ew0:=(congrFun hH4 w).symm;rw [Zc] at ew0
   have ew:H4 w=some (.tup [.int ((1+r3)*pt.1+0*pt.2+(r1-4)),.int (0*pt.1+Bk*(1+r3)*pt.2+(r2-4))]):=by
    rw [Int.zero_mul,Int.zero_mul,Int.add_zero,Int.zero_add];exact ew0
   clear ew0 hH4;have s24:=sg.trans sw;have eO4:H4 O=some (.lst (o.map V.int)):=s24 _ _ (k2 _ _ nOC eO11);have bo:=CO.bd i hi;have eC4:=s24 _ _ eC;refine ⟨_,rfl,_,rfl,_,rfl,O,_,(i:Int),_,rfl,rfl,SqL.of eO4,o_at CO (Int.natCast_nonneg i) (Int.ofNat_lt.mpr hi),?_⟩;have ulen:us.length=pts.length:=by rw [alc.1,lc]
   refine ⟨C,us,_,(o.getD i 0).toNat,rfl,rfl,eC4,Zli bo.1 (by rw [ulen];exact bo.2),?_⟩;have tC:Tk H4 (upd H4 C (.lst (us.set (o.getD i 0).toNat (.ref w)))):=Tk.upd_lst eC4;refine ⟨fun b' o' nb e=>?_,⟨_,_,_,rfl⟩,_,cs.set (o.getD i 0).toNat ((Aff.mk (1+r3) 0 0 (Bk*(1+r3)) (r1-4) (r2-4)).at pt),Zc,?_,by simp [lc],fun j hj=>?_⟩
   · rw [Zj nb];exact s24 _ _ (k2 _ _ nb e)
   · exact Zsu (alc.imp fun v x r=>r.tk (s24.tk.trans tC)) _ ⟨w,rfl,tC _ _ ew⟩
   · rw [List.getElem?_set]
     by_cases hji:j=i
     · subst hji;rw [if_pos rfl,if_pos (by rw [lc];omega),n4_ (l:=pts),ept];rfl
     · rw [if_neg (fun z=>hji (CO.inj j i (by omega) hi (by have b2:=CO.bd j (by omega);omega)))];exact hc j (by omega)
 · obtain ⟨k2,⟨x1,x2,x3,rfl⟩,us,cs,eC,alc,lc,hc⟩:=p;have t2:Tk H11 H2:=Tk.of_keep k2 e11;have t12:=t11.trans t2;have eO2:=k2 _ _ nOC eO11
   have l2:StAt H2 l:=by
    obtain ⟨a',b',c',e,r⟩:=l11;exact ⟨a',b',c',k2 _ _ nCl.symm e,r⟩
   have k02:Keep l H H2:=fun b' o' nb e=>k2 _ _ (Zm e nC0) (k11 _ _ nb e);have hp2:=t12 _ _ hp7;refine ⟨_,rfl,p,rfl,⟨_,SqT.of hp2⟩,fun D nD=>?_⟩;refine lc_T (k:=.t) (vs:=pvs) (fun H v pc=>∃ r,IsI H v r∧(r.Perm (pc.map (oAt o))∧r.Pairwise (·≤·))) (fun H1 H2 v x t r=>let ⟨r',i,j⟩:=r;⟨r',i.tk t,j⟩) pcs (by rw [pal.1]) (by rw [pal.1];have:=B.p4;omega) nD hp2 (fun i w H4 C' hw s4 c'=>?_) (fun H4 vs s4 e4 a4=>?_)
   · obtain ⟨pc,epc,b,rfl,hb⟩:=pal.get hw;have hb4:=s4 _ _ (t12 _ _ hb);obtain ⟨i1,j1,k1,rfl,bi,bj,bk,_⟩:=Znc (B.pc _ (n10_ epc));refine ⟨_,rfl,b,rfl,⟨_,SqT.of hb4⟩,fun E nE=>?_⟩;refine lc_T (k:=.t) (vs:=[i1,j1,k1].map V.int) RI hRI ([i1,j1,k1].map (oAt o)) (by simp) (by simp) nE hb4 (fun n x H6 C6 hx s6 c6=>?_) (fun H6 us6 s6 e6 a6=>?_)
     · rw [n6_] at hx;obtain ⟨y,ey,rfl⟩:=n16_.mp hx
       have by':0≤y∧y<(pts.length:Int):=by
        have:=n10_ ey
        simp only [n12_,n13_,or_false] at this
        rcases this with rfl|rfl|rfl<;>assumption
       exact ⟨_,rfl,_,rfl,O,_,y,_,rfl,rfl,SqL.of (s6 _ _ (s4 _ _ eO2)),o_at CO by'.1 by'.2,c6 _ _ _ (Same.refl _) (by rw [n6_,ey];rfl) rfl⟩
     · rw [a6.ints] at e6;refine ⟨E,_,rfl,SqL.of e6,by simp,fun L ns' nL pm' so'=>?_⟩;have s7:Same H6 (upd H6 L (.lst (ns'.map V.int))):=Same.new nL;have e7:upd H6 L (.lst (ns'.map V.int)) L=some (.lst (ns'.map V.int)):=Zc;generalize upd H6 L (.lst (ns'.map V.int))=H7' at s7 e7 ⊢;refine ⟨L,_,rfl,.inl ⟨SqL.of e7,fun T' nT=>?_⟩⟩;exact c' _ _ [i1,j1,k1] (s6.trans (s7.trans (Same.new nT))) epc ⟨ns',⟨T',rfl,Zc⟩,pm',so'⟩
   · obtain ⟨kl,klen,kal,kT⟩:=Zhw a4;have DR:∀ q:List Nat,q.Perm (List.range pcs.length)→Drawn pts pcs (Aff.mk (1+r3) 0 0 (Bk*(1+r3)) (r1-4) (r2-4)) o cs kl q:=fun q hq=>⟨B,hdet,W,CO,lc,hc,klen,fun i hi=>kT i hi,hq⟩;have D0:=DR _ (List.Perm.refl _);have p4:=B.p4;refine ⟨D,vs,kl,3,rfl,SqL.of e4,kal.1,fun i v hv=>?_,D0.knd,by rw [klen];omega,fun k hk=>?_,by decide,fun L q nL qp rise=>?_⟩
     · obtain ⟨k,ek,b,rfl,hb⟩:=kal.get hv;exact ⟨b,k,rfl,ek,SqT.of hb⟩
     · obtain ⟨n,hn,rfl⟩:=n37_ hk;rw [klen] at hn;obtain ⟨_,_,_,x,y,z,_,e,_⟩:=D0.piece hn
       have:kl[n]=[x,y,z]:=by rw [← e,n4_,n1_ (by rw [klen];exact hn)];rfl
       rw [this];rfl
     · rw [klen] at qp;have D1:=DR q qp;have s5:Same H4 (upd H4 L (.lst (q.map fun i=>vs.getD i .non))):=Same.new nL;have e5:upd H4 L (.lst (q.map fun i=>vs.getD i .non)) L=some (.lst (q.map fun i=>vs.getD i .non)):=Zc;have nLl:L≠l:=(l2.same s4).neN nL;generalize upd H4 L (.lst (q.map fun i=>vs.getD i .non))=H5 at s5 e5 ⊢;have s25:=s4.trans s5;have l5:=l2.same s25;have k05:=k02.trans s25.keep;have qlen:q.length=pcs.length:=by rw [qp.length_eq,n73_]
       refine ⟨_,rfl,l,3,rfl,l5,by decide,Ye (by decide),fun rmu H5m rmu0 rmu1 kmu lmu=>⟨_,_,rfl,rfl,?_⟩⟩;have l5o:=l5;have t25m:=s25.tk.trans (tkS kmu l5);have eC5m:=kmu _ _ nCl (s25 _ _ eC);have t45m:=s5.tk.trans (tkS kmu l5);replace e5:=kmu _ _ nLl e5;replace k05:=k05.trans kmu;replace l5:=lmu;refine ⟨_,rfl,L,rfl,⟨_,SqL.of e5⟩,fun E nE=>?_⟩;refine Zmg (n:=pcs.length) (l:=l) (fun H v (x:Int)=>v=.int x∧1≤x∧x≤9) (fun _ _ _ _ _ r=>r) (by omega) (fun σ=>∃ u,σ=[u,some (.int (1+rmu)),some (.ref l)]) ⟨_,rfl⟩ nE l5 (fun i H6 k6 hi=>⟨_,_,SqL.of (k6 _ _ nLl e5),n1_ (by simp [qlen];exact hi)⟩) (fun H6 k6=>⟨_,SqL.of (k6 _ _ nLl e5),by simp [qlen]⟩) (fun i x σ2 H6 H7' C' hi k6 l6 y o' c'=>?_) (fun H6 ts ys k6 l6 e6 hy a6=>?_)
       · obtain ⟨u,rfl⟩:=o';obtain ⟨rfl,y2⟩:=y;refine ⟨_,rfl,_,rfl,l,6,rfl,l6,by decide,Ye (by decide),fun r9 H9' r90 r91 k9 l9=>?_⟩;refine ⟨rfl,.inr ⟨_,rfl,_,_,rfl,rfl,?_⟩⟩;refine c' _ _ _ (1+rmu+(if decide (V.int r9=V.int 0)=true then 1 else 0)) ⟨_,rfl⟩ k9 l9 ⟨rfl,?_,?_⟩<;>(split<;>omega)
       · have ets:ts=ys.map V.int:=by
          refine (Al.ints (ns:=ys) ?_);exact a6.imp fun v x r=>r.1
         refine ⟨E,ts,rfl,.inl ⟨SqL.of e6,fun T' nT=>?_⟩⟩;have s7:Same H6 (upd H6 T' (.tup ts)):=Same.new nT;have e7:upd H6 T' (.tup ts) T'=some (.tup (ys.map V.int)):=by rw [Zc,ets]
         generalize upd H6 T' (.tup ts)=H7' at s7 e7 ⊢;have t57:Tk H5m H7':=(tkS k6 l5).trans s7.tk;have t27:Tk H2 H7':=t25m.trans t57;have k07:=k05.trans (k6.trans s7.keep);have l7':=l6.same s7;have nDl:C≠l:=nCl;have eC7:H7' C=some (.lst us):=s7 _ _ (k6 _ _ nCl eC5m);have eL7:H7' L=some (.lst (q.map fun i=>vs.getD i .non)):=s7 _ _ (k6 _ _ nLl e5);refine ⟨_,rfl,C,us,rfl,.inl ⟨SqL.of eC7,fun T1 n1=>?_⟩⟩;generalize gG:upd H7' T1 (.tup us)=G1;obtain ⟨u1,f1⟩:=gen_upd gG n1;refine ⟨_,rfl,L,_,rfl,.inl ⟨SqL.of (u1 _ _ eL7),fun T2 n2=>?_⟩⟩;generalize gG:upd G1 T2 (.tup (q.map fun i=>vs.getD i .non))=G2;obtain ⟨u2,f2⟩:=gen_upd gG n2;have u02:=u1.trans u2;refine ⟨_,rfl,_,rfl,l,10,rfl,l7'.same u02,by decide,Ye (by decide),fun rl G3 rl0 rl1 k3' l3'=>?_⟩;refine ⟨_,rfl,l,9,rfl,l3',by decide,Ye (by decide),fun rm G4 rm0 rm1 k4' l4'=>⟨_,_,rfl,rfl,z2_,fun T4 n4=>?_⟩⟩;generalize gG:upd G4 T4 (.tup [.int rl,.int (1+rm)])=G5;obtain ⟨u5,f5⟩:=gen_upd gG n4;refine ⟨z4_,fun T5 n5=>?_⟩;have u6:Same G5 (upd G5 T5 (.tup [.ref T1,.ref T2,.ref T',.ref T4])):=Same.new n5;have w24:Tk G2 G4:=(tkS k3' (l7'.same u02)).trans (tkS k4' l3');have w26:Tk G2 (upd G5 T5 (.tup [.ref T1,.ref T2,.ref T',.ref T4])):=w24.trans (u5.trans u6).tk;have w76:=u02.tk.trans w26;refine q' _ _ ⟨cs,q.map fun i=>kl.getD i [],ys,rl,1+rm⟩ (k07.trans (u02.keep.trans (k3'.trans (k4'.trans (u5.trans u6).keep)))) (l4'.same (u5.trans u6)) ⟨T5,_,_,_,_,rfl,Zc,⟨T1,us,rfl,w26 _ _ (u2 _ _ f1),alc.imp fun v x r=>r.tk (t27.trans w76)⟩,⟨T2,_,rfl,w26 _ _ f2,?_⟩,⟨T',rfl,w76 _ _ e7⟩,⟨T4,rfl,u6 _ _ f5⟩⟩ (D1.ok rise (by rw [hy]) (fun t ht=>?_) ⟨rl0,by omega⟩ ⟨by omega,by omega⟩) (show (q.map fun i=>kl.getD i []).length≤4 by rw [n5_,qlen];exact p4)
         · refine (Zs3 kal (q:=q) fun i hi=>?_).imp fun v x r=>r.tk (t45m.trans (t57.trans w76));rw [klen];exact n34_.mp (qp.mem_iff.mp hi)
         · obtain ⟨i,hi,e⟩:=n37_ ht;obtain ⟨v,_,r⟩:=a6.got (show ys[i]? = some t by rw [n1_ hi,e]);exact r.2
abbrev Xu:Stmt:=top 51
theorem Zcn (F:Fun K "_law_matrices" "_law_matrices" Xu f fd):FnOk P w K mg base CX0 1 f fd [] Znk:=by
 have sc:FnScope ["_law_found","_law_one"] [] (Zf Xu):=fsc (by decide +kernel);refine F.ok sc fun cdv A outer s H vs Q E hr h=>?_;obtain ⟨rfl,q⟩:=h;have nd:=sc.nd;refine' ⟨_,?term,?read⟩
 case term=>refine' @Ze _ _ _ _ _ (Zt (i:=0) nd rfl (Or.inl rfl) (Yy Zb)) (Ze (X9 PassesOwn.never rfl (Yz (Yy (Za Zd (Za (Zco Zap Zd) Zb rfl) rfl))) (Zl (i:=1) nd rfl (Or.inl rfl)) (Zh (Zt (i:=0) nd rfl (Or.inl rfl) (Zp Zds (pv 0) (Yy (Za (Zo (Za (pv 1) (Za Zd (Za Zd (Za Zd Zb rfl) rfl) rfl) rfl)) (Za (Zo (Za (pv 1) (Za Zd (Za Zd (Za (Zco Zap Zd) Zb rfl) rfl) rfl) rfl)) (Za (Zo (Za Zd (Za (pv 1) (Za Zd (Za Zd Zb rfl) rfl) rfl) rfl)) (Za (Zo (Za Zd (Za (pv 1) (Za (Zco Zap Zd) (Za Zd Zb rfl) rfl) rfl) rfl)) Zb rfl) rfl) rfl) rfl)))))) (Zh (Zn (Zi Xl rfl T.b_sorted Yw (Za (pv 0) Zb rfl)))))
 refine ⟨z0_,fun fl nf=>?_⟩;generalize gG:upd H fl (.lst [])=H1;obtain ⟨s1,h1⟩:=gen_upd gG nf;refine ⟨_,rfl,z2_,fun O nO=>?_⟩;generalize gG:upd H1 O (.lst [.int 1,.int (-1)])=H2;obtain ⟨s2,h2⟩:=gen_upd gG nO;refine ⟨O,rfl,⟨_,SqL.of h2⟩,?_⟩;refine Xy (n:=2) (fun i σ H'=>∃ (fl:Addr) (w:Option V) (us:List V),σ=[some (.ref fl),w]∧Same H2 H'∧H' fl=some (.lst us)∧Al (IsI H') us (MRAW.take (4*i))) ⟨_,_,[],rfl,Same.refl _,s2 _ _ h1,⟨rfl,fun i v x e _=>by simp at e⟩⟩ (fun i σ H' hi p=>?_) (fun σ H' p=>?_) (fun i x σ H3 H4 hi y p=>?_) (fun σ H3 p=>?_)
 · obtain ⟨_,_,_,_,s3,_⟩:=p;exact ⟨_,[V.int 1,V.int (-1)][i]'hi,SqL.of (s3 _ _ h2),n1_ hi⟩
 · obtain ⟨_,_,_,_,s3,_⟩:=p;exact ⟨_,SqL.of (s3 _ _ h2),n7_ _⟩
 · obtain ⟨fl,w,us,rfl,s3,h3,a3⟩:=p;obtain ⟨rfl,yx⟩:=y;have ex:=yx _ (SqL.of (s3 _ _ h2))
   have key:∃ z:Int,x=.int z∧MRAW.take (4*(i+1))=MRAW.take (4*i)++[[z,0,0,1],[z,0,0,-1],[0,z,1,0],[0,z,-1,0]]∧(MRAW.take (4*i)).length≤8:=by
    have hi':i=0∨i=1:=by omega
    rcases hi' with rfl|rfl
    · cases ex;exact ⟨1,rfl,rfl,by decide⟩
    · cases ex;exact ⟨-1,rfl,rfl,by decide⟩
   obtain ⟨z,rfl,ez,lz⟩:=key;refine ⟨_,rfl,_,rfl,z4_,fun p1 n1=>?_⟩;generalize gG:upd H4 p1 (.tup [.int z,.int 0,.int 0,.int 1])=G1;obtain ⟨u1,f1⟩:=gen_upd gG n1;refine ⟨_,rfl,_,rfl,z4_,fun p2 n2=>?_⟩;generalize gG:upd G1 p2 (.tup [.int z,.int 0,.int 0,.int (-1)])=G2;obtain ⟨u2,f2⟩:=gen_upd gG n2;refine ⟨_,rfl,z4_,fun p3 n3=>?_⟩;generalize gG:upd G2 p3 (.tup [.int 0,.int z,.int 1,.int 0])=G3;obtain ⟨u3,f3⟩:=gen_upd gG n3;refine ⟨_,rfl,_,rfl,z4_,fun p4 n4=>?_⟩;generalize gG:upd G3 p4 (.tup [.int 0,.int z,.int (-1),.int 0])=G4;obtain ⟨u4,f4⟩:=gen_upd gG n4;refine ⟨z4_,fun L nL=>?_⟩;generalize gG:upd G4 L (.lst [.ref p1,.ref p2,.ref p3,.ref p4])=G5;obtain ⟨u5,f5⟩:=gen_upd gG nL;have u05:=u1.trans (u2.trans (u3.trans (u4.trans u5)));have ul:=a3.1;refine ⟨fl,L,us,_,rfl,rfl,u05 _ _ h3,f5,(by show us.length+4≤1000;omega),fun p5 n5=>?_⟩;have u6:Same G5 (upd G5 p5 (.lst (us++[.ref p1,.ref p2,.ref p3,.ref p4]))):=Same.new n5;refine ⟨p5,_,us++[.ref p1,.ref p2,.ref p3,.ref p4],rfl,s3.trans (u05.trans u6),Zc,?_⟩;rw [ez]
   have a5:Al (IsI (upd G5 p5 (.lst (us++[.ref p1,.ref p2,.ref p3,.ref p4])))) [.ref p1,.ref p2,.ref p3,.ref p4] [[z,0,0,1],[z,0,0,-1],[0,z,1,0],[0,z,-1,0]] :=
    .cons ⟨p1,rfl,u6 _ _ (u5 _ _ (u4 _ _ (u3 _ _ (u2 _ _ f1))))⟩ (.cons ⟨p2,rfl,u6 _ _ (u5 _ _ (u4 _ _ (u3 _ _ f2)))⟩ (.cons ⟨p3,rfl,u6 _ _ (u5 _ _ (u4 _ _ f3))⟩ (.cons ⟨p4,rfl,u6 _ _ (u5 _ _ f4)⟩ .nil)))
   exact Zuu (a3.imp fun v x r=>r.tk (u05.trans u6).tk) a5
 · obtain ⟨fl,w,us,rfl,s3,h3,a3⟩:=p;replace a3:Al (IsI H3) us MRAW:=a3;refine ⟨_,rfl,fl,us,MRAW,4,rfl,SqL.of h3,a3.1,Zdq a3,Zrh,by decide,by decide,by decide,fun l q' nl pm pw=>?_⟩;have s4:Same H3 (upd H3 l (.lst (q'.map fun i=>us.getD i .non))):=Same.new nl;refine q _ l _ ((s1.trans s2).trans (s3.trans s4)) Zc ?_;have eq:MSRT=q'.map fun i=>MRAW.getD i []:=Zjh (m:=4) (by decide) (Zod.trans (Zgs pm).symm) Zq1 pw;rw [eq];exact (al_q a3 fun i hi=>n34_.mp (pm.mem_iff.mp hi)).imp fun v x r=>r.tk s4.tk
abbrev Yh:Stmt:=top 52
theorem Zcs (F:Fun K "_law_order_by" "_law_order_by" Yh f fd):FnOk P w K mg base CX0 1 f fd ["_law_points","_law_matrix"] Zhb:=by
 have sc:FnScope ["_law_points","_law_matrix","_law_a","_law_b","_law_c","_law_d","_law_sent","_law_x","_law_y","_law_s","_law_t","_law_moved"] ["_law_points","_law_matrix"] (Zf Yh):=fsc (by decide +kernel);refine F.ok sc fun cdv A outer s H vs Q E hr h=>?_;obtain ⟨pa,ma,pus,cs,M,rfl,hpa,al,c0,c30,nr,ndup,hma,hM,q⟩:=h;have nd:=sc.nd;refine' ⟨_,?term,?read⟩
 case term=>refine' @Ze _ _ _ _ _ (Xo (pv 1) (Yg (n:=4) rfl (Zg (Zl (i:=2) nd rfl (Or.inr rfl)) (Zg (Zl (i:=3) nd rfl (Or.inr rfl)) (Zg (Zl (i:=4) nd rfl (Or.inr rfl)) (Zg (Zl (i:=5) nd rfl (Or.inr rfl)) Zz)))))) ?g1;case g1=>refine' @Ze _ _ _ _ _ (Zee (g:=(gTup K 2 (Y6 (Yr 0) (Y6 (Yr 1) gNil)))) (N:=["_law_x","_law_y","_law_a","_law_b","_law_c","_law_d"]) (fr:=[none,none,some 2,some 3,some 4,some 5]) rfl rfl (Zl (i:=6) nd rfl (Or.inl rfl)) (Z4 (XN:=["_law_points","_law_matrix","_law_a","_law_b","_law_c","_law_d","_law_sent","_law_x","_law_y","_law_s","_law_t","_law_moved"]) (Scope.names (Zf Yh)) rfl rfl rfl (fun _ h=>Zx h) (by decide +kernel) rfl) (Yz (pv 0)) (fun _ _ _ _=>Yg (n:=2) rfl (Zg (pgB 0) (Zg (pgB 1) Zz))) (fun _ _ _ _=>Zs) (fun _ _ _ _=>Zo (Za (Zp Yd (Zp Z6 (pv 2) (pv 0)) (Zp Z6 (pv 3) (pv 1))) (Za (Zp Yd (Zp Z6 (pv 4) (pv 0)) (Zp Z6 (pv 5) (pv 1))) Zb rfl) rfl))) ?g2;case g2=>refine' @Ze _ _ _ _ _ ?g3 (Zh (Zn Zjb));case g3=>refine' @X9 _ _ _ _ _ _ _ _ PassesOwn.never rfl (Yz (pv 0)) (Yg (n:=2) rfl (Zg (Zl (i:=7) nd rfl (Or.inl rfl)) (Zg (Zl (i:=8) nd rfl (Or.inl rfl)) Zz))) ?g4 (by intro _ ;rfl);case g4=>refine' @Ze _ _ _ _ _ ?g5 ?g6;(case g5=>refine' @Xo _ _ _ _ _ _ ?g7 (Yg (n:=2) rfl (Zg (Zl (i:=9) nd rfl (Or.inr rfl)) (Zg (Zl (i:=10) nd rfl (Or.inr rfl)) Zz))) (by rfl) (by rfl) (by rfl);case g7=>refine' @Zo _ _ _ _ _ ?g8;case g8=>refine' @Za _ _ _ _ _ ?g9 ?ga rfl;(case g9=>refine' @Zp _ _ _ _ _ _ _ _ Xd (pv 7) ?gb;case gb=>refine' @Zv _ _ _ _ _ _ _ Z3 (Zv Z9 (pv 6) Zd (fun _ _=>rfl)) Zd (fun _ _=>rfl));case ga=>refine' @Za _ _ _ _ _ ?gc Zb rfl;case gc=>refine' @Zp _ _ _ _ _ _ _ _ Xd (pv 8) ?gd;case gd=>refine' @Zv _ _ _ _ _ _ _ Z3 (Zv Z9 (pv 6) Zd (fun _ _=>rfl)) Zd (fun _ _=>rfl));case g6=>refine' @Ze _ _ _ _ _ (Zee (g:=(gTup K 2 (Y6 (Yr 0) (Y6 (Yr 1) gNil)))) (N:=["_law_u","_law_v","_law_s","_law_t"]) (fr:=[none,none,some 9,some 10]) rfl rfl (Zl (i:=11) nd rfl (Or.inl rfl)) (Z4 (XN:=["_law_points","_law_matrix","_law_a","_law_b","_law_c","_law_d","_law_sent","_law_x","_law_y","_law_s","_law_t","_law_moved"]) (Scope.names (Zf Yh)) rfl rfl rfl (fun _ h=>Zx h) (by decide +kernel) rfl) (Yz (pv 6)) (fun _ _ _ _=>Yg (n:=2) rfl (Zg (pgB 0) (Zg (pgB 1) Zz))) (fun _ _ _ _=>Zs) (fun _ _ _ _=>Zo (Za (Zp Yd (pv 0) (pv 2)) (Za (Zp Yd (pv 1) (pv 3)) Zb rfl) rfl))) (Zh (Xg (Yl (Zmu Zqn (Zgx hr)) (Zi Xl rfl T.b_sorted Yw (Za (pv 11) Zb rfl)) (Zi Xl rfl T.b_sorted Yw (Za (pv 0) Zb rfl)) (Yn _)) (Zh (Zn (Zu Zw rfl T.b_tuple Z5 (Za (Xh (N:=["_law_one","_law_points"]) (fr:=[none,some 0]) rfl (Z4 (XN:=["_law_points","_law_matrix","_law_a","_law_b","_law_c","_law_d","_law_sent","_law_x","_law_y","_law_s","_law_t","_law_moved"]) (Scope.names (Zf Yh)) rfl rfl rfl (fun _ h=>Zx h) (by decide +kernel) rfl) (Yz (pv 11)) (fun _ _ _ _=>pgB 0) (fun _ _ _ _=>Zs) (fun _ _ _ _=>Zsw K rfl (Zfc PySem.F.plainAttrs_list PySem.F.slot_list_index PySem.F.type_list_index (Znu Zqn Zrp (by exact Zgx hr)) (pv 1) (Za (pv 0) Zb rfl)))) Zb rfl)))) Z1))
 obtain ⟨hM4,mB⟩:=Zmp M hM;obtain ⟨m0,m1,m2,m3,rfl⟩:=len4 hM4;have lcv:=al.1;have b0:m0.natAbs≤1000:=n33_ (mB m0 (by simp)) (by decide);have b1:m1.natAbs≤1000:=n33_ (mB m1 (by simp)) (by decide);have b2:m2.natAbs≤1000:=n33_ (mB m2 (by simp)) (by decide);have b3:m3.natAbs≤1000:=n33_ (mB m3 (by simp)) (by decide);refine ⟨_,rfl,ma,_,rfl,SqT.of hma,rfl,_,_,rfl,_,_,rfl,_,_,rfl,_,_,rfl,rfl,?_⟩;refine ⟨_,rfl,pa,rfl,⟨_,SqL.of hpa⟩,fun D nD=>?_⟩;refine Zmi (k:=.l) (vs:=pus) IsP hRP (cs.map (img [m0,m1,m2,m3])) (by rw [n5_];omega) (by omega) nD hpa (fun i w hw=>?_) (fun i p x y H2 C hv hp s2 c=>?_) (fun H2 us s2 e2 a2=>?_)
 · obtain ⟨g,eg,b,rfl,hb⟩:=al.get hw;exact ⟨b,_,_,rfl,hb⟩
 · obtain ⟨g,eg,b,e,hb⟩:=al.get hv;cases e
   rw [hp] at hb;cases hb
   obtain ⟨⟨g1,g2⟩,g3,g4⟩:=nr g (n10_ eg);have x3:g.1.natAbs≤1000:=by omega
   have y3:g.2.natAbs≤1000:=by omega
   refine ⟨_,rfl,_,rfl,_,_,rfl,rfl,mul3 b0 x3,_,rfl,_,rfl,_,_,rfl,rfl,mul3 b1 y3,_,_,rfl,rfl,?_⟩;refine ⟨_,rfl,_,rfl,_,_,rfl,rfl,mul3 b2 x3,_,rfl,_,rfl,_,_,rfl,rfl,mul3 b3 y3,_,_,rfl,rfl,z2_,fun p2 n2=>?_⟩;exact c _ _ (img [m0,m1,m2,m3] g) (Same.new n2) (by rw [n6_,eg];rfl) ⟨p2,rfl,Zc⟩
 have hpa2:=s2 _ _ hpa;have al2:Al (IsP H2) pus cs:=al.imp fun v x r=>r.tk s2.tk;generalize hMe:[m0,m1,m2,m3]=M at *;obtain ⟨v0,ev0,a0,rfl,h0⟩:=a2.got (show (cs.map (img M))[0]? = some (img M (cs.getD 0 (0,0))) by rw [n6_,n4_,n1_ c0];rfl);have at0:atI us 0=some (.ref a0):=Xz ev0;refine ⟨_,rfl,pa,rfl,⟨_,SqL.of hpa2⟩,?_⟩;refine Xy (n:=pus.length) (fun i σ H'=>∃ w1 w2 w3 w4 w5:Option V,σ=[some (.ref pa),some (.ref ma),some (.int m0),some (.int m1),some (.int m2),some (.int m3),some (.ref D),w1,w2,w3,w4,w5]∧Same H2 H'∧∀ j p,j<i→cs[j]? = some p→¬ (mvd cs M (shi cs M p)).Perm cs) ⟨_,_,_,_,_,rfl,Same.refl _,fun j p h=>absurd h (by omega)⟩ (fun i σ H' hi p=>?_) (fun σ H' p=>?_) (fun i x σ H3 H4 hi y p=>?_) (fun σ H3 p=>?_)
 · obtain ⟨_,_,_,_,_,_,s3,_⟩:=p;exact ⟨_,pus[i],SqL.of (s3 _ _ hpa2),n1_ hi⟩
 · obtain ⟨_,_,_,_,_,_,s3,_⟩:=p;exact ⟨_,SqL.of (s3 _ _ hpa2),n7_ _⟩
 · obtain ⟨w1,w2,w3,w4,w5,rfl,s3,no⟩:=p;obtain ⟨rfl,yx⟩:=y;have ex:=yx _ (SqL.of (s3 _ _ hpa2));obtain ⟨p,ep,b,rfl,hb⟩:=al2.get ex;refine ⟨b,_,rfl,SqT.of (s3 _ _ hb),rfl,_,_,rfl,_,_,rfl,rfl,?_⟩;have e23:=s3 _ _ e2;have h03:=s3 _ _ h0;refine ⟨_,rfl,_,rfl,D,us,0,_,rfl,rfl,SqL.of e23,at0,a0,_,0,_,rfl,rfl,SqT.of h03,rfl,_,_,rfl,rfl,?_⟩;refine ⟨_,rfl,_,rfl,D,us,0,_,rfl,rfl,SqL.of e23,at0,a0,_,1,_,rfl,rfl,SqT.of h03,rfl,_,_,rfl,rfl,z2_,fun Z nZ=>?_⟩;have s4:Same H4 (upd H4 Z (.tup [.int (p.1-(img M (cs.getD 0 (0,0))).1),.int (p.2-(img M (cs.getD 0 (0,0))).2)])):=Same.new nZ;refine ⟨Z,_,rfl,SqT.of Zc,rfl,_,_,rfl,_,_,rfl,rfl,?_⟩;generalize upd H4 Z (.tup [.int (p.1-(img M (cs.getD 0 (0,0))).1),.int (p.2-(img M (cs.getD 0 (0,0))).2)])=H5 at s4 ⊢;have s25:=s3.trans s4;have e25:=s25 _ _ e2;have a5:Al (IsP H5) us (cs.map (img M)):=a2.imp fun v x r=>r.tk s25.tk;refine ⟨_,rfl,D,rfl,⟨_,SqL.of e25⟩,fun Dm nDm=>?_⟩;refine Zmi (k:=.l) (vs:=us) IsP hRP (mvd cs M (shi cs M p)) (by rw [Zip,a2.1,n5_]) (by rw [a2.1,n5_];omega) nDm e25 (fun i w hw=>?_) (fun i p' x y H6 C hv hp s6 c=>?_) (fun H6 usm s6 e6 a6=>?_)
   · obtain ⟨g,eg,b,rfl,hb⟩:=a5.get hw;exact ⟨b,_,_,rfl,hb⟩
   · obtain ⟨g,eg,b,e,hb⟩:=a5.get hv;cases e
     rw [hp] at hb;cases hb
     refine ⟨_,rfl,_,rfl,_,_,rfl,rfl,_,rfl,_,rfl,_,_,rfl,rfl,z2_,fun p2 n2=>?_⟩;exact c _ _ (mv (shi cs M p) g) (Same.new n2) (by unfold mvd;rw [n6_,eg];rfl) ⟨p2,rfl,Zc⟩
   have s26:=s25.trans s6;have hpa6:=s26 _ _ hpa2;have al6:Al (IsP H6) pus cs:=al2.imp fun v x r=>r.tk s26.tk;refine ⟨_,rfl,Dm,usm,(mvd cs M (shi cs M p)).map pl,2,rfl,SqL.of e6,(alPI a6).1,Zdq (alPI a6),Ztw (Zp2 ndup hM),by rw [n5_,Zip];omega,Zjt _,by decide,fun l1 q1 n1 pm1 pw1=>?_⟩;generalize gG:upd H6 l1 (.lst (q1.map fun i=>usm.getD i .non))=H7;obtain ⟨s7,h7⟩:=gen_upd gG n1;have al7:Al (IsP H7) pus cs:=al6.imp fun v x r=>r.tk s7.tk;refine ⟨_,rfl,pa,pus,cs.map pl,2,rfl,SqL.of (s7 _ _ hpa6),(alPI al7).1,Zdq (alPI al7),Ztw ndup,by rw [n5_];omega,Zjt _,by decide,fun l2 q2 n2 pm2 pw2=>?_⟩;generalize gG:upd H7 l2 (.lst (q2.map fun i=>pus.getD i .non))=H8;obtain ⟨s8,h8⟩:=gen_upd gG n2;have r1:Al (IsI H8) (q1.map fun i=>usm.getD i .non) (q1.map fun i=>((mvd cs M (shi cs M p)).map pl).getD i []):=(al_q (alPI a6) fun i hi=>n34_.mp (pm1.mem_iff.mp hi)).imp fun v x r=>r.tk (s7.trans s8).tk;have r2:Al (IsI H8) (q2.map fun i=>pus.getD i .non) (q2.map fun i=>(cs.map pl).getD i []):=(al_q (alPI al7) fun i hi=>n34_.mp (pm2.mem_iff.mp hi)).imp fun v x r=>r.tk s8.tk;have iff:=Znb (Zgs pm1) (Zgs pm2) pw1 pw2;refine ⟨l1,l2,_,_,_,_,rfl,rfl,s8 _ _ h7,h8,r1,r2,_,rfl,?_⟩;have s28:=s26.trans (s7.trans s8);refine ite2 (fun h=>?_) (fun h=>?_)
   · have pm:(mvd cs M (shi cs M p)).Perm cs:=iff.mp (by simpa using h);obtain ⟨fe,fi⟩:=some_of c0 ndup hM pm;have e8:=s8 _ _ (s7 _ _ e6);have a8:Al (IsP H8) usm (mvd cs M (shi cs M p)):=a6.imp fun v x r=>r.tk (s7.trans s8).tk;refine ⟨_,rfl,Dm,rfl,⟨_,SqL.of e8⟩,fun R nR=>?_⟩;refine lc_T (k:=.l) (vs:=usm) (fun _ v (j:Nat)=>v=.int j) (fun _ _ _ _ _ e=>e) ((mvd cs M (shi cs M p)).map fun q=>(Xe cs q).getD 0) (by rw [n5_];exact a6.1.symm) (by rw [a6.1,Zip];omega) nR e8 (fun i w H9 C hw s9 c=>?_) (fun H9 us9 s9 e9 a9=>?_)
     · obtain ⟨g,eg,rg⟩:=a8.get hw;obtain ⟨j,ej,cj,fj⟩:=fi g (n10_ eg);have hpa9:=s9 _ _ (s28 _ _ hpa2);have al9:Al (IsI H9) pus (cs.map pl):=alPI (al2.imp fun v x r=>r.tk (s28.trans s9).tk);refine ⟨_,rfl,.inl ⟨rfl,_,SqL.of hpa9⟩,_,rfl,pa,pus,cs.map pl,w,pl g,j,rfl,rfl,hpa9,al9,rg.tk s9.tk,by rw [n6_,cj];rfl,fun m hm z=>?_,by rw [n5_];omega,c _ _ j (Same.refl _) (by rw [n6_,eg];exact congrArg (fun o:Option Nat=>some (o.getD 0)) ej) rfl⟩;rw [n6_] at z;obtain ⟨g',eg',z⟩:=n16_.mp z;exact fj m hm (by rw [eg',Zms z])
     · refine ⟨R,us9,rfl,.inl ⟨SqL.of e9,fun t nt=>?_⟩⟩;refine q _ _ ((s2.trans (s28.trans s9)).trans (Same.new nt)) ?_;rw [fe];exact ⟨t,rfl,by rw [Zc,Zd3 a9]⟩
   · refine ⟨_,_,_,_,_,rfl,s28,fun j p' hj e'=>?_⟩
     by_cases hji:j=i
     · subst hji;rw [ep] at e';cases e'
       exact fun z=>h (by simpa using iff.mpr z)
     · exact no j p' (by omega) e'
 · obtain ⟨w1,w2,w3,w4,w5,rfl,s3,no⟩:=p;refine q _ _ (s2.trans s3) ?_;rw [Zr4 c0 ndup hM fun p hp=>?_]
   · rfl
   · obtain ⟨j,hj,e⟩:=n37_ hp;exact no j p (by omega) (by rw [n1_ hj,e])
abbrev Yj:Stmt:=top 53
theorem Zcq (F:Fun K "_law_turnings" "_law_turnings" Yj f fd) (Ce_:a35_ P w K mg base) (Co_:a36_ P w K mg base):FnOk P w K mg base CX0 2 f fd ["_law_plate_here"] Zj4:=by
 have sc:FnScope ["_law_plate_here","_law_found","_law_points","_law_thicks","_law_matrix","_law_order_here","_law_sent"] ["_law_plate_here"] (Zf Yj):=fsc (by decide +kernel);refine F.ok sc fun cdv A outer s H vs Q E hr h=>?_;obtain ⟨v,P',rfl,hP,ok,q⟩:=h;have nd:=sc.nd;have hu:=Zk9 hr;refine' ⟨_,?term,?read⟩
 case term=>refine' @Ze _ _ _ _ _ (Zi5 rfl nd (i:=1) (j:=2) rfl rfl (by decide) rfl rfl (Za (Yy Zb) (Za (Zu Za8 rfl T.b_list Zc7 (Za (Zv Z3 (pv 0) Zd (fun _ _=>rfl)) Zb rfl)) Zb rfl) rfl) rfl) ?g1;case g1=>refine' @Ze _ _ _ _ _ ?g2 ?g3;(case g2=>refine' @Zt _ _ (3) _ _ _ _ nd rfl (Or.inr rfl) ?g4 (by rfl) (by first|exact Or.inl rfl|exact Or.inr rfl|assumption);case g4=>refine' @Zu _ _ _ _ _ _ _ _ _ (Zko rfl (Zqd hr)) rfl T.b_dict Zr2 ?g5 (by decide) (by decide) (by rfl) (by rfl);case g5=>refine' @Za _ _ _ _ _ (Zsj .t .t rfl rfl T.b_list rfl T.b_zip (Za (Zv Z3 (pv 0) Zd (fun _ _=>rfl)) (Za (Zv Z3 (pv 0) Zd (fun _ _=>rfl)) Zb rfl) rfl)) Zb rfl);case g3=>refine' @Ze _ _ _ _ _ ?g6 (Zh (Zn (Zi (Zcj (hu3n hr)) rfl T.b_sorted Yw (Za (pv 1) Zb rfl))));case g6=>refine' @X9 _ _ _ _ _ _ _ _ PassesOwn.never rfl (Yz (Zic Ce_ hr (by decide) rfl)) (Zl (i:=4) nd rfl (Or.inl rfl)) ?g7 (by intro _ ;rfl);case g7=>refine' @Ze _ _ _ _ _ (Zt (i:=5) nd rfl (Or.inr rfl) (Zk Co_ hr (by decide) rfl (Za (pv 2) (Za (pv 4) Zb rfl) rfl))) ?g8;case g8=>refine' @Zh _ _ _ ?g9;case g9=>refine' @Xg _ _ _ _ _ _ _ _ (Yl Zqp (pv 5) Zjb (Yn _)) ?ga Z1;case ga=>refine' @Ze _ _ _ _ _ (Zee (N:=["_law_piece","_law_order_here","_law_thicks"]) (fr:=[none,some 5,some 3]) rfl rfl (Zl (i:=6) nd rfl (Or.inl rfl)) (Z4 (XN:=["_law_plate_here","_law_found","_law_points","_law_thicks","_law_matrix","_law_order_here","_law_sent"]) (Scope.names (Zf Yj)) rfl rfl rfl (fun _ h=>Zx h) (by decide +kernel) rfl) (Zpl (pv 3)) (fun _ _ _ _=>pgB 0) (fun _ _ _ _=>Zs) (fun _ _ _ _=>Zo (Za (Zu (X5 K rfl) rfl T.b_tuple Z5 (Za (Zi (Zac K rfl) rfl T.b_sorted Yw (Za (Xh (N:=["_law_one","_law_order_here"]) (fr:=[none,some 1]) rfl (Z4 (XN:=["_law_piece","_law_order_here","_law_thicks"]) (relN _ (Scope.names (Zf Yj))) rfl rfl rfl (fun _ h=>Zd2 (by decide +kernel) h) (by decide +kernel) rfl) (Zdf K rfl (pv 0)) (fun _ _ _ _=>pgB 0) (fun _ _ _ _=>Zs) (fun _ _ _ _=>Zv (Zcb K rfl) (pv 1) (pv 0) (fun _ _=>rfl))) Zb rfl)) Zb rfl)) (Za (Zrj hu (pv 2) (pv 0) (fun _ _=>rfl)) Zb rfl) rfl))) (Zh (Xg (Yl (Zmu Zqn (Zgx hr)) (Xh (g:=(gTup K 2 (Y6 (Yr 0) (Y6 (Yr 1) gNil)))) (N:=["_law_piece","_law_thick","_law_thicks"]) (fr:=[none,none,some 3]) rfl (Z4 (XN:=["_law_plate_here","_law_found","_law_points","_law_thicks","_law_matrix","_law_order_here","_law_sent"]) (Scope.names (Zf Yj)) rfl rfl rfl (fun _ h=>Zx h) (by decide +kernel) rfl) (Yz (pv 6)) (fun _ _ _ _=>Yg (n:=2) rfl (Zg (pgB 0) (Zg (pgB 1) Zz))) (fun _ _ _ _=>Zju (Yl Zl2 (Zpn hu (pv 2) (pv 0) Zd ⟨rfl,rfl,rfl,rfl⟩) (pv 1) (Yn _))) (fun _ _ _ _=>pv 0)) (Yy Zb) (Yn _)) (Zh (Za1 (Zfc PySem.F.plainAttrs_list PySem.F.slot_list_append PySem.F.type_list_append Y8 (pv 1) (Za (Zo (Za (pv 5) (Za (pv 4) Zb rfl) rfl)) Zb rfl)))) Z1))
 have hP0:=hP;obtain ⟨a,c,p,t,st,rfl,ha,⟨ca,cvs,rfl,hca,cal⟩,⟨pa,pvs,rfl,hpa,pal⟩,⟨ta,rfl,hta⟩,hs⟩:=hP0;have plen:=pal.1;have p40:=ok.p40;have c3:=ok.c3;have c30:=ok.c30;refine ⟨z0_,fun fl nf=>?_⟩;generalize gG:upd H fl (.lst [])=H1;obtain ⟨s1,f1⟩:=gen_upd gG nf;refine ⟨_,rfl,a,_,0,_,rfl,rfl,SqT.of (s1 _ _ ha),rfl,ca,cvs,rfl,.inr (SqT.of (s1 _ _ hca)),fun L nL _=>?_⟩;generalize gG:upd H1 L (.lst cvs)=H2;obtain ⟨s2,f2⟩:=gen_upd gG nL;refine ⟨_,_,rfl,?_⟩;have s12:=s1.trans s2;refine ⟨_,rfl,a,_,1,_,rfl,rfl,SqT.of (s12 _ _ ha),rfl,_,rfl,a,_,2,_,rfl,rfl,SqT.of (s12 _ _ ha),rfl,pa,ta,rfl,⟨_,SqT.of (s12 _ _ hpa)⟩,⟨_,SqT.of (s12 _ _ hta)⟩,pvs,P'.ts.map V.int,SqT.of (s12 _ _ hpa),SqT.of (s12 _ _ hta),by omega,fun H3 S us3 nS s3 e3 a3=>?_⟩;have s13:=s12.trans s3;refine ⟨S,us3,dP P',rfl,e3,by rw [a3.1,List.length_zip];omega,⟨by rw [a3.1,Znm ok,List.length_zip,n5_,ok.t1];omega,fun i v x e1 e2=>?_⟩,fun D nD=>?_⟩
 · obtain ⟨pr,ep,cc,rfl,hcc⟩:=a3.get e1;obtain ⟨k,y⟩:=x;obtain ⟨pc,tt,_,epc,rfl,rfl⟩:=Zqo ok e2;obtain ⟨g1,g2⟩:=n51_.mp ep;obtain ⟨pc',epc',b,eb,hb⟩:=pal.get g1;rw [epc] at epc';cases epc'
   have et:pr.2=.int tt:=by
    unfold dP at e2;obtain ⟨_,z2⟩:=n51_.mp e2;rw [z2] at g2;exact (Option.some.inj g2).symm
   rw [eb,et] at hcc;exact ⟨cc,b,rfl,hcc,by rw [kI_V];exact s13 _ _ hb⟩
 rw [Zqc ok];generalize gG:upd H3 D (.dT (dP P'))=H4;obtain ⟨s4,hD4⟩:=gen_upd gG nD;have nD0:H D=none:=s13.free nD;have s24:=s3.trans s4;have s14:=s12.trans s24;have fl4:=s24 _ _ (s2 _ _ f1);have L4:=s24 _ _ f2;have nDf:fl≠D:=fun z=>by rw [z,hD4] at fl4;cases fl4
 have nDL:L≠D:=fun z=>by rw [z,hD4] at L4;cases L4
 have nfL:L≠fl:=fun z=>by rw [z,f1] at nL;cases nL
 refine ⟨rfl,fun H5 lm um s5 e5 a5=>⟨lm,rfl,⟨_,SqL.of e5⟩,?_⟩⟩;have ml:um.length=8:=a5.1
 have nlf:lm≠fl:=fun z=>by
  have:=s5 _ _ fl4
  rw [← z,e5] at this;cases this
  cases ml
 have nlD:lm≠D:=fun z=>by
  have:=s5 _ _ hD4
  rw [← z,e5] at this;cases this
 refine Xy (n:=um.length) (fun i σ H'=>∃ (w4 w5 w6:Option V) (us:List V),σ=[some (.ref a),some (.ref fl),some (.ref L),some (.ref D),w4,w5,w6]∧Same H H'∧H' L=some (.lst cvs)∧H' fl=some (.lst us)∧H' lm=some (.lst um)∧Al (IsI H') um MSRT∧(H' D=some (.dT (dP P'))∨∃ o,H' D=some (.frz o (.dT (dP P'))))∧Al (IsTh H') us ((MSRT.take i).filterMap (tOne P'))) ⟨_,_,_,[],rfl,s14.trans s5,s5 _ _ L4,s5 _ _ fl4,e5,a5,.inl (s5 _ _ hD4),⟨rfl,fun i v x e _=>by simp at e⟩⟩ (fun i σ H' hi p=>?_) (fun σ H' p=>?_) (fun i x σ Ha Hb hi y p=>?_) (fun σ Ha p=>?_)
 · obtain ⟨_,_,_,_,_,_,_,_,h,_⟩:=p;exact ⟨_,um[i],SqL.of h,n1_ hi⟩
 · obtain ⟨_,_,_,_,_,_,_,_,h,_⟩:=p;exact ⟨_,SqL.of h,n7_ _⟩
 · obtain ⟨w4,w5,w6,us,rfl,sH,hL,hf,hlm,am,hd,au⟩:=p;obtain ⟨rfl,yx⟩:=y;have ex:=yx _ (SqL.of hlm);obtain ⟨M,eM,ma,rfl,hma⟩:=am.get ex;have hM:M∈MATS:=Zdc.mem_iff.mp (n10_ eM)
   have tk1:(MSRT.take (i+1)).filterMap (tOne P')=(MSRT.take i).filterMap (tOne P')++(tOne P' M).toList:=by
    rw [List.take_succ,eM,n75_,List.filterMap_append];cases h:tOne P' M<;>simp [h]
   refine ⟨_,rfl,_,rfl,L,ma,cvs,P'.cs,M,rfl,hL,cal.imp fun v x r=>r.tk sH.tk,by omega,c30,ok.nr,ok.nd,hma,hM,fun H6 r s6 ho=>?_⟩;have sH6:=sH.trans s6;have hd6:H6 D=some (.dT (dP P'))∨∃ o,H6 D=some (.frz o (.dT (dP P'))):=hd.elim (fun h=>.inl (s6 _ _ h)) (fun ⟨o,h⟩=>.inr ⟨o,s6 _ _ h⟩);have am6:=am.imp fun v x r=>r.tk s6.tk;have au6:=au.imp fun v x r=>r.tk s6.tk;cases hfull:full (ordB P'.cs M) with
   | none =>
     rw [hfull] at ho;cases (show r=.non from ho)
     refine ⟨_,rfl,rfl,_,rfl,?_⟩;rw [n24_ rfl];refine iteF ⟨_,_,_,us,rfl,sH6,s6 _ _ hL,s6 _ _ hf,s6 _ _ hlm,am6,hd6,?_⟩;rw [tk1,show tOne P' M=none by unfold tOne;rw [hfull];rfl,Option.toList_none,n71_];exact au6
   | some os =>
     rw [hfull] at ho;obtain ⟨t,rfl,ht6⟩:=ho
     have ol:os.length=P'.cs.length:=by
      unfold full at hfull;split at hfull
      · cases hfull;rw [n5_,Zfb]
      · cases hfull
     refine ⟨_,rfl,rfl,_,rfl,?_⟩;rw [n25_ (fun z=>by cases z)];refine iteT ?_;refine ⟨_,rfl,D,dP P',rfl,Zo4 (R:=fun J H1=>∀ D2,H1 D2=none→LcGo J _ _ _ _ H1 D2 _) hd6 fun o G hG kG=>fun D2 nD2=>?_⟩;have sHG:Same H G:=fun b ob e=>kG b ob (fun z=>by rw [z,nD0] at e;cases e) (sH6 _ _ e);have tG:Tk H6 G:=fun b xs e=>kG b _ (fun z=>by rcases hd6 with h|⟨_,h⟩<;>(rw [z,h] at e;cases e)) e;have htG:=tG _ _ ht6;have dl:=Znm ok;have sl:(snts P' os).length=(dP P').length:=by unfold snts;rw [n5_,List.length_zip,ok.t1,Nat.min_self,dl]
     refine Zkf (n:=(dP P').length) IsSn hRS (snts P' os) sl (by omega) (fun σ=>∃ u,σ=[u,some (.ref t),some (.ref D)]) ⟨_,rfl⟩ nD2 (fun i H7 s7 hi=>⟨_,s7 _ _ hG,hi⟩) (fun H7 s7=>⟨_,s7 _ _ hG,n7_ _⟩) (fun i x σ2 H7 H8 C hi s7 y o2 c=>?_) (fun H7 us7 s7 e7 a7=>?_)
     · obtain ⟨u,rfl⟩:=o2;obtain ⟨b,k,yv,rfl,rfl,hb,hk⟩:=y;have dpi:=hk _ (s7 _ _ hG);obtain ⟨pc,tt,ez,ep,rfl,rfl⟩:=Zqo ok dpi;have pok:=ok.pc pc (n10_ ep);have hbk:=hb;rw [kI_V] at hb;refine ⟨_,rfl,b,rfl,⟨_,SqT.of hb⟩,fun L2 nL2=>?_⟩;refine lc_T (k:=.t) (vs:=pc.map V.int) (fun _ v (z:Int)=>v=.int z) (fun _ _ _ _ _ e=>e) (pc.map fun c=>((os.getD c.toNat 0:Nat):Int)) (by simp) (by rw [n5_,pok.len];decide) nL2 hb (fun i w H9 C' hw s9 c'=>?_) (fun H9 us9 s9 e9 a9=>?_)
       · rw [n6_] at hw;obtain ⟨z,ez',rfl⟩:=n16_.mp hw;obtain ⟨z0,z1⟩:=pok.bd z (n10_ ez');obtain ⟨n,rfl⟩:∃ n:Nat,z=n:=⟨z.toNat,by omega⟩;have hn:n<os.length:=by omega
         refine ⟨_,rfl,_,rfl,t,_,_,_,rfl,rfl,SqT.of (s9 _ _ (s7 _ _ htG)),Xz (by rw [n6_,n1_ hn];rfl),?_⟩;refine c' _ _ _ (Same.refl _) (by rw [n6_,ez'];rfl) ?_;show V.int _=V.int ((os.getD (n:Int).toNat 0:Nat):Int)
         rw [n57_,n4_,n1_ hn];rfl
       · rw [Zd3 a9] at e9;refine ⟨L2,_,rfl,SqL.of e9,by rw [n5_,pok.len];decide,fun l2 ns' n2 pm ps'=>?_⟩;have ens:=Zih pm ps';have u1:Same H9 (upd H9 l2 (.lst (ns'.map V.int))):=Same.new n2;refine ⟨l2,_,rfl,.inl ⟨SqL.of Zc,fun l3 n3=>?_⟩⟩;have u2:Same (upd H9 l2 (.lst (ns'.map V.int))) (upd (upd H9 l2 (.lst (ns'.map V.int))) l3 (.tup (ns'.map V.int))):=Same.new n3;have h3:upd (upd H9 l2 (.lst (ns'.map V.int))) l3 (.tup (ns'.map V.int)) l3=some (.tup (ns'.map V.int)):=Zc;generalize upd (upd H9 l2 (.lst (ns'.map V.int))) l3 (.tup (ns'.map V.int))=G3 at u2 h3 ⊢;have s7G:=s9.trans (u1.trans u2);refine ⟨_,rfl,_,rfl,D,.int tt,rfl,.inr ⟨dP P',kI pc,b,.inr ⟨o,s7G _ _ (s7 _ _ hG)⟩,rfl,s7G _ _ hbk,(Zn3 ok dpi).symm⟩,z2_,fun pz nz=>?_⟩;have u3:Same G3 (upd G3 pz (.tup [.ref l3,.int tt])):=Same.new nz;refine c _ _ _ (Zb9 os pc,tt) ⟨_,rfl⟩ (s7G.trans u3) (by unfold snts;rw [n6_,ez];rfl) ⟨pz,l3,rfl,Zc,?_⟩;rw [u3 _ _ h3,ens];rfl
     have hG7:=s7 _ _ hG;refine ⟨_,rfl,D2,rfl,⟨_,SqL.of e7⟩,fun D3 nD3=>?_⟩;refine Zu0 (k:=.l) (vs:=us7) IsI hRI' (sntF P' os) (by rw [a7.1];omega) nD3 e7 (fun i w hw=>?_) (fun i p x y H8 C N hv hp s8 c n=>?_) (fun H8 us8 s8 e8 a8=>?_)
     · obtain ⟨g,eg,b,b',rfl,hb,hb'⟩:=a7.get hw;exact ⟨b,_,_,rfl,hb⟩
     · obtain ⟨g,eg,b,b',e,hb,hb'⟩:=a7.get hv;cases e
       rw [hp] at hb;cases hb
       obtain ⟨sp,stt⟩:=g
       have mt:stt∈P'.ts:=by
        unfold snts at eg;rw [n6_] at eg;obtain ⟨z,ez,e⟩:=n16_.mp eg;cases e
        exact (List.of_mem_zip (n10_ ez)).2
       have t1:=(ok.t9 stt mt).1;refine ⟨_,rfl,D,rfl,.inr ⟨_,.inr ⟨o,s8 _ _ hG7⟩⟩,_,rfl,valV (dP P') (kI sp),.inr ⟨dP P',kI sp,b',.inr ⟨o,s8 _ _ hG7⟩,rfl,by rw [kI_V];exact s8 _ _ hb',rfl⟩,_,rfl,?_,_,rfl,?_⟩
       · rcases Zjn (P:=P') (kI sp) with e|⟨t',e⟩<;>rw [e]<;>rfl
       · by_cases e:valV (dP P') (kI sp)=some (.int stt)
         · rw [e,show (some (V.int stt)).getD (V.int 0)=V.int stt from rfl,n24_ rfl];refine iteF (n _ (Same.refl _) ?_);rw [Zfj eg];exact if_pos e
         · have ne:(valV (dP P') (kI sp)).getD (V.int 0)≠V.int stt:=fun z=>by
            rcases Zjn (P:=P') (kI sp) with e'|⟨t',e'⟩
            · rw [e'] at z
              have:(0:Int)=stt:=by injection z
              omega
            · rw [e'] at z e;exact e (congrArg some z)
           rw [n25_ ne];refine iteT ⟨_,rfl,c _ _ sp (Same.refl _) ?_ ⟨b',rfl,s8 _ _ hb'⟩⟩;rw [Zfj eg];exact if_neg e
     refine ⟨z0_,fun Z nZ=>?_⟩;generalize gG:upd H8 Z (.lst [])=H9;obtain ⟨s9,h9⟩:=gen_upd gG nZ;have sG9:=s7.trans (s8.trans s9);refine ⟨D3,Z,us8,[],_,[],rfl,rfl,s9 _ _ e8,h9,a8.imp fun v x r=>r.tk s9.tk,.nil,_,rfl,?_⟩;have iff:=Zly ok os;rw [← a7.1] at iff;have sH9:=sHG.trans sG9;have tk9:Tk H6 H9:=tG.trans sG9.tk;have hL9:=sG9 _ _ (kG _ _ nDL (s6 _ _ hL));have hf9:=sG9 _ _ (kG _ _ nDf (s6 _ _ hf));have hm9:=sG9 _ _ (kG _ _ nlD (s6 _ _ hlm));have am9:=am6.imp fun v x r=>r.tk tk9;have au9:=au6.imp fun v x r=>r.tk tk9;refine ite2 (fun h=>?_) (fun h=>?_)
     · have hl:Zbb P' os=true:=iff.mp (by simpa using h);have e1:tOne P' M=some (os.map fun i=>((i:Nat):Int),M):=by unfold tOne;rw [hfull];exact if_pos hl
       refine ⟨_,rfl,(.inl ⟨rfl,_,SqL.of hf9⟩),_,rfl,_,rfl,z2_,fun t2 n3=>?_⟩;generalize gG:upd H9 t2 (.tup [.ref t,.ref ma])=HA;obtain ⟨u6,h6⟩:=gen_upd gG n3;have ul:us.length≤8:=by rw [au.1];exact n33_ (n70_ _ _) (n33_ (List.length_take_le' _ _) (by decide))
       have hfA:=u6 _ _ hf9;refine ⟨fl,us,_,rfl,rfl,hfA,by rw [sizeLine_eq];omega,?_⟩
       have tkF:Tk HA (upd HA fl (.lst (us++[.ref t2]))):=fun b' xs e'=>by
        rw [Zj (fun z=>by rw [z,hfA] at e';cases e')];exact e'
       refine ⟨_,_,_,us++[.ref t2],rfl,fun b' o' e'=>by rw [Zj (fun z=>by rw [z,nf] at e';cases e')];exact u6 _ _ (sH9 _ _ e'),by rw [Zj nfL];exact u6 _ _ hL9,Zc,by rw [Zj nlf];exact u6 _ _ hm9,am9.imp fun v x r=>(r.tk u6.tk).tk tkF,.inr ⟨o,by rw [Zj nDf.symm];exact u6 _ _ (sG9 _ _ hG)⟩,?_⟩;rw [tk1,e1,n75_];refine Al.snoc (au9.imp fun v x r=>(r.tk u6.tk).tk tkF) ?_;exact ⟨t2,t,ma,rfl,tkF _ _ h6,by rw [tkF _ _ (u6 _ _ (tk9 _ _ ht6)),n74_];rfl,tkF _ _ (u6 _ _ (tk9 _ _ (s6 _ _ hma)))⟩
     · have hl:¬ Zbb P' os=true:=fun z=>h (by simpa using iff.mpr z);refine ⟨_,_,_,us,rfl,sH9,hL9,hf9,hm9,am9,.inr ⟨o,sG9 _ _ hG⟩,?_⟩;rw [tk1,show tOne P' M=none by unfold tOne;rw [hfull];exact if_neg hl,Option.toList_none,n71_];exact au9
 · obtain ⟨w4,w5,w6,us,rfl,sH,hL,hf,hlm,am,hd,au⟩:=p;rw [ml,show (MSRT.take 8).filterMap (tOne P')=MSRT.filterMap (tOne P') from rfl] at au;have tl:(MSRT.filterMap (tOne P')).length≤8:=n33_ (n70_ _ _) (by decide);refine ⟨_,rfl,fl,us,MSRT.filterMap (tOne P'),P'.cs.length,4,rfl,SqL.of hf,au.imp fun v x r=>r.tn,Zr6 MSRT Zrb,by omega,fun k hk=>Zm1 k ((Zl0 P').mem_iff.mp hk),fun l q' nl nsy pm pw=>?_⟩;have u1:Same Ha (upd Ha l (.lst (q'.map fun i=>us.getD i .non))):=Same.new nl;refine q _ l _ (q'.map fun i=>(MSRT.filterMap (tOne P')).getD i ([],[])) (sH.trans u1) (sH.free nl) nsy Zc ?_ ((Zgs pm).trans (Zl0 P')) pw;exact (al_q au fun i hi=>n34_.mp (pm.mem_iff.mp hi)).imp fun v x r=>r.tk u1.tk
abbrev Zbj:Stmt:=top 54
theorem Zgf (F:Fun K "_law_true" "_law_true" Zbj f fd):FnOk P w K mg base CX0 1 f fd ["_law_thing"] Zl8:=by
 have sc:FnScope ["_law_thing"] ["_law_thing"] (Zf Zbj):=fsc (by decide +kernel);refine F.ok sc fun cdv A outer s H vs Q E hr h=>?_;obtain ⟨p,ns,rfl,hp,h100,q⟩:=h;refine' ⟨_,?term,?read⟩
 case term=>refine' @Zh _ _ _ (Zn (Zu Zw rfl T.b_tuple Z5 (Za (Xh (N:=["_law_one"]) (fr:=[none]) rfl (Ys (by decide) rfl (by decide) rfl rfl) (Y2 (pv 0)) (fun _ _ _ _=>pgB 0) (fun _ _ _ _=>Zs) (fun _ _ _ _=>Zo6 (Yl (Zks K rfl) (pv 0) (Zo (Za Zd (Za Zd Zb rfl) rfl)) rfl) (Xs Zmo (pv 0) Zd (Yn _)) (pv 0))) Zb rfl)))
 refine ⟨_,rfl,p,rfl,⟨_,SqT.of hp⟩,fun D nD=>?_⟩;refine lc_T (k:=.t) (vs:=ns.map V.int) (fun _ v (n:Int)=>v=if n=0∨n=1 then V.bl (decide (n=1)) else V.int n) (fun _ _ _ _ _ e=>e) ns (by rw [n5_]) (by rw [n5_];omega) nD hp (fun i w H2 C hw s2 c=>?_) (fun H2 us s2 e2 a2=>?_)
 · rw [n6_] at hw;obtain ⟨n,en,rfl⟩:=n16_.mp hw;refine ⟨_,rfl,z2_,fun T' nT=>⟨T',_,rfl,.inr (SqT.of Zc),rfl,rfl,_,rfl,?_⟩⟩
   have ei:inV (.int n) [.int 0,.int 1]=decide (n=0∨n=1):=by
    show (eqV (.int 0) (.int n)||(eqV (.int 1) (.int n)||false))=_
    rw [n56_,decide_eq_true_iff,Bool.or_false,Bool.or_eq_true];show ((0:Int) == n)=true∨((1:Int) == n)=true↔_
    rw [beq_iff_eq,beq_iff_eq];exact ⟨fun z=>z.imp Eq.symm Eq.symm,fun z=>z.imp Eq.symm Eq.symm⟩
   rw [ei];refine ite2 (fun hn=>?_) (fun hn=>?_)
   · have hn':=n35_ hn;refine ⟨_,rfl,rfl,c _ _ n (Same.new nT) en ?_⟩;rw [if_pos hn']
     congr 1
     exact (@decide_eq_decide _ _ (_) (_)).mpr ⟨fun z=>by injection z,fun z=>by rw [z]⟩
   · have hn':¬ (n=0∨n=1):=fun z=>hn (n24_ z);exact ⟨_,rfl,c _ _ n (Same.new nT) en (by rw [if_neg hn'])⟩
 · rw [Zd3 a2] at e2;refine ⟨D,_,rfl,.inl ⟨SqL.of e2,fun t nt=>?_⟩⟩;exact q _ _ (s2.trans (Same.new nt)) Zc
abbrev Zd5:Stmt:=top 55
theorem Zs5 (F:Fun K "law" "law" Zd5 f fd) (Cad_:a37_ P w K mg base) (Ca_:a30_ P w K mg base) (Ck_:a38_ P w K mg base) (Ce_:a35_ P w K mg base) (Ch_:a33_ P w K mg base) (Cd_:a31_ P w K mg base) (Cae_:a39_ P w K mg base) (Caf_:a40_ P w K mg base) (Cl_:a41_ P w K mg base) (Cp_:a42_ P w K mg base) (Cag_:a43_ P w K mg base):FnOk P w K mg base CX0 9 f fd ["_law_script"] (Ziz K):=by
 have sc:FnScope ["_law_script","_law_k","_law_state_here","_law_plate_here","_law_good","_law_order_here","_law_matrix","_law_other","_law_drawn","_law_things","_law_turn","_law_thing","_law_kept","_law_due"] ["_law_script"] (Zf Zd5):=fsc (by decide +kernel);refine F.ok sc fun cdv A outer s H vs Q E hr h=>?_;obtain ⟨a,ns,rfl,hS,hlen,q⟩:=h;have nd:=sc.nd;refine' ⟨_,?term,?read⟩
 case term=>refine' @Ze _ _ _ _ _ ?g1 (Zh (Zn X0));case g1=>refine' @X9 _ _ _ _ _ _ _ _ PassesOwn.never rfl (Zgr rfl T.b_range (Za (Zi (Zhe rfl) rfl T.b_max Zpv (Za Zd (Za (Zi (Zlw rfl) rfl T.b_min Zny (Za (Zi Zq rfl T.b_len Y3 (Za (pv 0) Zb rfl)) (Za Zd Zb rfl) rfl)) Zb rfl) rfl)) Zb rfl)) (Zl (i:=1) nd rfl (Or.inl rfl)) ?g2 (by intro _ ;rfl);case g2=>refine' @Ze _ _ _ _ _ (Zt (i:=2) nd rfl (Or.inl rfl) (Zk Caf_ hr (by decide) rfl (Za (pv 0) (Za (pv 1) Zb rfl) rfl))) ?g3;case g3=>refine' @Zh _ _ _ ?g4;case g4=>refine' @X9 _ _ _ _ _ _ _ _ PassesOwn.never rfl (Yz (Yy (Za (Zk Ck_ hr (by decide) rfl (Za (pv 2) Zb rfl)) (Za (Zk Cae_ hr (by decide) rfl (Za (pv 2) (Za Zd Zb rfl) rfl)) Zb rfl) rfl))) (Zl (i:=3) nd rfl (Or.inl rfl)) ?g5 (by intro _ ;rfl);case g5=>refine' @Ze _ _ _ _ _ (Zt (i:=4) nd rfl (Or.inl rfl) (Zk Cp_ hr (by decide) rfl (Za (pv 3) Zb rfl))) ?g6;case g6=>refine' @Ze _ _ _ _ _ (Xo (Zv Z9 (pv 4) (Zk Ca_ hr (by decide) rfl (Za (pv 2) (Za (Zi Zq rfl T.b_len Y3 (Za (pv 4) Zb rfl)) Zb rfl) rfl)) (fun _ _=>rfl)) (Yg (n:=2) rfl (Zg (Zl (i:=5) nd rfl (Or.inr rfl)) (Zg (Zl (i:=6) nd rfl (Or.inl rfl)) Zz)))) ?g7;case g7=>refine' @Ze _ _ _ _ _ (Zt (i:=7) nd rfl (Or.inl rfl) (Zv Z9 (pv 4) (Zk Ca_ hr (by decide) rfl (Za (pv 2) (Za (Zi Zq rfl T.b_len Y3 (Za (pv 4) Zb rfl)) Zb rfl) rfl)) (fun _ _=>rfl))) ?g8;case g8=>refine' @Ze _ _ _ _ _ (Zt (i:=8) nd rfl (Or.inl rfl) (Zu Zw rfl T.b_tuple Z5 (Za (Zk Cd_ hr (by decide) rfl (Za (pv 2) (Za (Zi Zq rfl T.b_len Y3 (Za (pv 5) Zb rfl)) Zb rfl) rfl)) Zb rfl))) ?g9;case g9=>refine' @Ze _ _ _ _ _ ?ga ?gb;(case ga=>refine' @Zt _ _ (9) _ _ _ _ nd rfl (Or.inl rfl) ?gc (by rfl) (by first|exact Or.inl rfl|exact Or.inr rfl|assumption);case gc=>refine' @Yy _ _ _ _ ?gd;case gd=>refine' @Za _ _ _ _ _ (Zo (Za (pv 5) (Za (pv 6) Zb rfl) rfl)) ?ge rfl;case ge=>refine' @Za _ _ _ _ _ (pv 7) ?gf rfl;case gf=>refine' @Za _ _ _ _ _ (Zo (Za (pv 5) (Za (Zv Z3 (pv 7) Zd (fun _ _=>rfl)) Zb rfl) rfl)) (Za (Zo (Za (Zv Z3 (pv 7) Zd (fun _ _=>rfl)) (Za (pv 6) Zb rfl) rfl)) (Za (Zo (Za (pv 8) (Za (pv 6) Zb rfl) rfl)) Zb rfl) rfl) rfl);case gb=>refine' @Ze _ _ _ _ _ (Za1 (Zfc PySem.F.plainAttrs_list PySem.F.slot_list_append PySem.F.type_list_append Y8 (pv 9) (Za (Zdy (Za (pv 5) (Za (pv 6) Zb rfl) rfl)) Zb rfl))) ?gg;case gg=>refine' @Ze _ _ _ _ _ (Zt (i:=9) nd rfl (Or.inl rfl) (Zp Zds (pv 9) (Yy (Za (Zo (Za (Zu Za8 rfl T.b_list Zc7 (Za (pv 5) Zb rfl)) (Za (pv 6) Zb rfl) rfl)) (Za (Zo (Za (pv 5) (Za (Zu Za8 rfl T.b_list Zc7 (Za (pv 6) Zb rfl)) Zb rfl) rfl)) (Za (Zo (Za (pv 6) (Za (pv 5) Zb rfl) rfl)) (Za (Zo (Za (pv 5) Zb rfl)) Zb rfl) rfl) rfl) rfl)))) ?gh;case gh=>refine' @Ze _ _ _ _ _ (Za1 (Zfc PySem.F.plainAttrs_list PySem.F.slot_list_append PySem.F.type_list_append Y8 (pv 9) (Za (Zk Ch_ hr (by decide) rfl (Za (pv 2) Zb rfl)) Zb rfl))) ?gi;case gi=>refine' @Ze _ _ _ _ _ (Zt (i:=9) nd rfl (Or.inl rfl) (Zp Zds (pv 9) (Yy (Za (Zo (Za (pv 5) (Za (Zk Cl_ hr (by decide) rfl (Za (pv 6) Zb rfl)) Zb rfl) rfl)) (Za (Zo (Za (Zk Cl_ hr (by decide) rfl (Za (pv 5) Zb rfl)) (Za (pv 6) Zb rfl) rfl)) Zb rfl) rfl)))) ?gj;case gj=>refine' @Ze _ _ _ _ _ (Zt (i:=9) nd rfl (Or.inl rfl) (Zp Zds (pv 9) (Yy (Za (Zo (Za (pv 5) (Za (Zo (Za Zd (Za Zd (Za Zd (Za Zd Zb rfl) rfl) rfl) rfl)) Zb rfl) rfl)) (Za (Zo (Za (Zo Zb) (Za (pv 6) Zb rfl) rfl)) Zb rfl) rfl)))) ?gk;case gk=>refine' @Ze _ _ _ _ _ (Zt (i:=9) nd rfl (Or.inl rfl) (Zp Zds (pv 9) (Xh (N:=["_law_one","_law_order_here"]) (fr:=[none,some 5]) rfl (Z4 (XN:=["_law_script","_law_k","_law_state_here","_law_plate_here","_law_good","_law_order_here","_law_matrix","_law_other","_law_drawn","_law_things","_law_turn","_law_thing","_law_kept","_law_due"]) (Scope.names (Zf Zd5)) rfl rfl rfl (fun _ h=>Zx h) (by decide +kernel) rfl) (Yz (Zic Ce_ hr (by decide) rfl)) (fun _ _ _ _=>pgB 0) (fun _ _ _ _=>Zs) (fun _ _ _ _=>Zo (Za (pv 1) (Za (pv 0) Zb rfl) rfl))))) (Ze (X9 PassesOwn.never rfl (Zgr rfl T.b_range (Za Zd Zb rfl)) (Zl (i:=10) nd rfl (Or.inl rfl)) (Zh (Za1 (Zfc PySem.F.plainAttrs_list PySem.F.slot_list_append PySem.F.type_list_append Y8 (pv 9) (Za (Zk Cad_ hr (by decide) rfl (Za (pv 2) (Za (Zo (Za (pv 5) (Za (pv 6) Zb rfl) rfl)) Zb rfl) rfl)) Zb rfl))))) (Zh (X9 PassesOwn.never rfl (Yz (pv 9)) (Zl (i:=11) nd rfl (Or.inl rfl)) (Ze (Zi5 rfl nd (i:=12) (j:=13) rfl rfl (by decide) rfl rfl (Za (Zi (Xq hr) rfl T.b_repr Zb6 (Za (Zo (Za (pv 3) (Za (pv 11) Zb rfl) rfl)) Zb rfl)) (Za (Xs Zg8 (Zi (Xq hr) rfl T.b_repr Zb6 (Za (pv 11) Zb rfl)) (Xh (N:=["_law_one"]) (fr:=[none]) rfl (Ys (by decide) rfl (by decide) rfl rfl) (Yz (pv 4)) (fun _ _ _ _=>pgB 0) (fun _ _ _ _=>Zs) (fun _ _ _ _=>Zi (Xq hr) rfl T.b_repr Zb6 (Za (pv 0) Zb rfl))) rfl) Zb rfl) rfl) rfl) (Zh (Xg (PW.pt (Zim (Yl Zl2 (Zi (Xq hr) rfl T.b_repr Zb6 (Za (Zk Cag_ hr (by decide) rfl (Za (pv 3) (Za (pv 11) Zb rfl) rfl)) Zb rfl)) (Zi (Xq hr) rfl T.b_repr Zb6 (Za (pv 13) Zb rfl)) (Yn _)) (Zdz (Yl Zl2 (Zi (Xq hr) rfl T.b_repr Zb6 (Za (Zo (Za (pv 3) (Za (pv 11) Zb rfl) rfl)) Zb rfl)) (pv 12) (Yn _))))) (Zh (Zn X0)) Z1))))))
 refine ⟨_,rfl,a,_,rfl,.inl hS,_,_,rfl,_,_,rfl,_,rfl,?_,?_,?_⟩
 · split<;>(try split)<;>omega
 · rw [n5_];split<;>(try split)<;>omega
 refine Zf6 (fun i σ H2=>∃ v0 v1 v2 v3 v4 v5 v6 v7 v8 v9 v10 v11 v12:Option V,σ=[some (.ref a),v0,v1,v2,v3,v4,v5,v6,v7,v8,v9,v10,v11,v12]∧Same H H2) ⟨_,_,_,_,_,_,_,_,_,_,_,_,_,rfl,Same.refl H⟩ ?_ ?_
 rotate_left
 · rintro σ H2 ⟨v0,v1,v2,v3,v4,v5,v6,v7,v8,v9,v10,v11,v12,rfl,s2⟩
   exact q H2
 · rintro j σ H2 _ ⟨v0,v1,v2,v3,v4,v5,v6,v7,v8,v9,v10,v11,v12,rfl,s2⟩
   refine sqE fun E M e0 m=>?_;refine ⟨_,rfl,_,rfl,a,ns,j,by rw [Int.zero_add],s2.seq hS,fun l H4 nl s3 st4=>?_⟩;refine m ?_;refine ⟨_,rfl,l,rfl,st4,fun H5 p1 P1 k5 st5 hP1 ok1 p41=>?_⟩;refine ⟨_,rfl,l,rfl,st5,fun H6 p2 P2 k6 st6 hP2 ok2 p42=>?_⟩;refine ⟨z2_,fun Ls nLs=>?_⟩;generalize gG:upd H6 Ls (.lst [p1,p2])=H8;obtain ⟨s8,e8⟩:=gen_upd gG nLs;replace hP1:=(hP1.tk (tkS k6 st5)).tk s8.tk;replace hP2:=hP2.tk s8.tk;have st8:=st6.same s8;have nLl:Ls≠l:=st6.neN nLs;have k48:Keep l H4 H8:=k5.trans (k6.trans s8.keep);refine ⟨Ls,rfl,⟨_,SqL.of e8⟩,?_⟩;refine Xy (n:=2) (fun i σ H9=>∃ u1 w3 w4 w5 w6 w7 w8 w9 w10 w11 w12 w13:Option V,σ=[some (.ref a),u1,some (.ref l),w3,w4,w5,w6,w7,w8,w9,w10,w11,w12,w13]∧Keep l H8 H9∧StAt H9 l) ⟨_,_,_,_,_,_,_,_,_,_,_,_,rfl,Keep.refl _ _,st8⟩ (fun i σ H9 hi p=>?_) (fun σ H9 p=>?_) (fun i x σ H9 H10 hi y p=>?_) (fun σ H9 p=>?_)
   · obtain ⟨_,_,_,_,_,_,_,_,_,_,_,_,_,s9,_⟩:=p;exact ⟨_,[p1,p2][i]'hi,SqL.of (s9 _ _ nLl e8),n1_ hi⟩
   · obtain ⟨_,_,_,_,_,_,_,_,_,_,_,_,_,s9,_⟩:=p;exact ⟨_,SqL.of (s9 _ _ nLl e8),n7_ _⟩
   · obtain ⟨u1,w3,w4,w5,w6,w7,w8,w9,w10,w11,w12,w13,rfl,s9,st9⟩:=p;obtain ⟨rfl,yx⟩:=y;have ex:=yx _ (SqL.of (s9 _ _ nLl e8));have tk9:=tkS s9 st8
     have key:∃ P',IsPl H10 x P'∧PlOk P'∧P'.ps.length≤4:=by
      have hi':i=0∨i=1:=by omega
      rcases hi' with rfl|rfl
      · cases ex;exact ⟨_,hP1.tk tk9,ok1,p41⟩
      · cases ex;exact ⟨_,hP2.tk tk9,ok2,p42⟩
     obtain ⟨P',hP,ok,p4⟩:=key;clear hP1 hP2 ok1 ok2 yx ex tk9;have c30:=ok.c30;refine sqE fun E M e1 m=>?_;refine ⟨_,rfl,x,P',rfl,hP,ok,fun H11 dl dus dts s11 ndl nsy e11 a11 pm11 pw11=>?_⟩;have l8:=(Ztb ok pm11);have l88:=l8.1;have l0:0<dts.length:=by rw [pm11.length_eq];exact Zsv ok
     have dlen:=a11.1;have st11:=st9.same s11;have ndl':dl≠l:=st9.neN ndl
     have pick:∀ (G:Hp) (r:Int),Tk H11 G→0≤r→r<dus.length→∃ v y,atI dus r=some v∧y∈dts∧IsTh G v y:=fun G r tk r0 r1=>by
      obtain ⟨n,rfl⟩:∃ n:Nat,r=n:=⟨r.toNat,by omega⟩;obtain ⟨y,ey,hy⟩:=a11.get (n1_ (show n<dus.length by omega));exact ⟨_,y,Xz (n1_ (show n<dus.length by omega)),n10_ ey,hy.tk tk⟩
     refine m (sq fun M m=>?_);refine ⟨_,rfl,_,rfl,_,rfl,dl,dus,rfl,.inl (SqL.of e11),l,dus.length,rfl,st11,by omega,Ye (by rw [p64,Int.natAbs_natCast];omega),fun r1 H12 r10 r11 k12 st12=>?_⟩;obtain ⟨v1,x1,ev1,mx1,t1,oa,ma,rfl,ht1,hoa,hma⟩:=pick H12 r1 (tkS k12 st11) r10 r11;refine ⟨dl,dus,_,_,rfl,rfl,SqL.of (k12 _ _ ndl' e11),ev1,?_⟩;refine ⟨t1,_,rfl,SqT.of ht1,rfl,_,_,rfl,_,_,rfl,rfl,?_⟩;refine m (sq fun M m=>?_);refine ⟨_,rfl,_,rfl,_,rfl,dl,dus,rfl,.inl (SqL.of (k12 _ _ ndl' e11)),l,dus.length,rfl,st12,by omega,Ye (by rw [p64,Int.natAbs_natCast];omega),fun r2 H13 r20 r21 k13 st13=>?_⟩;have k113:=k12.trans k13;obtain ⟨v2,x2,ev2,mx2,t2,ob,mb,rfl,ht2,hob,hmb⟩:=pick H13 r2 (tkS k113 st11) r20 r21;refine ⟨dl,dus,_,_,rfl,rfl,SqL.of (k113 _ _ ndl' e11),ev2,?_⟩;have t1213:=tkS k13 st12;replace hoa:=t1213 _ _ hoa;replace hma:=t1213 _ _ hma;obtain ⟨f1,f2,f3,f4⟩:=l8.2 x1 mx1;obtain ⟨g1,g2,g3,g4⟩:=l8.2 x2 mx2;have io:In64 x1.1:=⟨f1,f3⟩;have im:In64 x1.2:=⟨by omega,f4⟩;have io2:In64 x2.1:=⟨g1,g3⟩;have im2:In64 x2.2:=⟨by omega,g4⟩;refine m (sq fun M m=>?_);refine ⟨_,rfl,_,rfl,oa,_,rfl,.inr (SqT.of hoa),l,x1.1.length,by rw [n5_],st13,by omega,fun H14 O o k14 st14 nO eO pmO=>⟨O,_,rfl,.inl ⟨SqL.of eO,fun dr ndr=>?_⟩⟩⟩;generalize gG:upd H14 dr (.tup (o.map V.int))=H15;obtain ⟨sdr,hdr⟩:=gen_upd gG ndr;have st15:=st14.same sdr;have k1015:Keep l H10 H15:=s11.keep.trans (k113.trans (k14.trans sdr.keep));have t1315:=(tkS k14 st13).trans sdr.tk;replace hoa:=t1315 _ _ hoa;replace hma:=t1315 _ _ hma;replace hob:=t1315 _ _ hob;replace hmb:=t1315 _ _ hmb;replace ht2:=t1315 _ _ ht2
     have idr:In64 o:=⟨by rw [pmO.length_eq];simp;omega,fun n hn=>by
      obtain ⟨i,hi,rfl⟩:=n40_.mp (pmO.mem_iff.mp hn)
      have:=n34_.mp hi
      have big:(1000:Nat)<2^64:=by decide
      omega⟩
     have k1115:Keep l H11 H15:=k113.trans (k14.trans sdr.keep);have e15:=k1115 _ _ ndl' e11;have t1115:=tkS k1115 st11;have a15:Al (IsTh H15) dus dts:=a11.imp fun v x r=>r.tk t1115;have hP15:=(hP.tk s11.tk).tk t1115;clear k12 k13 k14 k113 ht1 e11 a11 ev1 ev2 pick st14 st13 st12;refine m (sq fun M m=>?_);refine ⟨_,rfl,_,rfl,z2_,fun q1 nq1=>?_⟩;generalize gG:upd H15 q1 (.tup [.ref oa,.ref ma])=G1;obtain ⟨sq1,eq1⟩:=gen_upd gG nq1;refine ⟨_,rfl,_,rfl,_,rfl,t2,_,1,_,rfl,rfl,SqT.of (sq1 _ _ ht2),rfl,z2_,fun q2 nq2=>?_⟩;generalize gG:upd G1 q2 (.tup [.ref oa,.ref mb])=G2;obtain ⟨sq2,eq2⟩:=gen_upd gG nq2;refine ⟨_,rfl,t2,_,0,_,rfl,rfl,SqT.of ((sq1.trans sq2) _ _ ht2),rfl,_,rfl,z2_,fun q3 nq3=>?_⟩;generalize gG:upd G2 q3 (.tup [.ref ob,.ref ma])=G3;obtain ⟨sq3,eq3⟩:=gen_upd gG nq3;refine ⟨_,rfl,_,rfl,z2_,fun q4 nq4=>?_⟩;generalize gG:upd G3 q4 (.tup [.ref dr,.ref ma])=G4;obtain ⟨sq4,eq4⟩:=gen_upd gG nq4;have s15:=(sq1.trans (sq2.trans (sq3.trans sq4)));refine ⟨z5_,fun L1 nL1=>?_⟩;have T1:Thg l H15 (upd G4 L1 (.lst [.ref q1,.ref t2,.ref q2,.ref q3,.ref q4])) L1 5:=Zqs s15.keep (st15.same s15) nL1 (n18_ rfl) fun N=>Tgs.cons (sd_2 ((sq2.trans (sq3.trans sq4)) _ _ eq1) (Xm (s15 _ _ hoa) io) (Xm (s15 _ _ hma) im)) (Tgs.cons (sd_2 (s15 _ _ ht2) (Xm (s15 _ _ hob) io2) (Xm (s15 _ _ hmb) im2)) (Tgs.cons (sd_2 ((sq3.trans sq4) _ _ eq2) (Xm (s15 _ _ hoa) io) (Xm (s15 _ _ hmb) im2)) (Tgs.cons (sd_2 (sq4 _ _ eq3) (Xm (s15 _ _ hob) io2) (Xm (s15 _ _ hma) im)) (Tgs.cons (sd_2 ((Same.refl G4) _ _ eq4) (Xm (s15 _ _ hdr) idr) (Xm (s15 _ _ hma) im)) Tgs.nil))));have st16:StAt (upd G4 L1 (.lst [.ref q1,.ref t2,.ref q2,.ref q3,.ref q4])) l:=(st15.same s15).new nL1;generalize upd G4 L1 (.lst [.ref q1,.ref t2,.ref q2,.ref q3,.ref q4])=H16 at T1 st16 ⊢;obtain ⟨N,XS,Nl,NL,hD,eL,hl,neL,g,iL,kk⟩:=T1;have tk:=tkS kk st15;refine m (sq fun M m=>?_);refine ⟨_,rfl,.inl ⟨rfl,_,SqL.of eL⟩,_,rfl,_,rfl,z2_,fun q5 nq5 mq5=>?_⟩;generalize gG:upd H16 q5 (.lst [.ref oa,.ref ma])=G5;obtain ⟨sq5,eq5⟩:=gen_upd gG nq5;refine ⟨L1,XS,_,rfl,rfl,sq5 _ _ eL,by rw [sizeLine_eq];omega,?_⟩;have T2:=Thg.app Nl NL (hD.same sq5) (sq5 _ _ eL) hl neL (g.same sq5) iL (kk.trans sq5.keep) (sd_l eq5 (hD.new nq5) mq5 (Xm (sq5.tk _ _ (tk _ _ hoa)) io) (Xm (sq5.tk _ _ (tk _ _ hma)) im));have st17:=(st16.same sq5).keep (Keep.upd (l:=L1) (o:=.lst (XS++[.ref q5]))) (fun z=>neL z.symm);generalize upd G5 L1 (.lst (XS++[.ref q5]))=H17 at T2 st17 ⊢;clear g hD eL Nl NL hl kk tk;obtain ⟨N,XS,Nl,NL,hD,eL,hl,neL,g,iL,kk⟩:=T2;have tk:=tkS kk st15;refine m (sq fun M m=>?_);refine ⟨_,rfl,_,rfl,oa,_,rfl,.inr (SqT.of ((Same.refl H17).tk _ _ (tk _ _ hoa))),fun q6 nq6 mq6=>?_⟩;generalize gG:upd H17 q6 (.lst (x1.1.map V.int))=G6;obtain ⟨sq6,eq6⟩:=gen_upd gG nq6;refine ⟨_,rfl,z2_,fun q7 nq7=>?_⟩;generalize gG:upd G6 q7 (.tup [.ref q6,.ref ma])=G7;obtain ⟨sq7,eq7⟩:=gen_upd gG nq7;refine ⟨_,rfl,_,rfl,ma,_,rfl,.inr (SqT.of ((sq6.trans sq7).tk _ _ (tk _ _ hma))),fun q8 nq8 mq8=>?_⟩
     generalize gG:upd G7 q8 (.lst (x1.2.map V.int))=G8;obtain ⟨sq8,eq8⟩:=gen_upd gG nq8;refine ⟨z2_,fun q9 nq9=>?_⟩;generalize gG:upd G8 q9 (.tup [.ref oa,.ref q8])=G9;obtain ⟨sq9,eq9⟩:=gen_upd gG nq9;refine ⟨_,rfl,_,rfl,z2_,fun q10 nq10=>?_⟩;generalize gG:upd G9 q10 (.tup [.ref ma,.ref oa])=G10;obtain ⟨sq10,eq10⟩:=gen_upd gG nq10;refine ⟨_,rfl,z1_,fun q11 nq11=>?_⟩;generalize gG:upd G10 q11 (.tup [.ref oa])=G11;obtain ⟨sq11,eq11⟩:=gen_upd gG nq11;refine ⟨z4_,fun q12 nq12=>?_⟩;generalize gG:upd G11 q12 (.lst [.ref q7,.ref q9,.ref q10,.ref q11])=G12;obtain ⟨sq12,eq12⟩:=gen_upd gG nq12;have s18:=(sq6.trans (sq7.trans (sq8.trans (sq9.trans (sq10.trans (sq11.trans sq12))))));refine ⟨L1,q12,XS,_,rfl,rfl,s18 _ _ eL,((Same.refl G12) _ _ eq12),(by show XS.length+4≤1000;omega),fun L2' nL2=>?_⟩;have T3:=Thg.cat (p:=L2') (ys:=[.ref q7,.ref q9,.ref q10,.ref q11]) (m:=10) Nl hD hl g kk st17 s18 nL2 (n18_ rfl) (Tgs.cons (sd_2 ((sq8.trans (sq9.trans (sq10.trans (sq11.trans sq12)))) _ _ eq7) (Zsp ((sq7.trans (sq8.trans (sq9.trans (sq10.trans (sq11.trans sq12))))) _ _ eq6) ((hD.same (Same.refl H17)).new nq6) mq6 io) (Xm ((sq6.trans (sq7.trans (sq8.trans (sq9.trans (sq10.trans (sq11.trans sq12)))))).tk _ _ (tk _ _ hma)) im)) (Tgs.cons (sd_2 ((sq10.trans (sq11.trans sq12)) _ _ eq9) (Xm ((sq6.trans (sq7.trans (sq8.trans (sq9.trans (sq10.trans (sq11.trans sq12)))))).tk _ _ (tk _ _ hoa)) io) (Zsp ((sq9.trans (sq10.trans (sq11.trans sq12))) _ _ eq8) ((hD.same (sq6.trans sq7)).new nq8) mq8 im)) (Tgs.cons (sd_2 ((sq11.trans sq12) _ _ eq10) (Xm ((sq6.trans (sq7.trans (sq8.trans (sq9.trans (sq10.trans (sq11.trans sq12)))))).tk _ _ (tk _ _ hma)) im) (Xm ((sq6.trans (sq7.trans (sq8.trans (sq9.trans (sq10.trans (sq11.trans sq12)))))).tk _ _ (tk _ _ hoa)) io)) (Tgs.cons (sd_1 (sq12 _ _ eq11) (Xm ((sq6.trans (sq7.trans (sq8.trans (sq9.trans (sq10.trans (sq11.trans sq12)))))).tk _ _ (tk _ _ hoa)) io)) Tgs.nil))));have st18:=(st17.same s18).new (o:=.lst (XS++[.ref q7,.ref q9,.ref q10,.ref q11])) nL2;generalize upd G12 L2' (.lst (XS++[.ref q7,.ref q9,.ref q10,.ref q11]))=H18 at T3 st18 ⊢;clear g hD eL Nl NL hl kk tk;obtain ⟨N,XS,Nl,NL,hD,eL,hl,neL,g,iL,kk⟩:=T3;have tk:=tkS kk st15;refine m (sq fun M m=>?_);refine ⟨_,rfl,.inl ⟨rfl,_,SqL.of eL⟩,_,rfl,l,N,rfl,st18,Nl,hD,fun H19 vo ko st19 to=>?_⟩;refine ⟨L2',XS,_,rfl,rfl,ko _ _ neL eL,by rw [sizeLine_eq];omega,?_⟩;have T4:=Thg.app Nl NL (Dom.keepS hD ko st19) (ko _ _ neL eL) hl neL (Tgs.keepS Nl st18 g ko) iL (kk.trans ko) (to.up (by decide) (by decide) (by decide));have st20:=st19.keep (Keep.upd (l:=L2') (o:=.lst (XS++[vo]))) (fun z=>neL z.symm);generalize upd H19 L2' (.lst (XS++[vo]))=H20 at T4 st20 ⊢;clear g hD eL Nl NL hl kk tk ko to st19;obtain ⟨N,XS,Nl,NL,hD,eL,hl,neL,g,iL,kk⟩:=T4;have tk:=tkS kk st15;refine m (sq fun M m=>?_);refine ⟨_,rfl,_,rfl,_,rfl,ma,x1.2,rfl,((Same.refl H20).tk _ _ (tk _ _ hma)),by have:=im.1;omega,fun G30 tr1 s30 htr1=>?_⟩;refine ⟨z2_,fun q13 nq13=>?_⟩
     generalize gG:upd G30 q13 (.tup [.ref oa,.ref tr1])=G13;obtain ⟨sq13,eq13⟩:=gen_upd gG nq13;refine ⟨_,rfl,oa,x1.1,rfl,((s30.trans sq13).tk _ _ (tk _ _ hoa)),by have:=io.1;omega,fun G31 tr2 s31 htr2=>?_⟩;refine ⟨_,rfl,z2_,fun q14 nq14=>?_⟩;generalize gG:upd G31 q14 (.tup [.ref tr2,.ref ma])=G14;obtain ⟨sq14,eq14⟩:=gen_upd gG nq14;refine ⟨z2_,fun q15 nq15=>?_⟩;generalize gG:upd G14 q15 (.lst [.ref q13,.ref q14])=G15;obtain ⟨sq15,eq15⟩:=gen_upd gG nq15;have s32:=(s30.trans (sq13.trans (s31.trans (sq14.trans sq15))));refine ⟨L2',q15,XS,_,rfl,rfl,s32 _ _ eL,((Same.refl G15) _ _ eq15),(by show XS.length+2≤1000;omega),fun L3 nL3=>?_⟩;have T5:=Thg.cat (p:=L3) (ys:=[.ref q13,.ref q14]) (m:=13) Nl hD hl g kk st20 s32 nL3 (n18_ rfl) (Tgs.cons (sd_2 ((s31.trans (sq14.trans sq15)) _ _ eq13) (Xm ((s30.trans (sq13.trans (s31.trans (sq14.trans sq15)))).tk _ _ (tk _ _ hoa)) io) (Zsr ((sq13.trans (s31.trans (sq14.trans sq15))) _ _ htr1) im)) (Tgs.cons (sd_2 (sq15 _ _ eq14) (Zsr ((sq14.trans sq15) _ _ htr2) io) (Xm ((s30.trans (sq13.trans (s31.trans (sq14.trans sq15)))).tk _ _ (tk _ _ hma)) im)) Tgs.nil));have st33:=(st20.same s32).new (o:=.lst (XS++[.ref q13,.ref q14])) nL3;generalize upd G15 L3 (.lst (XS++[.ref q13,.ref q14]))=H33 at T5 st33 ⊢;clear g hD eL Nl NL hl kk tk;obtain ⟨N,XS,Nl,NL,hD,eL,hl,neL,g,iL,kk⟩:=T5;have tk:=tkS kk st15;refine m (sq fun M m=>?_);refine ⟨_,rfl,_,rfl,z4_,fun q16 nq16=>?_⟩;generalize gG:upd H33 q16 (.tup [.int 1,.int 1,.int 0,.int 0])=G16;obtain ⟨sq16,eq16⟩:=gen_upd gG nq16;refine ⟨z2_,fun q17 nq17=>?_⟩;generalize gG:upd G16 q17 (.tup [.ref oa,.ref q16])=G17;obtain ⟨sq17,eq17⟩:=gen_upd gG nq17;refine ⟨z0_,fun q18 nq18=>?_⟩;generalize gG:upd G17 q18 (.tup [])=G18;obtain ⟨sq18,eq18⟩:=gen_upd gG nq18;refine ⟨_,rfl,z2_,fun q19 nq19=>?_⟩;generalize gG:upd G18 q19 (.tup [.ref q18,.ref ma])=G19;obtain ⟨sq19,eq19⟩:=gen_upd gG nq19;refine ⟨z2_,fun q20 nq20=>?_⟩;generalize gG:upd G19 q20 (.lst [.ref q17,.ref q19])=G20;obtain ⟨sq20,eq20⟩:=gen_upd gG nq20;have s34:=(sq16.trans (sq17.trans (sq18.trans (sq19.trans sq20))));refine ⟨L3,q20,XS,_,rfl,rfl,s34 _ _ eL,((Same.refl G20) _ _ eq20),(by show XS.length+2≤1000;omega),fun L4 nL4=>?_⟩;have T6:=Thg.cat (p:=L4) (ys:=[.ref q17,.ref q19]) (m:=15) Nl hD hl g kk st33 s34 nL4 (n18_ rfl) (Tgs.cons (sd_2 ((sq18.trans (sq19.trans sq20)) _ _ eq17) (Xm ((sq16.trans (sq17.trans (sq18.trans (sq19.trans sq20)))).tk _ _ (tk _ _ hoa)) io) (Xm (ns:=[1,1,0,0]) ((sq17.trans (sq18.trans (sq19.trans sq20))) _ _ eq16) ⟨by decide,by decide⟩)) (Tgs.cons (sd_2 (sq20 _ _ eq19) (Xm (ns:=[]) ((sq19.trans sq20) _ _ eq18) ⟨by decide,by simp⟩) (Xm ((sq16.trans (sq17.trans (sq18.trans (sq19.trans sq20)))).tk _ _ (tk _ _ hma)) im)) Tgs.nil));have st35:=(st33.same s34).new (o:=.lst (XS++[.ref q17,.ref q19])) nL4;generalize upd G20 L4 (.lst (XS++[.ref q17,.ref q19]))=H35 at T6 st35 ⊢
     clear g hD eL Nl NL hl kk tk;obtain ⟨N,XS,Nl,NL,hD,eL,hl,neL,g,iL,kk⟩:=T6;have tk:=tkS kk st15;refine m (sq fun M m=>?_);refine ⟨_,rfl,rfl,fun H36 ml mus s36 em am=>⟨ml,rfl,⟨_,SqL.of em⟩,fun D nD=>?_⟩⟩;have mlen:=am.1;refine lc_T (k:=.l) (vs:=mus) (fun H v (M:List Int)=>∃ p b,v=.ref p∧H p=some (.tup [.ref oa,.ref b])∧H b=some (.tup (M.map V.int))) (fun _ _ _ _ t ⟨p,b,e,h1,h2⟩=>⟨p,b,e,t _ _ h1,t _ _ h2⟩) MSRT mlen.symm (by rw [mlen];decide) nD em (fun i w H37 C hw s37 c=>?_) (fun H37 us37 s37 e37 a37=>?_)
     · obtain ⟨M,eM,b,rfl,hb⟩:=am.get hw;refine ⟨_,rfl,_,rfl,z2_,fun p np=>?_⟩;exact c _ _ M (Same.new np) eM ⟨p,b,rfl,Zc,(Same.new np) _ _ (s37 _ _ hb)⟩
     have s38:=s36.trans s37;have u8:us37.length=8:=a37.1;refine ⟨L4,D,XS,us37,rfl,rfl,s38 _ _ eL,e37,by omega,fun L5 nL5=>?_⟩
     have T7:=Thg.cat (p:=L5) (ys:=us37) (m:=23) Nl hD hl g kk st35 s38 nL5 (by omega) fun v hv=>by
      obtain ⟨i,hi,e⟩:=n37_ hv;obtain ⟨M,eM,p,b,e2,h1,h2⟩:=a37.get (n1_ hi);rw [e] at e2;subst e2;have hM:=Zmp M (Zdc.mem_iff.mp (n10_ eM));exact sd_2 h1 (Xm (s38.tk _ _ (tk _ _ hoa)) io) (Xm h2 ⟨by have:=hM.1;omega,fun n hn=>n76_ (hM.2 n hn) (by decide)⟩)
     have st39:=(st35.same s38).new (o:=.lst (XS++us37)) nL5;generalize upd H37 L5 (.lst (XS++us37))=H39 at T7 st39 ⊢;clear g hD eL Nl NL hl kk tk;refine m (sq fun M m=>?_);refine ⟨_,rfl,by decide,by decide,?_⟩;refine Zf6 (fun i σ H40=>∃ w10 w11 w12 w13:Option V,σ=[some (.ref a),u1,some (.ref l),some x,some (.ref dl),some (.ref oa),some (.ref ma),some (.ref t2),some (.ref dr),some (.ref L5),w10,w11,w12,w13]∧Thg l H15 H40 L5 (23+i)∧StAt H40 l) ⟨_,_,_,_,rfl,T7,st39⟩ ?_ ?_
     · rintro i σ H40 hi ⟨w10,w11,w12,w13,rfl,T,st40⟩
       obtain ⟨N,XS,Nl,NL,hD,eL,hl,neL,g,iL,kk⟩:=T;have tk:=tkS kk st15;obtain ⟨z1,z2⟩:=Zlx io im;refine sqF fun E e2=>?_;refine ⟨_,rfl,.inl ⟨rfl,_,SqL.of eL⟩,_,rfl,_,rfl,_,rfl,z2_,fun p np=>?_⟩;generalize gG:upd H40 p (.tup [.ref oa,.ref ma])=G40;obtain ⟨sp,ep⟩:=gen_upd gG np;refine ⟨l,N,100,.ref p,datX x1,rfl,st40.same sp,Nl,hD.same sp,(dt_X ep (sp _ _ (tk _ _ hoa)) (sp _ _ (tk _ _ hma)) io im).up (by decide),by decide,z1,by omega,fun H41 vb kb stb tb=>?_⟩;refine ⟨L5,XS,_,rfl,rfl,kb _ _ neL (sp _ _ eL),by rw [sizeLine_eq];omega,?_⟩;refine e2 ⟨_,_,_,_,rfl,Thg.app Nl NL (Dom.keepS (hD.same sp) kb stb) (kb _ _ neL (sp _ _ eL)) hl neL (Tgs.keepS Nl (st40.same sp) (g.same sp) kb) iL (kk.trans (sp.keep.trans kb)) (tb.up (by decide) (by decide) (by omega)),stb.keep Keep.upd (fun z=>neL z.symm)⟩
     · rintro σ H40 ⟨w10,w11,w12,w13,rfl,T,st40⟩
       obtain ⟨N,XS,Nl,NL,hD,eL,hl,neL,g,iL,kk⟩:=T;have tk:=tkS kk st15;have e40:=kk _ _ ndl' e15;have a40:Al (IsTh H40) dus dts:=a15.imp fun v x r=>r.tk tk;have hP40:=hP15.tk tk;refine m ?_;refine ⟨_,rfl,L5,rfl,⟨_,SqL.of eL⟩,?_⟩;refine Xy (n:=XS.length) (fun i σ H41=>∃ w10 w11 w12 w13:Option V,σ=[some (.ref a),u1,some (.ref l),some x,some (.ref dl),some (.ref oa),some (.ref ma),some (.ref t2),some (.ref dr),some (.ref L5),w10,w11,w12,w13]∧Same H40 H41) ⟨_,_,_,_,rfl,Same.refl _⟩ (fun i σ H41 hi p=>?_) (fun σ H41 p=>?_) (fun i z σ H41 H42 hi y p=>?_) (fun σ H41 p=>?_)
       · obtain ⟨_,_,_,_,_,s41⟩:=p;exact ⟨_,XS[i],SqL.of (s41 _ _ eL),n1_ hi⟩
       · obtain ⟨_,_,_,_,_,s41⟩:=p;exact ⟨_,SqL.of (s41 _ _ eL),n7_ _⟩
       · obtain ⟨w10,w11,w12,w13,rfl,s41⟩:=p;obtain ⟨rfl,yx⟩:=y;have ex:=yx _ (SqL.of (s41 _ _ eL));obtain ⟨d,hd,dd,dz⟩:=(g.same s41) z (n10_ ex);obtain ⟨nzt,dpt⟩:=Zuq ok p4 dd dz;have dat:∀ {G:Hp} {q:Addr},G q=some (.tup [x,z])→Same H42 G→Dt N G 101 (.ref q) (.tuple [datP P',d]):=fun e s=>.tup e (.cons ((dt_P (hP40.tk (s41.trans s).tk) ok).up (by decide)) (.cons (hd.same s) .nil));refine sqE fun E M e3 m=>?_;refine ⟨_,rfl,_,rfl,z2_,fun p np=>?_⟩;generalize gG:upd H42 p (.tup [x,z])=H43;obtain ⟨sp,ep⟩:=gen_upd gG np;refine ⟨N,101,_,.tuple [datP P',d],rfl,dat ep sp,by decide,dpt,nzt,?_⟩;refine ⟨_,rfl,N,101,z,d,rfl,hd.same sp,by decide,by omega,by omega,?_⟩;have s43:=s41.trans sp;have e43:=s43 _ _ e40;refine ⟨_,rfl,dl,rfl,⟨_,SqL.of e43⟩,fun D nD=>?_⟩;refine lc_T (k:=.l) (vs:=dus) (fun _ v (s:Str)=>v=.str s) (fun _ _ _ _ _ e=>e) (dts.map fun x=>(datX x).shown) (by rw [n5_];exact dlen.symm) (by omega) nD e43 (fun i w H44 C hw s44 c=>?_) (fun H44 us s44 e44 a44=>?_)
         · obtain ⟨y,ey,ty,ay,by',rfl,h1,h2,h3⟩:=a40.get hw;obtain ⟨f1,f2,f3,f4⟩:=l8.2 y (n10_ ey);have i1:In64 y.1:=⟨f1,f3⟩;have i2:In64 y.2:=⟨by omega,f4⟩;obtain ⟨z1,z2⟩:=Zlx i1 i2;have s:=s43.trans s44;exact ⟨_,rfl,(fun _=>False),64,_,datX y,rfl,dt_X (s _ _ h1) (s _ _ h2) (s _ _ h3) i1 i2,by decide,by omega,by omega,c _ _ _ (Same.refl _) (by rw [n6_,ey];rfl) rfl⟩
         rw [Zd3 a44] at e44;refine ⟨D,_,rfl,.inl (SqL.of e44),rfl,by rw [List.all_map];exact n32_.mpr fun _ _=>rfl,?_⟩;rw [if_neg (by simp),Zs8 pm11 d];refine ⟨_,_,rfl,?_⟩;have s45:=sp.trans s44;refine m ?_;refine ⟨_,rfl,_,rfl,x,z,P',N,101,d,rfl,hP40.tk (s41.trans s45).tk,ok,hd.same s45,by omega,fun H46 s46=>?_⟩;refine ⟨N,101,_,.bool _,rfl,.bl _,by decide,n42_ _,n18_ rfl,?_⟩;refine ⟨_,rfl,N,101,_,.bool _,rfl,.bl _,by decide,n42_ _,n18_ rfl,rfl,_,rfl,?_⟩;rw [n24_ rfl];refine iteF ?_;refine ⟨_,rfl,_,rfl,z2_,fun p2 np2=>?_⟩;have s47:Same H42 (upd H46 p2 (.tup [x,z])):=s45.trans (s46.trans (Same.new np2));refine ⟨N,101,_,.tuple [datP P',d],rfl,dat Zc s47,by decide,dpt,nzt,_,rfl,rfl,_,rfl,?_⟩;rw [n24_ rfl];refine iteF ?_;exact e3 ⟨_,_,_,_,rfl,s41.trans s47⟩
       · obtain ⟨w10,w11,w12,w13,rfl,s41⟩:=p;exact e1 ⟨_,_,_,_,_,_,_,_,_,_,_,_,rfl,s9.trans (k1015.trans (kk.trans s41.keep)),st40.same s41⟩
   · obtain ⟨u1,w3,w4,w5,w6,w7,w8,w9,w10,w11,w12,w13,rfl,s9,st9⟩:=p;refine e0 ⟨_,_,_,_,_,_,_,_,_,_,_,_,_,rfl,fun b' o e=>?_⟩;have ne:=Zm (s2 _ _ e) nl;exact s9 _ _ ne (k48 _ _ ne (s3 _ _ (s2 _ _ e)))
end
structure Lk (K:PySem.W.Frag) (b:Str) (st:Stmt) (f:Addr):Prop where
 fn:∃ fd,Fun K b b st f fd
 a:PySem.W.nsIn K mainGlobals b=some (some (.ref f))
 k:PySem.W.keepIn K (.ref f)=true
theorem Zv1 {K:PySem.W.Frag} {b:Str} {st:Stmt} {f:Addr} {od an:Option Addr} {sl:Array (Option Value)} {oc kV dc pm cd ct:Value} (a:PySem.W.nsIn K mainGlobals b=some (some (.ref f))) (l:K.lookup f=some ⟨oc,od,.func (PySem.W.fnOf b b (X6 st) (Xv st) (Zf st) .none kV dc pm an cd ct),sl⟩) (c:PySem.W.codeIn K cd b=true) (k:PySem.W.keepIn K (.ref f)=true):Lk K b st f:=⟨⟨_,Zp6 (st:=st) l c k⟩,a,k⟩
theorem Lk.cal {P:Program} {w:World} {K:PySem.W.Frag} {h:Heap} {mg:Str→Option Value} {base:Heap} {b:Str} {st:Stmt} {f:Addr} {k:Nat} {ps:List Str} {sp:Sp} (L:Lk K b st f) (X:K.In h) (G:h.Ns mainGlobals mg) (ok:∀ {fd},Fun K b b st f fd→FnOk P w K mg base CX0 k f fd ps sp) (hb:∀ (kV doc pm:Value) (an:Option Addr) (cdv ct:Value) (us:List Value),us.length=ps.length→bindArgs (PySem.W.fnOf b b (X6 st) (Xv st) (Zf st) .none kV doc pm an cdv ct) ⟨us,[]⟩=pure (ps.zip us)):Cal P w K mg base b k ps sp :=
 let ⟨_,F⟩:=L.fn
 ⟨f,_,ok F,PySem.W.mg_of X G L.a,L.k,F.binds (ps:=ps) hb⟩
theorem ln1 {P:List Value→Prop} (h:∀ x0,P [x0]):∀ us:List Value,us.length=1→P us:=fun us e=>match us,e with|[x0],_=>h x0
theorem ln2 {P:List Value→Prop} (h:∀ x0 x1,P [x0,x1]):∀ us:List Value,us.length=2→P us:=fun us e=>match us,e with|[x0,x1],_=>h x0 x1
theorem ln3 {P:List Value→Prop} (h:∀ x0 x1 x2,P [x0,x1,x2]):∀ us:List Value,us.length=3→P us:=fun us e=>by obtain ⟨x,y,z,rfl⟩:=len3 e;exact h x y z
theorem Zue {l:PySem.W.OpenLaw} {w:World} {K:PySem.W.Frag} {h:Heap} {mg:Str→Option Value} {fa:Addr} (X:K.In h) (G:h.Ns mainGlobals mg) (hfa:mg "law" = some (.ref fa))
 {f_0:Addr} (h_0:Lk K "is_whole" Zcc f_0)
 {f_1:Addr} (h_1:Lk K "is_between" Zay f_1)
 {f_2:Addr} (h_2:Lk K "is_row" Zfe f_2)
 {f_3:Addr} (h_3:Lk K "are_rising" Zad f_3)
 {f_4:Addr} (h_4:Lk K "is_corner" Zbh f_4)
 {f_5:Addr} (h_5:Lk K "are_corners" Zai f_5)
 {f_6:Addr} (h_6:Lk K "turn" Zl3 f_6)
 {f_7:Addr} (h_7:Lk K "turn_of" Zdb f_7)
 {f_8:Addr} (h_8:Lk K "is_piece" Zba f_8)
 {f_9:Addr} (h_9:Lk K "are_pieces" X3 f_9)
 {f_10:Addr} (h_10:Lk K "are_thicks" Zau f_10)
 {f_11:Addr} (h_11:Lk K "is_stuff" Zb8 f_11)
 {f_12:Addr} (h_12:Lk K "triangle" Za6 f_12)
 {f_13:Addr} (h_13:Lk K "edges" Zh2 f_13)
 {f_14:Addr} (h_14:Lk K "lies_in" Zbo f_14)
 {f_15:Addr} (h_15:Lk K "parts_from" X1 f_15)
 {f_16:Addr} (h_16:Lk K "are_apart" Zbk f_16)
 {f_17:Addr} (h_17:Lk K "every_corner_is_used" Yp f_17)
 {f_18:Addr} (h_18:Lk K "no_strange_corner" Yb f_18)
 {f_19:Addr} (h_19:Lk K "fit_together" Y0 f_19)
 {f_20:Addr} (h_20:Lk K "is_plate" Zb4 f_20)
 {f_21:Addr} (h_21:Lk K "look_at_plate" Xr f_21)
 {f_22:Addr} (h_22:Lk K "order_by" X8 f_22)
 {f_23:Addr} (h_23:Lk K "leads_pieces" Xi f_23)
 {f_24:Addr} (h_24:Lk K "turnings_of" Zal f_24)
 {f_25:Addr} (h_25:Lk K "is_turning_of" Xw f_25)
 {f_26:Addr} (h_26:Lk K "is_turning" Za4 f_26)
 {f_27:Addr} (h_27:Lk K "_law_cell_at" X7 f_27)
 {f_28:Addr} (h_28:Lk K "_law_state" Za2 f_28)
 {f_29:Addr} (h_29:Lk K "_law_choice" Zaa f_29)
 {f_30:Addr} (h_30:Lk K "_law_order" Za0 f_30)
 {f_31:Addr} (h_31:Lk K "_law_shapes" Zan f_31)
 {f_32:Addr} (h_32:Lk K "_law_plate" Y4 f_32)
 {f_33:Addr} (h_33:Lk K "_law_odd" Zb5 f_33)
 {f_34:Addr} (h_34:Lk K "_law_whole" Zaw f_34)
 {f_35:Addr} (h_35:Lk K "_law_bent" X2 f_35)
 {f_36:Addr} (h_36:Lk K "_law_even_plate" Z7 f_36)
 {f_37:Addr} (h_37:Lk K "_law_matrices" Xu f_37)
 {f_38:Addr} (h_38:Lk K "_law_order_by" Yh f_38)
 {f_39:Addr} (h_39:Lk K "_law_turnings" Yj f_39)
 {f_40:Addr} (h_40:Lk K "_law_true" Zbj f_40)
 {f_law:Addr} {od_law an_law:Option Addr} {sl_law:Array (Option Value)} {oc_law kV_law dc_law pm_law cd_law ct_law:Value}
 (a_law:PySem.W.nsIn K mainGlobals "law" = some (some (.ref f_law)))
 (l_law:K.lookup f_law=some ⟨oc_law,od_law,.func (PySem.W.fnOf "law" "law" (X6 Zd5) (Xv Zd5) (Zf Zd5) .none kV_law dc_law pm_law an_law cd_law ct_law),sl_law⟩)
 (c_law:PySem.W.codeIn K cd_law "law" = true) (k_law:PySem.W.keepIn K (.ref f_law)=true)
 (z_all:PySem.W.nsIn K mainGlobals "all" = some none)
 (z_any:PySem.W.nsIn K mainGlobals "any" = some none)
 (z_bool:PySem.W.nsIn K mainGlobals "bool" = some none)
 (z_dict:PySem.W.nsIn K mainGlobals "dict" = some none)
 (z_enumerate:PySem.W.nsIn K mainGlobals "enumerate" = some none)
 (z_int:PySem.W.nsIn K mainGlobals "int" = some none)
 (z_isinstance:PySem.W.nsIn K mainGlobals "isinstance" = some none)
 (z_len:PySem.W.nsIn K mainGlobals "len" = some none)
 (z_list:PySem.W.nsIn K mainGlobals "list" = some none)
 (z_max:PySem.W.nsIn K mainGlobals "max" = some none)
 (z_min:PySem.W.nsIn K mainGlobals "min" = some none)
 (z_range:PySem.W.nsIn K mainGlobals "range" = some none)
 (z_repr:PySem.W.nsIn K mainGlobals "repr" = some none)
 (z_set:PySem.W.nsIn K mainGlobals "set" = some none)
 (z_sorted:PySem.W.nsIn K mainGlobals "sorted" = some none)
 (z_tuple:PySem.W.nsIn K mainGlobals "tuple" = some none)
 (z_zip:PySem.W.nsIn K mainGlobals "zip" = some none)
 {tn_FARTHEST:Tok} (n_FARTHEST:PySem.W.nsIn K mainGlobals "FARTHEST" = some (some (.int 100 tn_FARTHEST)))
 {tn_FEWEST_CORNERS:Tok} (n_FEWEST_CORNERS:PySem.W.nsIn K mainGlobals "FEWEST_CORNERS" = some (some (.int 3 tn_FEWEST_CORNERS)))
 {tn_MOST_CORNERS:Tok} (n_MOST_CORNERS:PySem.W.nsIn K mainGlobals "MOST_CORNERS" = some (some (.int 30 tn_MOST_CORNERS)))
 {tn_MOST_PIECES:Tok} (n_MOST_PIECES:PySem.W.nsIn K mainGlobals "MOST_PIECES" = some (some (.int 40 tn_MOST_PIECES)))
 {tn_MOST_STUFF:Tok} (n_MOST_STUFF:PySem.W.nsIn K mainGlobals "MOST_STUFF" = some (some (.int 9 tn_MOST_STUFF)))
 {tn_THICKEST:Tok} (n_THICKEST:PySem.W.nsIn K mainGlobals "THICKEST" = some (some (.int 9 tn_THICKEST)))
 {m_:Addr} (g_M:PySem.W.nsIn K mainGlobals "MATRICES" = some (some (.ref m_))) (e_M:∃ rs,KTu K m_ rs∧Al (fun v ns=>∃ a,v=.ref a∧KTu K a (ns.map V.int)) rs MATS)
 : ∃ fd:FuncData,(∀ (s:Shared) (v:Value),BindsTo s fd ⟨[v],[]⟩ [("_law_script",v)])∧∀ base:Heap,K.In base→base.Ns mainGlobals mg→FnOk l.prog w K mg base CX0 9 fa fd ["_law_script"] (Ziz K):=by
 have e:=hfa.symm.trans (PySem.W.mg_of X G a_law);cases e
 have T:Bt mg:=⟨n38_ X G z_all,n38_ X G z_any,n38_ X G z_bool,n38_ X G z_dict,n38_ X G z_enumerate,n38_ X G z_int,n38_ X G z_isinstance,n38_ X G z_len,n38_ X G z_list,n38_ X G z_max,n38_ X G z_min,n38_ X G z_range,n38_ X G z_repr,n38_ X G z_set,n38_ X G z_sorted,n38_ X G z_tuple,n38_ X G z_zip,⟨_,PySem.W.mg_of X G n_FARTHEST⟩,⟨_,PySem.W.mg_of X G n_FEWEST_CORNERS⟩,⟨_,PySem.W.mg_of X G n_MOST_CORNERS⟩,⟨_,PySem.W.mg_of X G n_MOST_PIECES⟩,⟨_,PySem.W.mg_of X G n_MOST_STUFF⟩,⟨_,PySem.W.mg_of X G n_THICKEST⟩⟩;have G0:MatK K mg:=let ⟨rs,h1,h2⟩:=e_M;⟨m_,rs,PySem.W.mg_of X G g_M,h1,h2⟩;have F_law:=Zp6 (st:=Zd5) l_law c_law k_law;refine ⟨PySem.W.fnOf "law" "law" (X6 Zd5) (Xv Zd5) (Zf Zd5) .none kV_law dc_law pm_law an_law cd_law ct_law,fun s v=>.of_eq rfl,fun base _ _=>?_⟩;have C_0:a0_ l.prog w K mg base:=h_0.cal X G (fun F=>Zib T F) fun _ _ _ _ _ _=>ln1 fun _=>rfl;have C_1:a1_ l.prog w K mg base:=h_1.cal X G (fun F=>Ze8 T F C_0) fun _ _ _ _ _ _=>ln3 fun _ _ _=>rfl;have C_2:a2_ l.prog w K mg base:=h_2.cal X G (fun F=>Zlk T F) fun _ _ _ _ _ _=>ln3 fun _ _ _=>rfl;have C_x3:a5_ l.prog w K mg base:=h_3.cal X G (fun F=>Zd6 T F) fun _ _ _ _ _ _=>ln1 fun _=>rfl;have C_x4:a7_ l.prog w K mg base:=h_3.cal X G (fun F=>Zd4 T F) fun _ _ _ _ _ _=>ln1 fun _=>rfl;have C_4:a3_ l.prog w K mg base:=h_4.cal X G (fun F=>Zg0 T F C_1 C_2) fun _ _ _ _ _ _=>ln1 fun _=>rfl;have C_5:a15_ l.prog w K mg base:=h_5.cal X G (fun F=>Zed T F C_4 C_2) fun _ _ _ _ _ _=>ln1 fun _=>rfl;have C_6:a4_ l.prog w K mg base:=h_6.cal X G (fun F=>Zq7 T F) fun _ _ _ _ _ _=>ln3 fun _ _ _=>rfl;have C_7:a6_ l.prog w K mg base:=h_7.cal X G (fun F=>Zkz T F C_6) fun _ _ _ _ _ _=>ln2 fun _ _=>rfl;have C_8:a8_ l.prog w K mg base:=h_8.cal X G (fun F=>Zhq T F C_x3 C_1 C_2 C_7) fun _ _ _ _ _ _=>ln2 fun _ _=>rfl;have C_9:a16_ l.prog w K mg base:=h_9.cal X G (fun F=>Zf3 T F C_x4 C_8 C_2) fun _ _ _ _ _ _=>ln2 fun _ _=>rfl;have C_10:a17_ l.prog w K mg base:=h_10.cal X G (fun F=>Zfh T F C_1 C_2) fun _ _ _ _ _ _=>ln2 fun _ _=>rfl;have C_11:a20_ l.prog w K mg base:=h_11.cal X G (fun F=>Zh1 T F C_1 C_2) fun _ _ _ _ _ _=>ln1 fun _=>rfl;have C_12:a14_ l.prog w K mg base:=h_12.cal X G (fun F=>Zia T F C_6) fun _ _ _ _ _ _=>ln2 fun _ _=>rfl
 have C_13:a9_ l.prog w K mg base:=h_13.cal X G (fun F=>Zpo T F) fun _ _ _ _ _ _=>ln1 fun _=>rfl;have C_14:a11_ l.prog w K mg base:=h_14.cal X G (fun F=>Zk4 T F C_13 C_6) fun _ _ _ _ _ _=>ln2 fun _ _=>rfl;have C_15:a10_ l.prog w K mg base:=h_15.cal X G (fun F=>Zfy T F C_13 C_6) fun _ _ _ _ _ _=>ln2 fun _ _=>rfl;have C_16:a12_ l.prog w K mg base:=h_16.cal X G (fun F=>Zg2 T F C_15) fun _ _ _ _ _ _=>ln2 fun _ _=>rfl;have C_17:a18_ l.prog w K mg base:=h_17.cal X G (fun F=>Zak T F) fun _ _ _ _ _ _=>ln2 fun _ _=>rfl;have C_18:a13_ l.prog w K mg base:=h_18.cal X G (fun F=>Zbd T F C_14) fun _ _ _ _ _ _=>ln3 fun _ _ _=>rfl;have C_19:a19_ l.prog w K mg base:=h_19.cal X G (fun F=>Zdk T F C_16 C_18 C_12) fun _ _ _ _ _ _=>ln2 fun _ _=>rfl;have C_20:a21_ l.prog w K mg base:=h_20.cal X G (fun F=>Ziw T F C_5 C_9 C_10 C_17 C_19 C_2 C_11) fun _ _ _ _ _ _=>ln1 fun _=>rfl;have C_21:a28_ l.prog w K mg base:=h_21.cal X G (fun F=>Zcu T F C_20) fun _ _ _ _ _ _=>ln1 fun _=>rfl;have C_x23:a25_ l.prog w K mg base:=h_0.cal X G (fun F=>Zhp T F) fun _ _ _ _ _ _=>ln1 fun _=>rfl;have C_x24:a24_ l.prog w K mg base:=h_2.cal X G (fun F=>Zk5 T F) fun _ _ _ _ _ _=>ln3 fun _ _ _=>rfl;have C_22:a23_ l.prog w K mg base:=h_22.cal X G (fun F=>Zin T F) fun _ _ _ _ _ _=>ln2 fun _ _=>rfl;have C_23:a22_ l.prog w K mg base:=h_23.cal X G (fun F=>Zc4 T F) fun _ _ _ _ _ _=>ln2 fun _ _=>rfl;have C_24:a26_ l.prog w K mg base:=h_24.cal X G (fun F=>Zeb T F G0 C_23 C_22) fun _ _ _ _ _ _=>ln1 fun _=>rfl;have C_25:a27_ l.prog w K mg base:=h_25.cal X G (fun F=>Zcr T F C_x24 C_x23 C_24) fun _ _ _ _ _ _=>ln2 fun _ _=>rfl;have C_26:a43_ l.prog w K mg base:=h_26.cal X G (fun F=>Ze7 T F C_25 C_21) fun _ _ _ _ _ _=>ln2 fun _ _=>rfl;have C_27:a29_ l.prog w K mg base:=h_27.cal X G (fun F=>Zdj T F) fun _ _ _ _ _ _=>ln2 fun _ _=>rfl;have C_28:a40_ l.prog w K mg base:=h_28.cal X G (fun F=>Zez T F C_27) fun _ _ _ _ _ _=>ln2 fun _ _=>rfl;have C_29:a30_ l.prog w K mg base:=h_29.cal X G (fun F=>Zec T F) fun _ _ _ _ _ _=>ln2 fun _ _=>rfl
 have C_30:a31_ l.prog w K mg base:=h_30.cal X G (fun F=>Zfq T F C_29) fun _ _ _ _ _ _=>ln2 fun _ _=>rfl;have C_31:a32_ l.prog w K mg base:=h_31.cal X G (fun F=>Zd7 T F) fun _ _ _ _ _ _=>fun us hl=>match us,hl with|[],_=>rfl
 have C_32:a39_ l.prog w K mg base:=h_32.cal X G (fun F=>Zfp T F C_29 C_30 C_31) fun _ _ _ _ _ _=>ln2 fun _ _=>rfl;have C_33:a33_ l.prog w K mg base:=h_33.cal X G (fun F=>Zh7 T F C_29) fun _ _ _ _ _ _=>ln1 fun _=>rfl;have C_34:a34_ l.prog w K mg base:=h_34.cal X G (fun F=>Zfz T F) fun _ _ _ _ _ _=>ln1 fun _=>rfl;have C_xI:Cal l.prog w K mg base "_law_bent" 2 ["_law_state_here","_law_thing"] (Ze6 0):=h_35.cal X G (fun F=>Zfg T F) fun _ _ _ _ _ _=>ln2 fun _ _=>rfl;have C_x38:Cal l.prog w K mg base "_law_bent" 3 ["_law_state_here","_law_thing"] (Zdx 0):=h_35.cal X G (fun F=>Zaj (n:=0) T F C_xI C_29 C_33 C_34) fun _ _ _ _ _ _=>ln2 fun _ _=>rfl;have C_x39:Cal l.prog w K mg base "_law_bent" 4 ["_law_state_here","_law_thing"] (Zdx 1):=h_35.cal X G (fun F=>Zaj (n:=1) T F C_x38 C_29 C_33 C_34) fun _ _ _ _ _ _=>ln2 fun _ _=>rfl;have C_x40:a37_ l.prog w K mg base:=h_35.cal X G (fun F=>Zaj (n:=2) T F C_x39 C_29 C_33 C_34) fun _ _ _ _ _ _=>ln2 fun _ _=>rfl;have C_36:a38_ l.prog w K mg base:=h_36.cal X G (fun F=>Zb0 T F C_29 C_30) fun _ _ _ _ _ _=>ln1 fun _=>rfl;have C_37:a35_ l.prog w K mg base:=h_37.cal X G (fun F=>Zcn T F) fun _ _ _ _ _ _=>fun us hl=>match us,hl with|[],_=>rfl
 have C_38:a36_ l.prog w K mg base:=h_38.cal X G (fun F=>Zcs T F) fun _ _ _ _ _ _=>ln2 fun _ _=>rfl;have C_39:a42_ l.prog w K mg base:=h_39.cal X G (fun F=>Zcq T F C_37 C_38) fun _ _ _ _ _ _=>ln1 fun _=>rfl;have C_40:a41_ l.prog w K mg base:=h_40.cal X G (fun F=>Zgf T F) fun _ _ _ _ _ _=>ln1 fun _=>rfl;exact Zs5 T F_law C_x40 C_29 C_36 C_37 C_33 C_30 C_32 C_28 C_40 C_39 C_26
theorem walk {l:PySem.W.OpenLaw} {q:Program} {loose:List Str} {XP:(Str→Option Value)→Heap→Prop} {YP:World→Heap→Prop} {d:DefRec} {K:Params→PySem.W.Frag} (hn:l.most=some 63) (hdf:d.params.defaults=[])
 (hY:∀ (w:World) (h:Heap),YP w h→(K w.params).In h)
 (F:∀ (w:World) (mg:Str→Option Value) (fa:Addr) (h:Heap),(K w.params).In h→h.Ns mainGlobals mg→mg d.name=some (.ref fa) →
   ∃ fd:FuncData,(∀ (s:Shared) (u:Value),BindsTo s fd ⟨[u],[]⟩ [("_law_script",u)])∧∀ base:Heap,(K w.params).In base→base.Ns mainGlobals mg→FnOk l.prog w (K w.params) mg base CX0 9 fa fd ["_law_script"] (Ziz (K w.params))) :
 PySem.W.WalkO q loose XP YP l.row.toRowW d [] (fun f vs=>PySem.call f vs) :=
 L2.Zrk (n:=63) (k:=9) (x := "_law_script") (CX:=fun _=>CX0) (sp:=fun w=>Ziz (K w.params)) hn (by decide) hdf ⟨rfl,by decide,by decide,rfl⟩ hY F (fun _ _ a ns hl _ hS=>⟨a,ns,rfl,hS,hl,fun _=>rfl⟩) fun _ _ _ _ _ z=>z
end My

namespace My
open PySem PySem.W PyProof.Rows L2
set_option maxRecDepth 1000000
set_option maxHeartbeats 0
noncomputable def gE (P:Params) (n:Str) (t:Tok) (v:Value):DictEntry:=⟨PySem.PyData.keyHash P n,.str n t,v⟩
def gR (P:Params) (n:Str) (t:Tok) (a:Addr):DictEntry:=gE P n t (.ref a)
def fO (n:Str) (i:Nat) (m:Str) (mt:Tok) (c:Addr) (dv:Value):Obj:={ cls:=.type "function",data:=.func (PySem.W.fnOf n n (X6 (top i)) (Xv (top i)) (Zf (top i)) dv .none .none (.str m mt) none (.ref c) .none) }
def cO (n:Str) (a:Tok) (l k:Int) (r s:Addr) (u v:Value) (t:Nat):Obj:={ cls:=.type "code",data:=.fields (Array.mk [.str n a,.str n (a+1),.str "/claim/cut.py" (a+2),.int l 0,.int k 0,.int 0 0,.int 0 0,.int 3 0,.ref r,.bool true,.int 181 0,.ref (r+1),.none,u,v,.ref s,.int t 0,.int l 0,.str "/claim/cut.py" (t+1)]) }
def dR (n:Str) (i:Nat) (m:Str) (mt a:Tok) (l k:Int) (r:Addr) (t:Nat):Frag:=[(r+6,fO n i m mt (r+5) .none),(r+5,cO n a l k r (r+4) (.ref (r+2)) (.ref (r+3)) t)]
def dN (n:Str) (i:Nat) (m:Str) (mt a:Tok) (l k:Int) (r:Addr) (t:Nat):Frag:=[(r+4,fO n i m mt (r+3) .none),(r+3,cO n a l k r (r+2) .none .none t)]
def Zul (s:Stmt):Pos:=match s with|.FunctionDef _ _ _ _ _ _ _ _ _ p=>p|_=>⟨0,0,0,0⟩
def m0:Str := "platerest.quotients"
def m1:Str := "platerest.plates"
def m2:Str := "platerest.turnings"
def m3:Str := "law_platerest_k61_turnings_judged"
noncomputable def kK (P:Params):Frag:=(3,{ cls:=.type "dict",data:=(.dict #[gE P "__name__" 165 (.str "law_platerest_k61_turnings_judged" 473),
gE P "__doc__" 166 (.none),
gE P "__package__" 167 (.none),
gE P "__loader__" 168 (.builtin "__main__.__loader__#opaque"),
gE P "__spec__" 169 (.none),
gR P "__annotations__" 170 6,
gR P "__builtins__" 171 4,
gE P "__file__" 173 (.str "/claim/cut.py" 172),
gE P "__cached__" 174 (.none),
gR P "PlateError" 206 24,
gR P "NoPlate" 222 37,
gR P "is_whole" 231 46,
gE P "FEWEST_CORNERS" 235 (.int 3 234),
gE P "MOST_CORNERS" 237 (.int 30 236),
gE P "FARTHEST" 239 (.int 100 238),
gE P "MOST_PIECES" 241 (.int 40 240),
gE P "THICKEST" 243 (.int 9 242),
gE P "MOST_STUFF" 245 (.int 9 244),
gR P "is_between" 254 53,
gR P "is_row" 263 60,
gR P "are_rising" 269 65,
gR P "is_corner" 275 70,
gR P "are_corners" 281 75,
gR P "turn" 291 82,
gR P "turn_of" 299 89,
gR P "is_piece" 305 94,
gR P "are_pieces" 311 99,
gR P "are_thicks" 317 104,
gR P "is_stuff" 324 111,
gR P "triangle" 330 116,
gR P "edges" 337 123,
gR P "lies_in" 343 128,
gR P "parts_from" 349 133,
gR P "are_apart" 357 140,
gR P "every_corner_is_used" 363 145,
gR P "no_strange_corner" 369 150,
gR P "fit_together" 375 155,
gR P "is_plate" 386 162,
gR P "look_at_plate" 393 169,
gR P "MATRICES" 436 178,
gR P "order_by" 442 183,
gR P "leads_pieces" 448 188,
gR P "turnings_of" 458 195,
gR P "is_turning_of" 464 200,
gR P "is_turning" 472 207,
gR P "_law_cell_at" 482 214,
gR P "_law_state" 491 221,
gR P "_law_choice" 501 228,
gR P "_law_order" 511 235,
gR P "_law_shapes" 525 242,
gR P "_law_plate" 531 247,
gR P "_law_odd" 539 254,
gR P "_law_whole" 546 261,
gR P "_law_bent" 557 268,
gR P "_law_even_plate" 563 273,
gR P "_law_matrices" 571 280,
gR P "_law_order_by" 577 285,
gR P "_law_turnings" 583 290,
gR P "_law_true" 589 295,
gR P "law" 595 300] 60) }) :: (dR "is_whole" 4 m0 223 225 7 1 40 229 ++
dR "is_between" 12 m1 232 246 16 3 47 252 ++
dR "is_row" 13 m1 232 255 18 3 54 261 ++
dN "are_rising" 14 m1 232 264 20 1 61 267 ++
dN "is_corner" 15 m1 232 270 22 1 66 273 ++
dN "are_corners" 16 m1 232 276 24 1 71 279 ++
dR "turn" 17 m1 232 282 28 3 76 289 ++
dR "turn_of" 18 m1 232 292 31 2 83 297 ++
dN "is_piece" 19 m1 232 300 33 2 90 303 ++
dN "are_pieces" 20 m1 232 306 37 2 95 309 ++
dN "are_thicks" 21 m1 232 312 41 2 100 315 ++
dR "is_stuff" 22 m1 232 318 45 1 105 322 ++
dN "triangle" 23 m1 232 325 49 2 112 328 ++
dR "edges" 24 m1 232 331 54 1 117 335 ++
dN "lies_in" 25 m1 232 338 56 2 124 341 ++
dN "parts_from" 26 m1 232 344 58 2 129 347 ++
dR "are_apart" 27 m1 232 350 63 2 134 355 ++
dN "every_corner_is_used" 28 m1 232 358 65 2 141 361 ++
dN "no_strange_corner" 29 m1 232 364 67 3 146 367 ++
dN "fit_together" 30 m1 232 370 70 2 151 373 ++
dR "is_plate" 31 m1 232 376 78 1 156 384 ++
dR "look_at_plate" 32 m1 232 387 87 1 163 391 ++
dN "order_by" 35 m2 394 437 92 2 179 440 ++
dN "leads_pieces" 36 m2 394 443 98 2 184 446 ++
dR "turnings_of" 37 m2 394 449 104 1 189 456 ++
dN "is_turning_of" 38 m2 394 459 111 2 196 462 ++
dR "is_turning" 39 m2 394 465 117 2 201 470 ++
dR "_law_cell_at" 41 m3 473 475 121 2 208 480 ++
dR "_law_state" 42 m3 473 483 125 2 215 489 ++
dR "_law_choice" 43 m3 473 492 128 2 222 499 ++
dR "_law_order" 44 m3 473 502 138 2 229 509 ++
dR "_law_shapes" 45 m3 473 512 143 0 236 523 ++
dN "_law_plate" 46 m3 473 526 153 2 243 529 ++
dR "_law_odd" 47 m3 473 532 166 1 248 537 ++
dR "_law_whole" 48 m3 473 540 169 1 255 544 ++
dR "_law_bent" 49 m3 473 547 171 2 262 555 ++
dN "_law_even_plate" 50 m3 473 558 183 1 269 561 ++
dR "_law_matrices" 51 m3 473 564 199 0 274 569 ++
dN "_law_order_by" 52 m3 473 572 204 2 281 575 ++
dN "_law_turnings" 53 m3 473 578 213 1 286 581 ++
dN "_law_true" 54 m3 473 584 223 1 291 587 ++
dN "law" 55 m3 473 590 225 1 296 593 ++
[(178,{ cls:=.type "tuple",data:=.seq #[.ref 170,.ref 171,.ref 172,.ref 173,.ref 174,.ref 175,.ref 176,.ref 177] 0 }),(170,{ cls:=.type "tuple",data:=.seq #[.int 1 396,.int 0 397,.int 0 398,.int 1 399] 0 }),(171,{ cls:=.type "tuple",data:=.seq #[.int 1 400,.int 0 401,.int 0 402,.int (-1) 404] 0 }),(172,{ cls:=.type "tuple",data:=.seq #[.int (-1) 406,.int 0 407,.int 0 408,.int 1 409] 0 }),(173,{ cls:=.type "tuple",data:=.seq #[.int (-1) 411,.int 0 412,.int 0 413,.int (-1) 415] 0 }),(174,{ cls:=.type "tuple",data:=.seq #[.int 0 416,.int 1 417,.int 1 418,.int 0 419] 0 }),(175,{ cls:=.type "tuple",data:=.seq #[.int 0 420,.int 1 421,.int (-1) 423,.int 0 424] 0 }),(176,{ cls:=.type "tuple",data:=.seq #[.int 0 425,.int (-1) 427,.int 1 428,.int 0 429] 0 }),(177,{ cls:=.type "tuple",data:=.seq #[.int 0 430,.int (-1) 432,.int (-1) 434,.int 0 435] 0 })])
def kA:List Addr:=[3,46,45,53,52,60,59,65,64,70,69,75,74,82,81,89,88,94,93,99,98,104,103,111,110,116,115,123,122,128,127,133,132,140,139,145,144,150,149,155,154,162,161,169,168,183,182,188,187,195,194,200,199,207,206,214,213,221,220,228,227,235,234,242,241,247,246,254,253,261,260,268,267,273,272,280,279,285,284,290,289,295,294,300,299,178,170,171,172,173,174,175,176,177]
theorem kAs:∀ P,kA=(kK P).map (·.1):=fun _=>by kernel_rfl
theorem h3:∀ w os,(topK pw 3706 w os).map (fun s=>kA.map s.abs.heap.get?)=some ((kK w.params).map fun p=>some p.2):=fun w os=>by
  unfold topK topStub;rw [PySem.W.Fast.te4652649595001227023,PySem.W.Fast.te14364793385576792824,PySem.W.Fast.te17154629097778926822,PySem.W.Fast.te12822647523644345616]
  kernel_rfl
theorem left:LeftO pw qq ll (fun s=>xlAt qq [] s&&recOk (RowW.records (OpenRow.toRowW rr)) s) (Hook.obs (kHook kK kA kAs)) (Hook.val (kHook kK kA kAs)) 3706 :=
  Zhz (T0:=bootT) (life:={}) (by kernel_rfl) (by kernel_rfl) (fun s=>by kernel_rfl) Zo1 Zml (Zgi (R:=topK pw 3706) h1 h2 h3)
theorem lk4 {P:Params} {b:Str} {i:Nat} {f:Addr} (c:Addr) (m:Str) (mt:Tok) (h:((kK P).lookup f,PySem.W.nsIn (kK P) mainGlobals b,PySem.W.codeIn (kK P) (.ref c) b,PySem.W.keepIn (kK P) (.ref f))=(some (fO b i m mt c .none),some (some (.ref f)),true,true)):Lk (kK P) b (top i) f:=Zv1 (Prod.mk.inj (Prod.mk.inj h).2).1 (Prod.mk.inj h).1 (Prod.mk.inj (Prod.mk.inj (Prod.mk.inj h).2).2).1 (Prod.mk.inj (Prod.mk.inj (Prod.mk.inj h).2).2).2
theorem Zte (P:Params):(kK P).lookup 300=some (fO "law" 55 m3 473 299 .none):=by kernel_rfl
theorem Ztj (P:Params):PySem.W.nsIn (kK P) mainGlobals "law" = some (some (.ref 300)):=by kernel_rfl
theorem Zua (P:Params):PySem.W.codeIn (kK P) (.ref 299) "law" = true:=by kernel_rfl
theorem Zuh (P:Params):PySem.W.keepIn (kK P) (.ref 300)=true:=by kernel_rfl
theorem Zu5 (P:Params):(kK P).lookup 178=some ({ cls:=.type "tuple",data:=.seq #[.ref 170,.ref 171,.ref 172,.ref 173,.ref 174,.ref 175,.ref 176,.ref 177] 0 }:Obj):=by kernel_rfl
theorem Zu9 (P:Params):(kK P).lookup 170=some ({ cls:=.type "tuple",data:=.seq #[.int 1 396,.int 0 397,.int 0 398,.int 1 399] 0 }:Obj):=by kernel_rfl
theorem Zvd (P:Params):(kK P).lookup 171=some ({ cls:=.type "tuple",data:=.seq #[.int 1 400,.int 0 401,.int 0 402,.int (-1) 404] 0 }:Obj):=by kernel_rfl
theorem Zvq (P:Params):(kK P).lookup 172=some ({ cls:=.type "tuple",data:=.seq #[.int (-1) 406,.int 0 407,.int 0 408,.int 1 409] 0 }:Obj):=by kernel_rfl
theorem Zvv (P:Params):(kK P).lookup 173=some ({ cls:=.type "tuple",data:=.seq #[.int (-1) 411,.int 0 412,.int 0 413,.int (-1) 415] 0 }:Obj):=by kernel_rfl
theorem Zvc (P:Params):(kK P).lookup 174=some ({ cls:=.type "tuple",data:=.seq #[.int 0 416,.int 1 417,.int 1 418,.int 0 419] 0 }:Obj):=by kernel_rfl
theorem Zve (P:Params):(kK P).lookup 175=some ({ cls:=.type "tuple",data:=.seq #[.int 0 420,.int 1 421,.int (-1) 423,.int 0 424] 0 }:Obj):=by kernel_rfl
theorem Zva (P:Params):(kK P).lookup 176=some ({ cls:=.type "tuple",data:=.seq #[.int 0 425,.int (-1) 427,.int 1 428,.int 0 429] 0 }:Obj):=by kernel_rfl
theorem Zvw (P:Params):(kK P).lookup 177=some ({ cls:=.type "tuple",data:=.seq #[.int 0 430,.int (-1) 432,.int (-1) 434,.int 0 435] 0 }:Obj):=by kernel_rfl
theorem Zhx (P:Params):PySem.W.nsIn (kK P) mainGlobals "MATRICES" = some (some (.ref 178)):=by kernel_rfl
theorem Zh0 (P:Params):∃ rs,KTu (kK P) 178 rs∧Al (fun v ns=>∃ a,v=.ref a∧KTu (kK P) a (ns.map V.int)) rs MATS:=⟨[.ref 170,.ref 171,.ref 172,.ref 173,.ref 174,.ref 175,.ref 176,.ref 177],⟨_,_,_,Zu5 P,rfl,rfl,(by show 8≤sizeLine;decide),(.cons (show RelV (.ref 170) (Value.ref 170) from rfl) (.cons (show RelV (.ref 171) (Value.ref 171) from rfl) (.cons (show RelV (.ref 172) (Value.ref 172) from rfl) (.cons (show RelV (.ref 173) (Value.ref 173) from rfl) (.cons (show RelV (.ref 174) (Value.ref 174) from rfl) (.cons (show RelV (.ref 175) (Value.ref 175) from rfl) (.cons (show RelV (.ref 176) (Value.ref 176) from rfl) (.cons (show RelV (.ref 177) (Value.ref 177) from rfl) .nil))))))))⟩,(.cons ⟨170,rfl,_,_,_,Zu9 P,rfl,rfl,(by show 4≤sizeLine;decide),(.cons ⟨_,rfl⟩ (.cons ⟨_,rfl⟩ (.cons ⟨_,rfl⟩ (.cons ⟨_,rfl⟩ .nil))))⟩ (.cons ⟨171,rfl,_,_,_,Zvd P,rfl,rfl,(by show 4≤sizeLine;decide),(.cons ⟨_,rfl⟩ (.cons ⟨_,rfl⟩ (.cons ⟨_,rfl⟩ (.cons ⟨_,rfl⟩ .nil))))⟩ (.cons ⟨172,rfl,_,_,_,Zvq P,rfl,rfl,(by show 4≤sizeLine;decide),(.cons ⟨_,rfl⟩ (.cons ⟨_,rfl⟩ (.cons ⟨_,rfl⟩ (.cons ⟨_,rfl⟩ .nil))))⟩ (.cons ⟨173,rfl,_,_,_,Zvv P,rfl,rfl,(by show 4≤sizeLine;decide),(.cons ⟨_,rfl⟩ (.cons ⟨_,rfl⟩ (.cons ⟨_,rfl⟩ (.cons ⟨_,rfl⟩ .nil))))⟩ (.cons ⟨174,rfl,_,_,_,Zvc P,rfl,rfl,(by show 4≤sizeLine;decide),(.cons ⟨_,rfl⟩ (.cons ⟨_,rfl⟩ (.cons ⟨_,rfl⟩ (.cons ⟨_,rfl⟩ .nil))))⟩ (.cons ⟨175,rfl,_,_,_,Zve P,rfl,rfl,(by show 4≤sizeLine;decide),(.cons ⟨_,rfl⟩ (.cons ⟨_,rfl⟩ (.cons ⟨_,rfl⟩ (.cons ⟨_,rfl⟩ .nil))))⟩ (.cons ⟨176,rfl,_,_,_,Zva P,rfl,rfl,(by show 4≤sizeLine;decide),(.cons ⟨_,rfl⟩ (.cons ⟨_,rfl⟩ (.cons ⟨_,rfl⟩ (.cons ⟨_,rfl⟩ .nil))))⟩ (.cons ⟨177,rfl,_,_,_,Zvw P,rfl,rfl,(by show 4≤sizeLine;decide),(.cons ⟨_,rfl⟩ (.cons ⟨_,rfl⟩ (.cons ⟨_,rfl⟩ (.cons ⟨_,rfl⟩ .nil))))⟩ .nil))))))))⟩
def dL:DefRec:=⟨"law",X6 (top 55),Xv (top 55),Zf (top 55),Zul (top 55)⟩
theorem hdL:defOf qq (OpenRow.toRowW rr).name=some (dL,[]):=by kernel_rfl
theorem hpL:(OpenRow.toRowW rr).prog.theDef (OpenRow.toRowW rr).name=some (dL.params,dL.body,dL.scope):=by kernel_rfl
theorem hkL:kwWritten? dL.params.kwonlyargs dL.params.kw_defaults=some []:=by kernel_rfl
theorem okL:(chainsOk qq&&opensWell (OpenRow.toRowW rr).prog&&(frees (OpenRow.toRowW rr)&&(OpenRow.toRowW rr).within.isEmpty))=true:=by kernel_rfl
theorem dfL:dL.params.defaults=[]:=by kernel_rfl
theorem wkL:WalkO qq ll (XL qq []) (Hook.says (kHook kK kA kAs)) (OpenRow.toRowW rr) dL [] (fun f vs=>PySem.call f vs):=by
  refine My.walk (l:=PySem.Challenge.rw_platerest_k61_turnings_judged) rfl dfL (fun w h Y=>PySem.W.kIn_of Y) ?F;intro w mg fa h KX G hmg;exact Zue KX G hmg (lk4 (f:=46) 45 m0 223 (by kernel_rfl)) (lk4 (f:=53) 52 m1 232 (by kernel_rfl)) (lk4 (f:=60) 59 m1 232 (by kernel_rfl)) (lk4 (f:=65) 64 m1 232 (by kernel_rfl)) (lk4 (f:=70) 69 m1 232 (by kernel_rfl)) (lk4 (f:=75) 74 m1 232 (by kernel_rfl)) (lk4 (f:=82) 81 m1 232 (by kernel_rfl)) (lk4 (f:=89) 88 m1 232 (by kernel_rfl)) (lk4 (f:=94) 93 m1 232 (by kernel_rfl)) (lk4 (f:=99) 98 m1 232 (by kernel_rfl)) (lk4 (f:=104) 103 m1 232 (by kernel_rfl)) (lk4 (f:=111) 110 m1 232 (by kernel_rfl)) (lk4 (f:=116) 115 m1 232 (by kernel_rfl)) (lk4 (f:=123) 122 m1 232 (by kernel_rfl)) (lk4 (f:=128) 127 m1 232 (by kernel_rfl)) (lk4 (f:=133) 132 m1 232 (by kernel_rfl)) (lk4 (f:=140) 139 m1 232 (by kernel_rfl)) (lk4 (f:=145) 144 m1 232 (by kernel_rfl)) (lk4 (f:=150) 149 m1 232 (by kernel_rfl)) (lk4 (f:=155) 154 m1 232 (by kernel_rfl)) (lk4 (f:=162) 161 m1 232 (by kernel_rfl)) (lk4 (f:=169) 168 m1 232 (by kernel_rfl)) (lk4 (f:=183) 182 m2 394 (by kernel_rfl)) (lk4 (f:=188) 187 m2 394 (by kernel_rfl)) (lk4 (f:=195) 194 m2 394 (by kernel_rfl)) (lk4 (f:=200) 199 m2 394 (by kernel_rfl)) (lk4 (f:=207) 206 m2 394 (by kernel_rfl)) (lk4 (f:=214) 213 m3 473 (by kernel_rfl)) (lk4 (f:=221) 220 m3 473 (by kernel_rfl)) (lk4 (f:=228) 227 m3 473 (by kernel_rfl)) (lk4 (f:=235) 234 m3 473 (by kernel_rfl)) (lk4 (f:=242) 241 m3 473 (by kernel_rfl)) (lk4 (f:=247) 246 m3 473 (by kernel_rfl)) (lk4 (f:=254) 253 m3 473 (by kernel_rfl)) (lk4 (f:=261) 260 m3 473 (by kernel_rfl)) (lk4 (f:=268) 267 m3 473 (by kernel_rfl)) (lk4 (f:=273) 272 m3 473 (by kernel_rfl)) (lk4 (f:=280) 279 m3 473 (by kernel_rfl)) (lk4 (f:=285) 284 m3 473 (by kernel_rfl)) (lk4 (f:=290) 289 m3 473 (by kernel_rfl)) (lk4 (f:=295) 294 m3 473 (by kernel_rfl)) (Ztj _) (Zte _) (Zua _) (Zuh _) (by kernel_rfl) (by kernel_rfl) (by kernel_rfl) (by kernel_rfl) (by kernel_rfl) (by kernel_rfl) (by kernel_rfl) (by kernel_rfl) (by kernel_rfl) (by kernel_rfl) (by kernel_rfl) (by kernel_rfl) (by kernel_rfl) (by kernel_rfl) (by kernel_rfl) (by kernel_rfl) (by kernel_rfl) (tn_FARTHEST:=238) (by kernel_rfl) (tn_FEWEST_CORNERS:=234) (by kernel_rfl) (tn_MOST_CORNERS:=236) (by kernel_rfl) (tn_MOST_PIECES:=240) (by kernel_rfl) (tn_MOST_STUFF:=244) (by kernel_rfl) (tn_THICKEST:=242) (by kernel_rfl) (Zhx _) (Zh0 _)
end My
open PySem PySem.W PyProof.Rows
set_option maxRecDepth 1000000 in
set_option maxHeartbeats 0 in
theorem PySem.Challenge.cw_platerest_k61_turnings_judged_holds : PySem.Challenge.rw_platerest_k61_turnings_judged.Holds := by
  refine holds_law My.ws fun said=>?_;refine holds_open (q:=My.qq) (loose:=My.ll) (Xt:=fun s=>xlAt My.qq [] s&&recOk (RowW.records (OpenRow.toRowW My.rr)) s) (XP:=XL My.qq []) (Yf:=Hook.obs (kHook My.kK My.kA My.kAs)) (Ya:=Hook.val (kHook My.kK My.kA My.kAs)) (YP:=Hook.says (kHook My.kK My.kA My.kAs)) My.left (Hook.of (kHook My.kK My.kA My.kAs)) (Hook.keeps (kHook My.kK My.kA My.kAs)) (fun s e=>xl_of s (Bool.and_eq_true_iff.mp e).1) XL.keeps My.hdL My.hpL My.hkL (fun s e=>recFacts_of (Bool.and_eq_true_iff.mp e).2) rfl said My.okL ⟨rfl,rfl,rfl,rfl,rfl,by decide +kernel⟩ ?hw My.wkL
  case hw=>w_witness2
