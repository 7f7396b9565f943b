import PyProof.Rows.All
import Wide.All
import OpenK.AllK
import Wide.FinOn
import Lean
import PyProof.EqAt
import PyProof.EqKinds
import PyProof.TupleCall
import PyProof.NeKinds
import PyProof.ConsumeWalk
import PyProof.ReprRoads
import PyProof.ReprLen
import PyProof.ZipIter
import PyProof.Draws
import PyProof.EnumMake
import PySem.SetTable
import PyProof.WalksMore
import PyProof.SumWalkG
import PyProof.Rows.SortWalk
import PyProof.ListRange
import KE.KSortTup
import PyProof.ListMulRoad
import PyProof.FactsAll.tuple_2
import PyProof.DictItems
import KE.KPairComp
import PyProof.DictCompW
import PyProof.AttrMissHeap
import PyProof.FactsAll.zip
import KE.KDictOf
import PyProof.SetKind
import PyProof.DictKinds
import PyProof.SetRoads
import PyProof.Walks
import PyProof.CollectWalk
import PyProof.Rows.SortShell
import PyProof.CollectIter
import PyProof.Rows.SetFrom
import PyProof.Tail
import PyProof.FactsAll.set_2
import PyProof.FactsAll.dict_3
import PyProof.FactsAll.dict_4
import PySem.Challenge.RW_platerest_k51_loads_and_joins
set_option Elab.async false
set_option linter.all false
set_option maxRecDepth 100000
abbrev PySem.Shared.z (s:PySem.Shared):Nat:=s.heap.objs.size
abbrev n0_:=@List.getElem?_eq_getElem
abbrev n1_:=@PySem.wpAny_bind
abbrev n2_:=@PySem.Heap.get?_push_of_some
abbrev n3_:=@List.length_map
abbrev n4_:=@List.getD_eq_getElem?_getD
abbrev n5_:=@List.getElem?_map
abbrev n6_:=@PySem.wpAny_pure
abbrev n7_:=@Nat.le_refl
abbrev n8_:=@PySem.Heap.get?_push_size
abbrev n9_:=@Nat.lt_of_lt_of_le
abbrev n10_:=@Option.map_eq_some_iff
abbrev n11_:=@List.size_toArray
abbrev n12_:=@List.mem_cons
abbrev n13_:=@PySem.Heap.lt_size
abbrev n14_:=@Nat.lt_of_le_of_lt
abbrev n15_:=@List.mem_cons_of_mem
abbrev n16_:=@List.not_mem_nil
abbrev n17_:=@List.mem_of_getElem?
abbrev n18_:=@List.mem_singleton
abbrev n19_:=@List.map_cons
abbrev n20_:=@List.mem_cons_self
abbrev n21_:=@List.mem_map
abbrev n22_:=@List.getElem?_eq_some_iff
abbrev n23_:=@Nat.ne_of_lt
abbrev n24_:=@List.getElem_mem
abbrev n25_:=@Nat.pow_le_pow_right
abbrev n26_:=@List.mem_append_right
abbrev n27_:=@Bool.false_ne_true
abbrev n28_:=@PySem.Builtin.SmallTypes.nextOf
abbrev n29_:=@List.length_cons
abbrev n30_:=@Rat.intCast_mul
abbrev n31_:=@Nat.le_trans
abbrev n32_:=@List.mem_range
abbrev n33_:=@List.length_append
abbrev n34_:=@List.take_of_length_le
abbrev n35_:=@decide_eq_false
abbrev n36_:=@List.mem_append
abbrev n37_:=@Bool.and_eq_true
abbrev n38_:=@PySem.wpAny_holding
abbrev n39_:=@Bool.false_eq_true
abbrev n40_:=@PySem.mem_of_lookup
abbrev n41_:=@PySem.W.mg_none_of
abbrev n42_:=@List.getD_cons_zero
abbrev n43_:=@List.getD_cons_succ
abbrev n44_:=@decide_eq_true
abbrev n45_:=@PySem.Builtin.SmallTypes.ownedTupleIsFree
abbrev n46_:=@List.sum_cons
abbrev n47_:=@Nat.zero_le
abbrev n48_:=@PySem.Heap.size_push
abbrev n49_:=@of_decide_eq_true
abbrev n50_:=@List.getElem_of_mem
abbrev n51_:=@Rat.add_zero
abbrev n52_:=@List.all_eq_true
abbrev n53_:=@Int.natAbs_mul
abbrev n54_:=@Nat.mul_le_mul
abbrev n55_:=@Nat.lt_succ_of_lt
abbrev n56_:=@PySem.wpAny_mono
abbrev n57_:=@List.map_congr_left
abbrev n58_:=@List.getElem?_eq_none
abbrev n59_:=@List.zipWith_cons_cons
abbrev n60_:=@List.length_take
abbrev n61_:=@List.nil_append
abbrev n62_:=@List.map_append
abbrev n63_:=@Int.toNat_natCast
abbrev n64_:=@PyProof.Rows.callWith_type1
abbrev n65_:=@PySem.Heap.get?_update_self
abbrev n66_:=@List.getElem?_append_right
abbrev n67_:=@List.cons_append
abbrev n68_:=@Rat.divInt_eq_div
abbrev n69_:=@List.length_range
abbrev n70_:=@List.map_nil
abbrev n71_:=@List.zipWith_nil_right
abbrev n72_:=@List.getElem?_append_left
abbrev n73_:=@Int.fmod_nonneg_of_pos
abbrev n74_:=@Rat.intCast_add
abbrev n75_:=@Nat.ne_of_gt
abbrev n76_:=@List.take_succ_cons
abbrev n77_:=@List.take_succ
abbrev n78_:=@List.getElem?_range
abbrev n79_:=@List.zipWith_nil_left
abbrev n80_:=@Option.bind_eq_some_iff
abbrev n81_:=@Int.mul_comm
abbrev n82_:=@PySem.W.kia_one
abbrev n83_:=@List.replicate_succ
abbrev n84_:=@List.pairwise_iff_getElem
abbrev n85_:=@List.drop_succ_cons
abbrev n86_:=@List.drop_zero
abbrev n87_:=@Nat.lt_succ_self
abbrev n88_:=@List.flatMap_cons
abbrev n89_:=@List.mem_map_of_mem
abbrev n90_:=@Rat.num_divInt_den
abbrev n91_:=@List.ext_getElem
abbrev n92_:=@Int.fmod_lt_of_pos
abbrev n93_:=@Nat.lt_irrefl
set_option hygiene false
set_option compiler.extract_closed false
local macro_rules
|`(?d)=>`(by omega)
|`(?e)=>`((by decide))
local macro_rules
|`(?f)=>`((by simp))
|`(?g)=>`(List Int)
local macro_rules
|`(?i)=>`(by decide +kernel)
|`(?j)=>`(Shared→Prop)
local macro_rules
|`(?k)=>`(by decide)
|`(?l)=>`(fun _ _=>rfl)
local macro_rules
|`(?o)=>`((Or.inl rfl))
|`(?p)=>`(List Nat)
local macro_rules
|`(?q)=>`(by kernel_rfl)
|`(?s)=>`(Inv X pins σ H s)
local macro_rules
|`(?t)=>`(List Value)
|`(?w)=>`(Hp→Prop)
local macro_rules
|`(?y)=>`((pcOf P n))
|`(?z)=>`(List Rat)
local macro_rules
|`(?A)=>`((model X.prog X.w))
|`(?B)=>`(List (Addr×Obj))
local macro_rules
|`(?C)=>`(Option Value)
|`(?D)=>`((model prog w))
local macro_rules
|`(?E)=>`((.dK kvs))
|`(?G)=>`((Za Zd Zb rfl))
local macro_rules
|`(?H)=>`(Same H H')
|`(?I)=>`(fun cdv A outer s H vs Q E hr h=>?_)
local macro_rules
|`(?J)=>`(⟨_,?term,?read⟩)
|`(?K)=>`(⟨_,rfl⟩)
local macro_rules
|`(?L)=>`(Array Value)
|`(?M)=>`(.type "tuple")
local macro_rules
|`(?N)=>`(List (Key×V))
|`(?O)=>`(Int×Int→Rat)
local macro_rules
|`(?P)=>`((Za (pv 1) Zb rfl))
|`(?Q)=>`((Za (pv 0) Zb rfl))
local macro_rules
|`(?R)=>`((fun _ _ _ _=>Zu))
|`(?S)=>`((.tup [.int 0,.int 1]))
local macro_rules
|`(?T)=>`({ s with heap:=h' })
|`(?U)=>`((ns.map V.int))
local macro_rules
|`(?V)=>`({ s with heap:=h1 })
|`(?W)=>`(List V→Hp→VK→Prop)
local macro_rules
|`(?X)=>`((fun _ _ _ _=>pgB 0))
|`(?Y)=>`((Za (pv 2) Zb rfl))
local macro_rules
|`(?Z)=>`((nI ks).map V.int)
|`(?aa)=>`(Array (Int×Value))
local macro_rules
|`(?ab)=>`((blk X scope cl C N s3 H3 fp))
|`(?ac)=>`((dc2 kx vx t0 i0 t1 i1 scope pos))
local macro_rules
|`(?ad)=>`(q.map fun i=>kl.getD i [])
|`(?ae)=>`(fun _ _ _ _ _ _=>ln1 fun _=>rfl)
local macro_rules
|`(?af)=>`((x == ("__debug__" : Str)))
|`(?ag)=>`(s.heap.get? b=some o→h'.get? b=some o)
local macro_rules
|`(?ah)=>`(absurd (show false=true from hs) n27_)
|`(?ai)=>`((by first|exact Or.inl rfl|exact Or.inr rfl|assumption))
local macro_rules
|`(?aj)=>`({ cls:=.type "dict",data:=.dict #[] })
|`(?ak)=>`((gTup K 2 (Xx (Xb 0) (Xx (Xb 1) gNil))))
local macro_rules
|`(?al)=>`((∀ e u,e≠z→e≠o→e≠i→e≠j→s.heap.get? e=some u→h1.get? e=some u))
|`(?am)=>`((fun _ _ _ _=>Z2 (n:=2) rfl (Zg (pgB 0) (Zg (pgB 1) Zz))))
local macro_rules
|`(?an)=>`({ cls:=.type "range",data:=.fields #[.int lo t,.int hi u,.int 1 v] })
|`(?ao)=>`((List.range (M+1)).filterMap fun j=>(owner.getD j none).map (j,·))
local macro_rules
|`(?ap)=>`(((s.heap.update a (Obj.mapSeq fun _=>#[])).push (seqObj "tuple" vs.toArray 0)).push (seqObj "list" #[] 0))
|`(?aq)=>`(((s.heap.push (seqObj "list" #[] 0)).update s.z (Obj.mapSeq (·++vs.toArray))).push (seqObj "list" vs.toArray 0))
local macro_rules
|`(?ar)=>`((staticsOk (importedModules p.main.body) (boot_heap w.params) s.abs.heap&&namesBound p s.abs.heap&&gensDone s.abs&&laidKept (boot_heap w.params) s.abs.heap))
|`(?as)=>`((alF.imp fun v x r=>Zcf (t37.trans tF) r).snoc ⟨W,_,_,rfl,tF _ _ e7,⟨u1,rfl,tF _ _ ((s6.trans s7) _ _ hu1')⟩,⟨u2,rfl,tF _ _ (s7 _ _ hu2')⟩⟩)
set_option hygiene true
set_option compiler.extract_closed true
namespace L2
open PySem PySem.W PyProof.Rows
def topRunT (tb:String→Option Builtin) (p:Program) (w:World) (n0:Nat) (ann:?C):Nat→SharedT→Thread→Option SharedT
  | 0,_,_=>none
  | n+1,s,t=>match through t with
    | true=>some s
    | false=>match stepOk n0 ann t with
      | false=>none
      | true=>match stepT (denote tb) p w s t with
        | some (s',t')=>topRunT tb p w n0 ann n s' t'
        | none=>none
variable {α:Type} {w:World}
theorem Zg6 {tb:String→Option Builtin} {p:Program} {n0:Nat} {ann:?C}:∀ {n:Nat} {s s':SharedT} {t:Thread},topRunT tb p w n0 ann n s t=some s'→topRun tb p w n0 ann n s.abs t=some s'.abs
  | 0,_,_,_,h=>by cases h
  | n+1,s,s',t,h=>by
    unfold topRunT at h;unfold topRun;cases he:through t with
    | true=>rw [he] at h;cases h;rfl
    | false =>
      rw [he] at h;cases hk:stepOk n0 ann t with
      | false=>rw [hk] at h;cases h
      | true =>
        rw [hk] at h;cases hs:stepT (denote tb) p w s t with
        | none=>rw [hs] at h;cases h
        | some r=>obtain ⟨s2,t2⟩:=r;rw [hs] at h;rw [stepT_spec hs];exact Zg6 h
def btOf:List Obj→Nat→BT→BT
  | [],_,t=>t
  | o :: os,n,t=>btOf os (n+1) (t.ins n o)
theorem Zit {p q:Program} {loose:List Str} {Xt:Shared→Bool} {Yf:Shared→α} {Ya:World→α} {N:Nat} {g0:Bool} {T0:Params→BT} {n0:Nat} {life:Life} {ann:?C}
    (e:opening p=plainProg p.main.scope.names) (hN:Nat.ble 600 N=true) (f:∀ s,fenceModules? p s=some s)
    (h0:∀ P,absHeap (T0 P) n0 life=boot_heap P)
    (size:∀ P,((boot_heap P).isNs mainGlobals,(boot_heap P).objs.size,(boot_heap P).nsMap mainGlobals "__annotations__")=(true,n0,ann))
    (run:∀ (w:World) (os:OsState),(topRunT treeTable p w n0 ann N ⟨T0 w.params,n0,life,Array.mk [],boot_drawn,boot_toks,os⟩ (topStub p)).map (fun s=>(?ar,openSeen q loose (importedModules p.main.body) Xt g0 s.abs,Yf s.abs))=some (true,openGood q loose,Ya w)):LeftO p q loose Xt Yf Ya N g0:=fun w=>by
  obtain ⟨⟨h,gs,d,k,os⟩,e1,e2⟩:=n10_.mp (boot_open e hN f w);obtain ⟨rfl,rfl,rfl,rfl⟩:h=boot_heap w.params∧gs=Array.mk []∧d=boot_drawn∧k=boot_toks:=by simpa using e2
  obtain ⟨z1,z2,z3⟩:_∧_∧_:=by simpa only [Prod.mk.injEq] using size w.params
  obtain ⟨s,r1,r2⟩:=n10_.mp (run w os);obtain ⟨l1,l2,l3⟩:_∧_∧_:=by simpa only [Prod.mk.injEq] using r2
  have r:=Zg6 r1
  have ha:SharedT.abs ⟨T0 w.params,n0,life,Array.mk [],boot_drawn,boot_toks,os⟩=⟨boot_heap w.params,Array.mk [],boot_drawn,boot_toks,os⟩:=by
    unfold SharedT.abs;rw [h0]
  rw [ha] at r
  have t:topFrom treeTable p w N ⟨boot_heap w.params,Array.mk [],boot_drawn,boot_toks,os⟩=some s.abs:=by
    unfold topFrom;dsimp only;rw [z1,z2,z3,r];show (match staticsOk (importedModules p.main.body) (boot_heap w.params) s.abs.heap&&namesBound p s.abs.heap&&gensDone s.abs&&laidKept (boot_heap w.params) s.abs.heap with|true=>_|false=>_)=_
    rw [l1]
  unfold openEnds;rw [e1];show (topFrom treeTable p w N _).map _=_
  rw [t];exact congrArg some (Prod.ext l2 l3)
lay_quick L2.topRunT
end L2
namespace L2
open PySem PySem.W PyProof.Rows
variable {α:Type}
theorem Zhx {p q:Program} {loose:List Str} {Xt:Shared→Bool} {Yf:Shared→α} {Ya:World→α} {g0:Bool} {R:World→OsState→Option SharedT}
    (h1:∀ w os,(R w os).map (fun s=>?ar)=some true)
    (h2:∀ w os,(R w os).map (fun s=>openSeen q loose (importedModules p.main.body) Xt g0 s.abs)=some (openGood q loose))
    (h3:∀ w os,(R w os).map (fun s=>Yf s.abs)=some (Ya w)) (w:World) (os:OsState) :
    (R w os).map (fun s=>(?ar,openSeen q loose (importedModules p.main.body) Xt g0 s.abs,Yf s.abs))=some (true,openGood q loose,Ya w):=by
  have a:=h1 w os;have b:=h2 w os;have c:=h3 w os;cases e:R w os with
  | none=>rw [e] at a;cases a
  | some s =>
    rw [e] at a b c;exact congrArg some (Prod.ext (Option.some.inj a) (Prod.ext (Option.some.inj b) (Option.some.inj c)))
noncomputable abbrev bootT (P:Params):BT:=btOf (boot_heap P).objs.toList 0 .nil
noncomputable def topK (p:Program) (N:Nat) (w:World) (os:OsState):Option SharedT:=topRunT treeTable p w 11 (some (.ref 6)) N ⟨bootT w.params,11,{},Array.mk [],boot_drawn,boot_toks,os⟩ (topStub p)
theorem Zo8:∀ P,absHeap (bootT P) 11 {}=boot_heap P:=fun P=>?q
theorem Zo1:∀ P,((boot_heap P).isNs mainGlobals,(boot_heap P).objs.size,(boot_heap P).nsMap mainGlobals "__annotations__")=(true,11,some (.ref 6)):=fun P=>?q
noncomputable def Zs1 (p:Program) (names:List Str):List Str:=((p.main.body.flatMap bindsAtTop).filter fun x=>!startupNames.contains x&&!names.contains x).eraseDups
end L2

namespace My
open PySem PySem.W PyProof.Rows L2
noncomputable abbrev pw:Program:=PySem.Challenge.pw_platerest_k51_loads_and_joins
noncomputable abbrev rr:OpenRow:=OpenLaw.row PySem.Challenge.rw_platerest_k51_loads_and_joins
noncomputable abbrev qq:Program:=view pw [65]
noncomputable abbrev ll:List Str:=Zs1 pw ["law"]
set_option maxRecDepth 1000000
set_option maxHeartbeats 0
theorem ws:OpenLaw.wellSaid PySem.Challenge.rw_platerest_k51_loads_and_joins=true:=?q
theorem h1:∀ w os,(topK pw 4664 w os).map (fun s=>(staticsOk (importedModules pw.main.body) (boot_heap w.params) s.abs.heap&&namesBound pw s.abs.heap&&gensDone s.abs&&laidKept (boot_heap w.params) s.abs.heap))=some true:=fun w os=>by
  unfold topK topStub;rw [PySem.W.Fast.te4652649595001227023,PySem.W.Fast.te14364793385576792824,PySem.W.Fast.te17154629097778926822,PySem.W.Fast.te12822647523644345616]
  kernel_rfl
theorem h2:∀ w os,(topK pw 4664 w os).map (fun s=>openSeen qq ll (importedModules pw.main.body) (fun s=>xlAt qq [] s&&recOk (RowW.records (OpenRow.toRowW rr)) s) true s.abs)=some (openGood qq ll):=fun w os=>by
  unfold topK topStub;rw [PySem.W.Fast.te4652649595001227023,PySem.W.Fast.te14364793385576792824,PySem.W.Fast.te17154629097778926822,PySem.W.Fast.te12822647523644345616,PySem.W.Fast.te4187177175401517315]
  kernel_rfl
end My
noncomputable section
set_option Elab.async false
set_option linter.all false
set_option maxRecDepth 100000
namespace L2
open PySem PySem.Spec PyProof.Rows
theorem z0_:0≤sizeLine:=?k
theorem z1_:1≤sizeLine:=?k
theorem z2_:2≤sizeLine:=?k
theorem z3_:3≤sizeLine:=?k
theorem z4_:4≤sizeLine:=?k
theorem z5_:5≤sizeLine:=?k
abbrev Key:=Sum Int Str
noncomputable def Zji:Key→Value→Bool
 | .inl k,v=>Value.isInt k v
 | .inr x,v=>Value.isStrOf x v
def keyH (w:World):Key→Int
 | .inl k=>hashInt k
 | .inr x=>hashStr w x
theorem Yg:∀ {k:Key} {v:Value},Zji k v=true→(∃ i t,k=Sum.inl i∧v=Value.int i t)∨(∃ x t,k=Sum.inr x∧v=Value.str x t)
 | .inl i,v,h=>by
   obtain ⟨t,e⟩:=Value.isInt_shape (k:=i) (v:=v) h;exact .inl ⟨i,t,rfl,e⟩
 | .inr x,v,h=>by
   obtain ⟨t,e⟩:=Value.isStrOf_shape (x:=x) (v:=v) h;exact .inr ⟨x,t,rfl,e⟩
theorem Zmw (i:Int) (t:Tok):Zji (.inl i) (.int i t)=true:=by simp [Zji,Value.isInt]
theorem Zou (x:Str) (t:Tok):Zji (.inr x) (.str x t)=true:=by simp [Zji,Value.isStrOf]
theorem Zvi (a b:Int):decide ((Sum.inl a:Key)=Sum.inl b)=(a == b):=by
 by_cases e:a=b
 · subst e;simp
 · have h:¬ (Sum.inl a:Key)=Sum.inl b:=fun q=>e (Sum.inl.inj q);rw [n35_ h];exact (beq_eq_false_iff_ne.mpr e).symm
theorem Zun (a b:Str):decide ((Sum.inr a:Key)=Sum.inr b)=decide (a=b):=by
 by_cases e:a=b
 · subst e;simp
 · have h:¬ (Sum.inr a:Key)=Sum.inr b:=fun q=>e (Sum.inr.inj q);rw [n35_ h,n35_ e]
theorem Zvx (a:Int) (b:Str):decide ((Sum.inl a:Key)=Sum.inr b)=false:=n35_ (fun q=>nomatch q)
theorem Zum (a:Str) (b:Int):decide ((Sum.inr a:Key)=Sum.inl b)=false:=n35_ (fun q=>nomatch q)
def Z4 (prog:Program) (w:World):PySem.KeyKind prog w Key where
 is:=Zji
 hash:=keyH w
 inj:=fun v a b ha hb=>by
  rcases Yg ha with ⟨i,t,rfl,rfl⟩|⟨x,t,rfl,rfl⟩
  · rcases Yg hb with ⟨j,u,rfl,e⟩|⟨y,u,rfl,e⟩
    · injection e with e1 _;rw [e1]
    · exact nomatch e
  · rcases Yg hb with ⟨j,u,rfl,e⟩|⟨y,u,rfl,e⟩
    · exact nomatch e
    · injection e with e1 _;rw [e1]
 byValue:=fun k v h=>by
  rcases Yg h with ⟨i,t,rfl,rfl⟩|⟨x,t,rfl,rfl⟩<;>rfl
 pyHash:=fun hv h=>by
  rcases Yg hv with ⟨i,t,rfl,rfl⟩|⟨x,t,rfl,rfl⟩
  · exact wpAny_pyHash_int h
  · exact wpAny_pyHash_str h
 eqBool:=fun hu hv h=>by
  rcases Yg hu with ⟨i,t,rfl,rfl⟩|⟨x,t,rfl,rfl⟩
  · rcases Yg hv with ⟨j,u,rfl,rfl⟩|⟨y,u,rfl,rfl⟩
    · rw [Zvi] at h;exact wpAny_eqBool_int h
    · rw [Zvx] at h;exact SeqAt.EqAt.int_str i t y u _ _ _ _ h
  · rcases Yg hv with ⟨j,u,rfl,rfl⟩|⟨y,u,rfl,rfl⟩
    · rw [Zum] at h;exact SeqAt.EqAt.str_int x t j u _ _ _ _ h
    · rw [Zun] at h;exact wpAny_eqBool_str h
 «strs»:=fun k x t v h=>by
  rcases Yg h with ⟨i,u,rfl,e⟩|⟨y,u,rfl,e⟩
  · exact nomatch e
  · injection e with e1 _
    subst e1;cases v<;>rfl
theorem Zi8 (prog:Program) (w:World) (i:Int) (t:Tok):(Z4 prog w).is (.inl i) (.int i t)=true:=Zmw i t
theorem Zix (prog:Program) (w:World) (x:Str) (t:Tok):(Z4 prog w).is (.inr x) (.str x t)=true:=Zou x t
inductive V where
 | non|bl (b:Bool)|int (i:Int)|str (x:Str)|byt (b:Array UInt8)|flt (b:UInt64)|ref (a:Addr)|ty (n:String)
 deriving DecidableEq
def RelV:V→Value→Prop
 | .non,u=>u=Value.none
 | .bl b,u=>u=Value.bool b
 | .int i,u=>∃ t,u=Value.int i t
 | .str x,u=>∃ t,u=Value.str x t
 | .byt b,u=>∃ t,u=Value.bytes b t
 | .flt b,u=>∃ t,u=Value.float b t
 | .ref a,u=>u=Value.ref a
 | .ty n,u=>u=Value.type n
abbrev Vals:List V→?t→Prop:=Paired RelV
variable {α:Type} {C a b f it:Addr} {A:Around} {X:Cx} {e tg:Expr} {fd:FuncData} {h:Heap} {H H':Hp} {pins:?B} {ch fp:List Addr} {N ps:List Str} {vs xs:List V} {its us:?t} {M:Model} {i k n t':Nat} {o:Obj} {p pos:Pos} {P:Program} {scope:Scope} {s:Shared} {σ:St} {qual x:Str} {ta:TA} {te tl:TE} {g:TG} {v y:V} {u:Value} {E Q:Value→?j} {w:World}
theorem Vals.length (r:Vals xs us):xs.length=us.length:=Paired.length r
theorem Vals.get:∀ {xs:List V} {us:?t} {i:Nat} {x:V},Vals xs us→xs[i]? = some x→∃ u,us[i]? = some u∧RelV x u
 | _,_,_,_,.nil,e=>by simp at e
 | _,_,0,_,.cons r _,e=>by simp at e;subst e;exact ⟨_,rfl,r⟩
 | _,_,i+1,x,.cons _ t,e=>by
   obtain ⟨u,h1,h2⟩:=Vals.get (i:=i) (x:=x) t (by simpa using e);exact ⟨u,by simpa using h1,h2⟩
theorem Vals.set {x:V} (r:RelV x u):∀ {xs:List V} {us:?t} (i:Nat),Vals xs us→Vals (xs.set i x) (us.set i u)
 | _,_,_,.nil=>.nil
 | _,_,0,.cons _ t=>.cons r t
 | _,_,i+1,.cons q t=>.cons q (Vals.set r i t)
theorem Vals.append {ys:List V} {ws:?t} (h:Vals xs us) (s:Vals ys ws):Vals (xs++ys) (us++ws):=by
 induction h with
 | nil=>exact s
 | cons r _ ih=>exact .cons r ih
theorem Vals.take (n:Nat) (h:Vals xs us):Vals (xs.take n) (us.take n):=by
 induction h generalizing n with
 | nil=>cases n<;>exact .nil
 | cons r _ ih =>
   cases n with
   | zero=>exact .nil
   | succ n=>exact .cons r (ih n)
theorem Vals.drop:∀ {xs:List V} {us:?t} (n:Nat),Vals xs us→Vals (xs.drop n) (us.drop n)
 | _,_,0,r=>r
 | _,_,_+1,.nil=>.nil
 | _,_,n+1,.cons _ t=>Vals.drop n t
def RelO:Option V→?C→Prop
 | some v,some u=>RelV v u
 | none,none=>True
 | _,_=>False
def KV {κ:Type}:List (κ×V)→List (κ×Value)→Prop:=Paired fun (p:κ×V) (q:κ×Value)=>p.1=q.1∧RelV p.2 q.2
noncomputable def kV:Key→V
 | .inl i=>.int i
 | .inr x=>.str x
inductive HO where
 | lst (xs:List V)
 | tup (xs:List V)
 | dK (kvs:?N)|dT (kvs:List (List Key×V))
 | set (S:Int→Bool) (n:Nat)
 | ins (C dx:Addr) (fs:List (Str×V))
 | own (x:Addr)
 | xd (fs:List (Str×V))
 | met (f x:Addr)
 | rng (lo hi:Int)
 | frz (o:Obj) (u:HO)
 | tbl (ps:?L)
 | ext (φ:Heap→Prop)
abbrev Hp:=Addr→Option HO
noncomputable def upd (H:Hp) (a:Addr) (o:HO):Hp:=fun b=>if b=a then some o else H b
theorem Zc {o:HO}:upd H a o a=some o:=by unfold upd;rw [if_pos rfl]
theorem Zl {o:HO} (h:b≠a):upd H a o b=H b:=by unfold upd;rw [if_neg h]
theorem Zqq {o u:HO} (h:H a=some o) (h':H b=some u) (d:o≠u):a≠b:=by
 intro e;subst e;rw [h] at h';exact d (Option.some.inj h')
theorem Zj {o:HO} (h:H a=some o) (h':H b=none):a≠b:=by
 intro e;subst e;rw [h] at h';cases h'
def IsTupN (h:Heap) (a:Addr) (its:?L):Prop:=∃ o,h.get? a=some o∧(o.cls=?M ∧ o.dict=none)∧∃ n,o.data=.seq its n
theorem IsTupN.is {its:?L} (x:IsTupN h a its):IsTup h a its:=let ⟨o,e,c,n,d⟩:=x;⟨o,e,c.1,n,d⟩
theorem IsTupN.new (h:Heap) (its:?L):IsTupN (h.push { cls:=?M,data:=.seq its }) h.objs.size its:=⟨_,n8_ _ rfl,⟨rfl,rfl⟩,_,rfl⟩
section
variable (P:Program) (w:World)
def ObjOk (H:Hp) (h:Heap) (a:Addr):HO→Prop
 | .lst xs=>xs.length≤sizeLine∧∃ (its:?t) (n:Nat),Vals xs its∧h.get? a=some { cls:=.type "list",data:=.seq its.toArray n }
 | .tup xs=>xs.length≤sizeLine∧∃ its:?t,Vals xs its∧IsTupN h a its.toArray
 | .dK kvs=>kvs.length≤sizeLine∧(a == sysModules)=false∧∃ vs,KV kvs vs∧h.DictOf (Z4 P w) a vs
 | .dT kvs=>kvs.length≤sizeLine∧(a == sysModules)=false∧∃ xs:List (List Key×Addr×Value),
    Paired (fun (p:List Key×V) (q:List Key×Addr×Value)=>p.1=q.1∧H q.2.1=some (.tup (p.1.map kV))∧RelV p.2 q.2.2) kvs xs ∧
    ∃ o es ep,h.get? a=some o∧o.ExactDict∧o.data=.dict es ep∧es.toList=xs.map (entryOfKey (tupleKind (Z4 P w)))∧(xs.map (·.1)).Nodup
 | .set S n=>h.SetOf (intKind P w) a S n
 | .ins C dx fs=>H dx=some (.own a)∧fs.length≤1000∧dx≠a∧h.get? a=some (PySem.W.instObj C dx) ∧
    ∃ mA,h.Ns1 dx mA∧(∀ f,RelO (fs.lookup f) (mA f))∧PySem.Within mA (fs.map (·.1))
 | .own _=>∃ o,h.get? a=some o
 | .xd fs=>∃ mA,h.Ns1 a mA∧∀ f,RelO (fs.lookup f) (mA f)
 | .rng lo hi=>∃ t u v,h.get? a=some ?an
 | .frz o u=>h.get? a=some o∧ObjOk H h a u
 | .tbl ps=>h.get? a=some { cls:=.none,data:=.fields ps }
 | .met f x=>h.get? a=some (PySem.W.methodObj (.ref f) (.ref x))
 | .ext φ=>φ h∧(∃ o,h.get? a=some o)∧∀ h1 h2:Heap,φ h1→(∀ o,h1.get? a=some o→h2.get? a=some o)→φ h2
def HOk (H:Hp) (h:Heap):Prop:=∀ a o,H a=some o→ObjOk P w H h a o
end
section
variable {P:Program} {w:World} {H H':Hp} {h h':Heap} {a:Addr} {o:HO}
theorem ObjOk.lt (x:ObjOk P w H h a o):a<h.objs.size:=by
 cases o with
 | lst xs=>obtain ⟨_,_,_,_,e⟩:=x;exact n13_ e
 | tup xs=>obtain ⟨_,_,_,p⟩:=x;exact p.is.lt
 | dK kvs=>obtain ⟨_,_,_,_,o,_,_,e,_⟩:=x;exact n13_ e
 | dT kvs=>obtain ⟨_,_,_,_,o,_,_,e,_⟩:=x;exact n13_ e
 | set S n=>obtain ⟨o,_,_,_,e,_⟩:=x;exact n13_ e
 | ins C dx fs=>obtain ⟨_,_,_,e,_⟩:=x;exact n13_ e
 | own y=>obtain ⟨_,e⟩:=x;exact n13_ e
 | xd fs=>obtain ⟨_,⟨_,_,_,e,_⟩,_⟩:=x;exact n13_ e
 | rng lo hi=>obtain ⟨_,_,_,e⟩:=x;exact n13_ e
 | frz ob u=>obtain ⟨e,_⟩:=x;exact n13_ e
 | tbl ps=>exact n13_ (show h.get? a=some _ from x)
 | met f y=>exact n13_ (show h.get? a=some _ from x)
 | ext φ=>obtain ⟨_,⟨_,e⟩,_⟩:=x;exact n13_ e
theorem Paired.mapP {β:Type} {F G:α→β→Prop} {l₁:List α} {l₂:List β} (h:Paired F l₁ l₂) (f:∀ a b,F a b→G a b):Paired G l₁ l₂:=by
 induction h with
 | nil=>exact .nil
 | cons r _ ih=>exact .cons (f _ _ r) ih
theorem ObjOk.stay (x:ObjOk P w H h a o) (k:∀ b u,(b=a∨H b=some (.own a))→h.get? b=some u→h'.get? b=some u)
 (ho:∀ b,H b=some (.own a)→H' b=some (.own a)) (ht:∀ b xs,H b=some (.tup xs)→H' b=some (.tup xs)):ObjOk P w H' h' a o:=by
 induction o with
 | lst xs=>obtain ⟨z,its,n,r,e⟩:=x;exact ⟨z,its,n,r,k _ _ (.inl rfl) e⟩
 | tup xs=>obtain ⟨z,its,r,ob,e,c⟩:=x;exact ⟨z,its,r,ob,k _ _ (.inl rfl) e,c⟩
 | dK kvs=>obtain ⟨z,y,vs,r,ob,es,ep,e,c⟩:=x;exact ⟨z,y,vs,r,ob,es,ep,k _ _ (.inl rfl) e,c⟩
 | dT kvs =>
   obtain ⟨z,y,xs,r,ob,es,ep,e,c⟩:=x;exact ⟨z,y,xs,Paired.mapP r fun p q z=>⟨z.1,ht _ _ z.2.1,z.2.2⟩,ob,es,ep,k _ _ (.inl rfl) e,c⟩
 | set S n=>obtain ⟨ob,es,ep,t,e,c⟩:=x;exact ⟨ob,es,ep,t,k _ _ (.inl rfl) e,c⟩
 | ins C dx fs =>
   obtain ⟨d,z,ne,e,mA,⟨od,es,ep,e2,c⟩,r⟩:=x;exact ⟨ho _ d,z,ne,k _ _ (.inl rfl) e,mA,⟨od,es,ep,k _ _ (.inr d) e2,c⟩,r⟩
 | own y=>obtain ⟨ob,e⟩:=x;exact ⟨ob,k _ _ (.inl rfl) e⟩
 | xd fs=>obtain ⟨mA,⟨od,es,ep,e,c⟩,r⟩:=x;exact ⟨mA,⟨od,es,ep,k _ _ (.inl rfl) e,c⟩,r⟩
 | rng lo hi=>obtain ⟨t,u,v,e⟩:=x;exact ⟨t,u,v,k _ _ (.inl rfl) e⟩
 | frz ob u ih=>obtain ⟨e,q⟩:=x;exact ⟨k _ _ (.inl rfl) e,ih q⟩
 | tbl ps =>
   have e:h.get? a=some { cls:=.none,data:=.fields ps }:=x;show h'.get? a=some { cls:=.none,data:=.fields ps }
   exact k a _ (.inl rfl) e
 | met f y =>
   have e:h.get? a=some (PySem.W.methodObj (.ref f) (.ref y)):=x;show h'.get? a=some (PySem.W.methodObj (.ref f) (.ref y))
   exact k a _ (.inl rfl) e
 | ext φ=>obtain ⟨p,⟨o,e⟩,st⟩:=x;exact ⟨st _ _ p fun o q=>k _ _ (.inl rfl) q,⟨o,k _ _ (.inl rfl) e⟩,st⟩
theorem HOk.lt (x:HOk P w H h) (e:H a=some o):a<h.objs.size:=(x a o e).lt
theorem HOk.fresh (x:HOk P w H h) (e:h.objs.size≤a):H a=none:=by
 cases q:H a with
 | none=>rfl
 | some u=>exact absurd (n9_ (x.lt q) e) (n93_ _)
theorem HOk.kept (x:HOk P w H h) (k:∀ b u,h.get? b=some u→h'.get? b=some u):HOk P w H h':=fun a o e =>
 (x a o e).stay (fun b u _ q=>k b u q) (fun _ q=>q) fun _ _ q=>q
theorem HOk.laid (x:HOk P w H h) (k:∀ b u,h.get? b=some u→h'.get? b=some u) (hp:h.objs.size≤a) (new:ObjOk P w (upd H a o) h' a o):HOk P w (upd H a o) h':=fun b u e=>by
 have hn:=x.fresh hp
 by_cases hb:b=a
 · subst hb;rw [Zc] at e;cases e;exact new
 · rw [Zl hb] at e;exact (x b u e).stay (fun c v _ q=>k c v q) (fun c q=>by rw [Zl (Zj q hn)];exact q) fun c xs q=>by rw [Zl (Zj q hn)];exact q
end
def Rd (H:Hp) (a:Addr) (u:HO):Prop:=H a=some u∨∃ o,H a=some (.frz o u)
theorem Rd.ok {u:HO} (r:Rd H a u) (x:HOk P w H h):ObjOk P w H h a u:=by
 rcases r with r|⟨o,r⟩
 · exact x a u r
 · obtain ⟨_,q⟩:=x a _ r;exact q
def Mut:Option HO→Prop
 | some (.lst _)=>True
 | some (.dK _)=>True
 | some (.dT _)=>True
 | some (.set _ _)=>True
 | some (.ins _ _ _)=>True
 | some (.ext _)=>True
 | _=>False
section
variable {P:Program} {w:World} {H:Hp} {h h':Heap} {x e:Addr} {o':HO}
theorem HOk.write (ok:HOk P w H h) (mu:Mut (H x)) (he:e=x∨H e=some (.own x)) (k:∀ b u,b≠e→h.get? b=some u→h'.get? b=some u) (heo:∃ u,h'.get? e=some u)
 (new:ObjOk P w (upd H x o') h' x o'):HOk P w (upd H x o') h':=fun b u q=>by
 have nown:∀ c y,H c=some (.own y)→c≠x:=fun c y r z=>by subst z;rw [r] at mu;exact mu
 have ntup:∀ c xs,H c=some (.tup xs)→c≠x:=fun c xs r z=>by subst z;rw [r] at mu;exact mu
 by_cases hb:b=x
 · subst hb;rw [Zc] at q;cases q;exact new
 · rw [Zl hb] at q
   by_cases hbe:b=e
   · have q':H b=some (.own x):=by
      rcases he with z|z
      · exact absurd (hbe.trans z) hb
      · rw [hbe];exact z
     rw [q] at q';cases q';obtain ⟨v,hv⟩:=heo;exact ⟨v,by rw [hbe];exact hv⟩
   · refine (ok b u q).stay (fun c v hc r=>k c v ?_ r) (fun c r=>by rw [Zl (nown c b r)];exact r) fun c xs r=>by rw [Zl (ntup c xs r)];exact r
     rcases hc with rfl|hc
     · exact hbe
     · rintro rfl
       rcases he with z|z
       · exact nown c b hc z
       · rw [hc] at z;cases z;exact hb rfl
end
structure Un (fs ex:List Addr) (H H':Hp) (h h':Heap):Prop where
 keep:∀ b o,h.get? b=some o→H b=none→b∉fs→b∉ex→h'.get? b=some o
 slot:∀ b o,h.get? b=some o→H b=none→b∈fs→b∉ex→∃ sl,h'.get? b=some { o with slots:=sl }
 free:∀ b o,h.get? b=some o→H b=none→b∉ex→H' b=none
 there:∀ b o,h.get? b=some o→b∉ex→∃ o',h'.get? b=some o'
 tups:∀ b xs,H b=some (.tup xs)→H' b=some (.tup xs)
 frzs:∀ b o u,H b=some (.frz o u)→H' b=some (.frz o u)
 tbls:∀ b ps,H b=some (.tbl ps)→∃ more,H' b=some (.tbl (ps++more))
section
variable {fs fs' ex ex':List Addr} {H H1 H2:Hp} {h h1 h2 h':Heap} {a x e:Addr} {o:HO}
theorem Un.any (u:Un fs ex H H1 h h1) {ob:Obj} (q:h.get? b=some ob) (n:H b=none) (hx:b∉ex):∃ sl,h1.get? b=some { ob with slots:=sl }:=by
 by_cases hb:b∈fs
 · exact u.slot b ob q n hb hx
 · exact ⟨ob.slots,u.keep b ob q n hb hx⟩
theorem Un.kept (k:∀ b u,h.get? b=some u→h'.get? b=some u):Un fs ex H H h h' :=
 ⟨fun b ob q _ _ _=>k b ob q,fun b ob q _ _ _=>⟨ob.slots,k b ob q⟩,fun _ _ _ n _=>n,fun b ob q _=>⟨ob,k b ob q⟩,fun _ _ q=>q,fun _ _ _ q=>q,fun _ ps q=>⟨#[],by rw [q];simp⟩⟩
theorem Un.refl:Un fs ex H H h h:=Un.kept fun _ _ q=>q
theorem Un.laid (k:∀ b u,h.get? b=some u→h'.get? b=some u) (hp:h.objs.size≤a) (hn:H a=none):Un fs ex H (upd H a o) h h' where
 keep:=fun b u q _ _ _=>k b u q
 slot:=fun b u q _ _ _=>⟨u.slots,k b u q⟩
 free:=fun b u q n _=>by rw [Zl (n23_ (n9_ (n13_ q) hp))];exact n
 there:=fun b u q _=>⟨u,k b u q⟩
 tups:=fun b xs q=>by rw [Zl (Zj q hn)];exact q
 frzs:=fun b u xs q=>by rw [Zl (Zj q hn)];exact q
 tbls:=fun b ps q=>⟨#[],by rw [Zl (Zj q hn),q];simp⟩
theorem Un.write (mu:Mut (H x)) (he:e=x∨H e=some (.own x)) (k:∀ b u,b≠e→h.get? b=some u→h'.get? b=some u) (heo:∃ u,h'.get? e=some u):Un fs ex H (upd H x o) h h':=by
 have hx:∀ b,H b=none→b≠x:=fun b n z=>by subst z;rw [n] at mu;exact mu
 have hb:∀ b,H b=none→b≠e:=fun b n z=>by
  subst z
  rcases he with r|r
  · exact hx b n r
  · rw [n] at r;cases r
 have hm:∀ b u,H b=some u→¬ Mut (some u)→b≠x:=fun b u q nm z=>by subst z;rw [q] at mu;exact nm mu
 refine ⟨fun b u q n _ _=>k b u (hb b n) q,fun b u q n _ _=>⟨u.slots,k b u (hb b n) q⟩,fun b u q n _=>by rw [Zl (hx b n)];exact n,fun b u q _=>?_,
  fun b xs q=>by rw [Zl (hm b _ q fun z=>z)];exact q,fun b u xs q=>by rw [Zl (hm b _ q fun z=>z)];exact q,fun b ps q=>⟨#[],by rw [Zl (hm b _ q fun z=>z),q];simp⟩⟩
 by_cases hbe:b=e
 · subst hbe;exact heo
 · exact ⟨u,k b u hbe q⟩
end
noncomputable def trk (h:Heap) (H:Hp):List Addr:=(List.range h.objs.size).filter fun a=>(H a).isSome
def hidT (h:Heap) (H:Hp):Heap:=PySem.W.hideAll h (trk h H)
theorem Zoo (h:Heap) (H:Hp):(hidT h H).objs.size=h.objs.size:=PySem.W.hideAll_size _ _
theorem Zp5 (e:h.get? b=some o) (n:H b=none):(hidT h H).get? b=some o :=
 PySem.W.hideAll_get _ e fun hm=>by
  have q:(H b).isSome=true:=(List.mem_filter.mp hm).2;rw [n] at q;simp at q
theorem Zs5 (e:(hidT h H).get? b=some o):h.get? b=some o∧H b=none:=by
 have e':h.get? b=some o:=PySem.W.of_hideAll (trk h H) e;refine ⟨e',?_⟩;cases q:H b with
 | none=>rfl
 | some x =>
   have hm:b∈trk h H:=List.mem_filter.mpr ⟨n32_.mpr (n13_ e'),by simp [q]⟩;have z:(hidT h H).get? b=none:=PySem.W.hideAll_none (trk h H) hm;rw [z] at e;cases e
structure Mod (K:PySem.W.Frag) (mg:Str→?C) (base:Heap):Prop where
 kin:K.In base
 glob:base.Ns mainGlobals mg
 blt:∃ mb,base.Ns builtinsNs mb∧∀ x:Str,x ≠ "__name__" → mb x=bootBuiltins x
 nolimit:base.NoLimit
 seer:base.NoSeer
 digits:base.NoDigits
structure Cx where
 prog:Program
 w:World
 K:PySem.W.Frag
 mg:Str→?C
 base:Heap
 A:Around
 N:List Str
 s₀:Shared
 H₀:Hp
 env:Env
 outer:List Env
 stack:List Env
 ex:List Addr
 fn:Str→Bool
 calm:Bool
 pn:?B
 xe:Value→?j
noncomputable def frs (l:List Env):List Addr:=l.filterMap (·.frame)
abbrev Cx.fs (X:Cx):List Addr:=frs X.outer
def Vis (sc:Scope) (x:Str):Prop:=sc.names.lookup x=some .local∨sc.names.lookup x=some .cell∨sc.names.lookup x=some .free
def Loc (sc:Scope) (x:Str):Prop:=sc.names.lookup x=some .local∨sc.names.lookup x=some .cell
def Look (env:Env) (h:Heap) (m:Str→?C) (x:Str) (u:Value):Prop :=
 (env.kindOf x=some .local∧m x=some u)∨((env.kindOf x=some .cell∨env.kindOf x=some .free)∧∃ c,env.cells.lookup x=some c∧h.IsCell c (some u))
structure Cx.Ok (X:Cx):Prop where
 mod:Mod X.K X.mg X.base
 kind:X.env.scope.kind=.function
 glob:X.env.globals=mainGlobals
 blt:X.env.builtins=builtinsNs
 above:X.s₀.z≤X.env.locals
 inj:∀ x y c,X.env.cells.lookup x=some c→X.env.cells.lookup y=some c→x=y
 has:∀ x,(X.env.kindOf x=some .cell∨X.env.kindOf x=some .free)→∃ c,X.env.cells.lookup x=some c
 cab:∀ x c,X.fn x=true→X.env.cells.lookup x=some c→X.s₀.z≤c
 hd:X.calm=true→X.A.handled=none
 frames:X.A.frames=some X.stack
 stk:X.stack=X.outer∨(X.stack=X.env :: X.outer∧X.env.frame=some X.env.locals)
 exf:∀ b∈X.ex,b≠X.env.locals∧∀ x c,X.env.cells.lookup x=some c→c≠b
 bs:∀ b o,X.base.get? b=some o→X.s₀.heap.get? b=some o∧X.H₀ b=none
 bsz:X.base.objs.size≤X.s₀.z
 noex:∀ b o,X.base.get? b=some o→b∉X.ex
 exfs:∀ b∈X.ex,b∉X.fs
 funs:X.s₀.heap.FunFrames X.base X.outer
 frf:∀ b∈X.fs,X.H₀ b=none
structure Inv (X:Cx) (pins:?B) (σ:List (Option V)) (H:Hp) (s:Shared):Prop where
 ok:X.Ok
 os:s.os=X.s₀.os
 bare:AllBare s.gens
 base:Un X.fs X.ex X.H₀ H X.s₀.heap s.heap
 loc:∃ m,s.heap.Ns X.env.locals m∧∀ (i:Nat) (x:Str) (v:V),X.N[i]? = some x→σ[i]? = some (some v)→Vis X.env.scope x→∃ u,RelV v u∧Look X.env s.heap m x u
 cell:∀ x c,X.env.cells.lookup x=some c→∃ v,s.heap.IsCell c v
 free:H X.env.locals=none
 freeC:∀ x c,X.env.cells.lookup x=some c→H c=none∨(X.fn x=false∧∃ o u,H c=some (.frz o u))
 pin:∀ p∈X.pn++pins,s.heap.get? p.1=some p.2∧H p.1=none∧p.1≠X.env.locals∧p.1∉X.fs∧∀ v,p.2.data≠.cell v
 hok:HOk X.prog X.w H s.heap
 len:σ.length=X.N.length
section
variable {X:Cx} {pins:?B} {σ:List (Option V)} {H H':Hp} {s:Shared} {h':Heap}
theorem Cx.Ok.nofr (ok:X.Ok) (e:X.base.get? b=some o):b∉X.fs:=fun hb=>by
 have:=(ok.funs.mem hb).1
 rw [e] at this;cases this
theorem Inv.bs (I:?s):∀ b o,X.base.get? b=some o→s.heap.get? b=some o∧H b=none:=fun b o e =>
 ⟨I.base.keep b o (I.ok.bs b o e).1 (I.ok.bs b o e).2 (I.ok.nofr e) (I.ok.noex b o e),I.base.free b o (I.ok.bs b o e).1 (I.ok.bs b o e).2 (I.ok.noex b o e)⟩
theorem Inv.bk (I:?s):∀ b o,X.base.get? b=some o→s.heap.get? b=some o:=fun b o e=>(I.bs b o e).1
theorem Inv.mod (I:?s):Mod X.K X.mg X.base:=I.ok.mod
theorem Inv.kIn (I:?s):X.K.In s.heap:=I.ok.mod.kin.keeps I.bk
theorem Inv.lt (I:?s):X.env.locals<s.z:=let ⟨_,hn,_⟩:=I.loc;hn.lt
theorem Inv.sz (I:?s):X.s₀.z≤s.z:=n31_ I.ok.above (Nat.le_of_lt I.lt)
theorem Inv.nofs (I:?s) (h:s.z≤a):a∉X.fs:=fun hb=>by
 obtain ⟨_,o,ho,_⟩:=I.ok.funs.mem hb;exact absurd (n9_ (n13_ ho) (n31_ I.sz h)) (n93_ _)
theorem Inv.cne (I:?s):∀ x c,X.env.cells.lookup x=some c→c≠X.env.locals:=fun x c e z=>by
 obtain ⟨v,o,ho,hd⟩:=I.cell x c e;obtain ⟨m,⟨o',es,ep,ho',hd',_⟩,_⟩:=I.loc;rw [z,ho'] at ho;cases ho;rw [hd'] at hd;cases hd
theorem Inv.funs (I:?s):s.heap.FunFrames X.base X.outer:=by
 have all:∀ (l:List Env),(∀ b∈frs l,b∈X.fs)→X.s₀.heap.FunFrames X.base l→s.heap.FunFrames X.base l:=by
  intro l
  induction l with
  | nil=>intro _ _;trivial
  | cons env r ih =>
    intro hs hl;obtain ⟨hk,⟨L,o,hf,hn,ho,hd⟩,hr⟩:=hl;have hL:L∈X.fs:=hs L (by unfold frs;rw [List.filterMap_cons,hf];exact n20_);obtain ⟨sl,e⟩:=I.base.slot L o ho (I.ok.frf L hL) hL fun z=>I.ok.exfs L z hL;exact ⟨hk,⟨L,_,hf,hn,e,hd⟩,ih (fun b hb=>hs b (by unfold frs;rw [List.filterMap_cons,hf];exact n15_ _ hb)) hr⟩
 exact all X.outer (fun _ hb=>hb) I.ok.funs
theorem Inv.stack (I:?s):s.heap.FunFrames X.base X.stack:=by
 rcases I.ok.stk with e|⟨e,hf⟩
 · rw [e];exact I.funs
 · rw [e];obtain ⟨m,hn,_⟩:=I.loc;refine .cons (by rw [I.ok.kind];decide) hf hn ?_ I.funs;exact Heap.get?_none_of_le (n31_ I.ok.bsz I.ok.above)
theorem Inv.stkSub (I:?s):∀ b∈frs X.stack,b∈X.env.locals :: X.fs:=fun b hb=>by
 rcases I.ok.stk with e|⟨e,hf⟩
 · rw [e] at hb;exact n15_ _ hb
 · rw [e] at hb;unfold frs at hb;rw [List.filterMap_cons,hf] at hb;exact hb
theorem Inv.stkFree (I:?s):∀ b∈frs X.stack,H b=none:=fun b hb=>by
 rcases n12_.mp (I.stkSub b hb) with e|hb
 · rw [e];exact I.free
 · obtain ⟨_,o,ho,_⟩:=I.ok.funs.mem hb;exact I.base.free b o ho (I.ok.frf b hb) fun z=>I.ok.exfs b z hb
theorem Inv.step {g':Array GenState} {d':Drawn} (I:?s)
 (hch:∀ b∈ch,(b∈X.ex∨X.s₀.z≤b)∧b≠X.env.locals∧(∀ x c,X.env.cells.lookup x=some c→c≠b)∧∀ p∈X.pn++pins,p.1≠b)
 (keep:∀ b o,b≠X.env.locals→b∉X.fs→b∉ch→s.heap.get? b=some o→H b=none→h'.get? b=some o)
 (slot:∀ b o,b≠X.env.locals→b∈X.fs→b∉ch→s.heap.get? b=some o→H b=none→∃ sl,h'.get? b=some { o with slots:=sl }) (free:∀ b o,b∉ch→s.heap.get? b=some o→H b=none→H' b=none)
 (there:∀ b o,b∉ch→s.heap.get? b=some o→∃ o',h'.get? b=some o')
 (tups:∀ b xs,H b=some (.tup xs)→H' b=some (.tup xs)) (frzs:∀ b o u,H b=some (.frz o u)→H' b=some (.frz o u)) (tbls:∀ b ps,H b=some (.tbl ps)→∃ more,H' b=some (.tbl (ps++more)))
 (ns:∀ m,s.heap.Ns X.env.locals m→h'.Ns X.env.locals m) (hok:HOk X.prog X.w H' h') (hg:AllBare g') :
 Inv X pins σ H' { s with heap:=h',gens:=g',drawn:=d',toks:=t' }:=by
 have neL:∀ b o,X.s₀.heap.get? b=some o→b≠X.env.locals:=fun b o e=>n23_ (n9_ (n13_ e) I.ok.above)
 have neC:∀ b o,X.s₀.heap.get? b=some o→b∉X.ex→b∉ch:=fun b o e hx hb=>by
  rcases (hch b hb).1 with z|z
  · exact hx z
  · exact absurd (n9_ (n13_ e) z) (n93_ _)
 have cellK:∀ x c,X.env.cells.lookup x=some c→∀ v,s.heap.IsCell c v→h'.IsCell c v:=fun x c e v ⟨o,ho,hd⟩=>by
  have nch:c∉ch:=fun z=>(hch c z).2.2.1 x c e rfl
  rcases I.freeC x c e with fz|⟨_,o',u',fz⟩
  · by_cases hc:c∈X.fs
    · obtain ⟨sl,q⟩:=slot c o (I.cne x c e) hc nch ho fz;exact ⟨_,q,hd⟩
    · exact ⟨o,keep c o (I.cne x c e) hc nch ho fz,hd⟩
  · have h1:=(I.hok c _ fz).1;rw [ho] at h1;cases h1;exact ⟨o,(hok c _ (frzs c o u' fz)).1,hd⟩
 refine ⟨I.ok,I.os,hg,⟨fun b o e n hb hx=>?_,fun b o e n hb hx=>?_,fun b o e n hx=>?_,fun b o e hx=>?_,fun b xs e=>tups b xs (I.base.tups b xs e),fun b o xs e=>frzs b o xs (I.base.frzs b o xs e),fun b ps e=>?_⟩,?_,fun x c e=>?_,?_,fun x c e=>?_,fun p hp=>?_,hok,I.len⟩
 · exact keep b o (neL b o e) hb (neC b o e hx) (I.base.keep b o e n hb hx) (I.base.free b o e n hx)
 · obtain ⟨sl,e1⟩:=I.base.slot b o e n hb hx;obtain ⟨sl',e2⟩:=slot b _ (neL b o e) hb (neC b o e hx) e1 (I.base.free b o e n hx);exact ⟨sl',e2⟩
 · obtain ⟨o',e1⟩:=I.base.there b o e hx;exact free b o' (neC b o e hx) e1 (I.base.free b o e n hx)
 · obtain ⟨o',e1⟩:=I.base.there b o e hx;exact there b o' (neC b o e hx) e1
 · obtain ⟨m1,e1⟩:=I.base.tbls b ps e;obtain ⟨m2,e2⟩:=tbls b _ e1;exact ⟨m1++m2,by rw [e2,Array.append_assoc]⟩
 · obtain ⟨m,hn,hl⟩:=I.loc;refine ⟨m,ns m hn,fun i x v e1 e2 e3=>?_⟩;obtain ⟨u,r,l⟩:=hl i x v e1 e2 e3;refine ⟨u,r,?_⟩
   rcases l with l|⟨k,c,e,z⟩
   · exact .inl l
   · exact .inr ⟨k,c,e,cellK x c e _ z⟩
 · obtain ⟨v,z⟩:=I.cell x c e;exact ⟨v,cellK x c e v z⟩
 · obtain ⟨m,⟨o,_,_,ho,_⟩,_⟩:=I.loc;exact free _ o (fun z=>(hch _ z).2.1 rfl) ho I.free
 · obtain ⟨v,o,ho,hd⟩:=I.cell x c e;exact (I.freeC x c e).imp (fun fz=>free c o (fun z=>(hch c z).2.2.1 x c e rfl) ho fz) fun ⟨q,o',u',fz⟩=>⟨q,o',u',frzs c o' u' fz⟩
 · obtain ⟨e,n,ne,nf,d⟩:=I.pin p hp;have nch:p.1∉ch:=fun z=>(hch p.1 z).2.2.2 p hp rfl;exact ⟨keep p.1 p.2 ne nf nch e n,free p.1 p.2 nch e n,ne,nf,d⟩
theorem Inv.un (I:?s) (u:Un X.fs [] H H' s.heap h') (hok:HOk X.prog X.w H' h'):Inv X pins σ H' { s with heap:=h',toks:=t' }:=by
 obtain ⟨m,⟨o,es,ep,ho,r⟩,_⟩:=id I.loc;obtain ⟨sl,hL⟩:=u.any ho I.free ?f
 exact I.step (g':=s.gens) (d':=s.drawn) (ch:=[]) (fun _ z=>nomatch z) (fun b o _ hb _ e n=>u.keep b o e n hb ?f) (fun b o _ hb _ e n=>u.slot b o e n hb ?f) (fun b o _ e n=>u.free b o e n ?f) (fun b o _ e=>u.there b o e ?f) u.tups u.frzs u.tbls (fun m' hm=>by
  obtain ⟨o',es',ep',ho',r'⟩:=hm;rw [ho] at ho';cases ho';exact ⟨_,es',ep',hL,r'⟩) hok I.bare
theorem Inv.call {g':Array GenState} {d':Drawn} (I:?s) (u:Un (frs X.stack) ch H H' s.heap h') (hok:HOk X.prog X.w H' h') (hg:AllBare g')
 (hch:∀ b∈ch,(b∈X.ex∨X.s₀.z≤b)∧b≠X.env.locals∧(∀ x c,X.env.cells.lookup x=some c→c≠b)∧∀ p∈X.pn++pins,p.1≠b) :
 Inv X pins σ H' { s with heap:=h',gens:=g',drawn:=d',toks:=t' }:=by
 obtain ⟨m,⟨o,es,ep,ho,r⟩,_⟩:=id I.loc;obtain ⟨sl,hL⟩:=u.any ho I.free fun z=>(hch _ z).2.1 rfl
 exact I.step (ch:=ch) hch (fun b o hL hb hc e n=>u.keep b o e n (fun z=>(n12_.mp (I.stkSub b z)).elim hL hb) hc) (fun b o _ _ hc e n=>u.any e n hc) (fun b o hc e n=>u.free b o e n hc) (fun b o hc e=>u.there b o e hc) u.tups u.frzs u.tbls (fun m' hm=>by
  obtain ⟨o',es',ep',ho',r'⟩:=hm;rw [ho] at ho';cases ho';exact ⟨_,es',ep',hL,r'⟩) hok hg
theorem Inv.turned (I:?s) (k:∀ b o,b≠it→?ag) (hn:H it=none) (hL:it≠X.env.locals)
 (h1:it∈X.ex∨X.s₀.z≤it) (h2:∀ x c,X.env.cells.lookup x=some c→c≠it) (h3:∀ p∈X.pn++pins,p.1≠it):Inv X pins σ H { s with heap:=h',toks:=t' }:=by
 have nit:∀ b u,H b=some u→b≠it:=fun b u e z=>by rw [z,hn] at e;cases e
 refine I.step (g':=s.gens) (d':=s.drawn) (ch:=[it]) (fun b hb=>?_) (fun b o _ _ hc e _=>k b o (fun z=>hc (by simp [z])) e) (fun b o _ _ hc e _=>⟨o.slots,k b o (fun z=>hc (by simp [z])) e⟩) (fun _ _ _ _ n=>n)
  (fun b o hc e=>⟨o,k b o (fun z=>hc (by simp [z])) e⟩) (fun _ _ e=>e) (fun _ _ _ e=>e) (fun b ps e=>⟨#[],by rw [e];simp⟩) (fun m hm=>?_) (fun b u e=>?_) I.bare
 · have e:b=it:=by simpa using hb
   subst e;exact ⟨h1,hL,h2,h3⟩
 · obtain ⟨o,es,ep,ho,r⟩:=hm;exact ⟨o,es,ep,k _ o (Ne.symm hL) ho,r⟩
 · refine (I.hok b u e).stay (fun c v hc q=>k c v ?_ q) (fun _ q=>q) fun _ _ q=>q
   rcases hc with z|z
   · rw [z];exact nit b u e
   · exact nit c _ z
theorem Inv.tok (I:?s) (t:Nat):Inv X pins σ H { s with toks:=t }:=I.un (h':=s.heap) (t':=t) Un.refl I.hok
theorem Inv.kept (I:?s) (k:∀ b u,s.heap.get? b=some u→h'.get? b=some u):Inv X pins σ H { s with heap:=h',toks:=t' }:=I.un (Un.kept k) (I.hok.kept k)
theorem Inv.laid {o:HO} (I:?s) (k:∀ b u,s.heap.get? b=some u→h'.get? b=some u) (hp:s.z≤a) (new:ObjOk X.prog X.w (upd H a o) h' a o) :
 Inv X pins σ (upd H a o) { s with heap:=h',toks:=t' }:=I.un (Un.laid k hp (I.hok.fresh hp)) (I.hok.laid k hp new)
theorem Inv.write {x e:Addr} {o:HO} (I:?s) (mu:Mut (H x)) (he:e=x∨H e=some (.own x)) (k:∀ b u,b≠e→s.heap.get? b=some u→h'.get? b=some u) (heo:∃ u,h'.get? e=some u)
 (new:ObjOk X.prog X.w (upd H x o) h' x o):Inv X pins σ (upd H x o) { s with heap:=h',toks:=t' }:=I.un (Un.write mu he k heo) (I.hok.write mu he k heo new)
theorem Inv.pins_of {pins':?B} (I:?s) (h:∀ p∈pins',s.heap.get? p.1=some p.2∧H p.1=none∧p.1≠X.env.locals∧p.1∉X.fs∧∀ v,p.2.data≠.cell v):Inv X pins' σ H s :=
 ⟨I.ok,I.os,I.bare,I.base,I.loc,I.cell,I.free,I.freeC,fun p hp=>(n36_.mp hp).elim (fun z=>I.pin p (List.mem_append_left _ z)) (h p),I.hok,I.len⟩
theorem Zjx (hN:N.Nodup) {j:Nat} (a:N[i]? = some x) (b:N[j]? = some x):i=j:=by
 obtain ⟨h1,e1⟩:=n22_.mp a;obtain ⟨h2,e2⟩:=n22_.mp b;exact (List.getElem_inj hN).mp (e1.trans e2.symm)
theorem Zn5 {Q:Unit→?j} (I:?s) (hN:X.N.Nodup) (hi:X.N[i]? = some x) (hx:Loc X.env.scope x) (r:RelV v u)
 (h:∀ s',Inv X pins (σ.set i (some v)) H s'→(∃ a,Heap.SameBut a s.heap s'.heap∧(a=X.env.locals∨X.env.cells.lookup x=some a))→Q () s') (hf:X.fn x=true∨X.env.scope.names.lookup x=some .local:=by first|exact .inl rfl|exact .inr rfl|assumption):wpAny M A (storeName X.env x u) Q E s:=by
 obtain ⟨m,hn,hl⟩:=id I.loc;have hcls:(X.env.scope.kind == .class||(X.env.scope.kind == .module&&X.env.locals != X.env.globals))=false:=by rw [I.ok.kind];rfl
 have hiσ:i<σ.length:=by rw [I.len];exact (n22_.mp hi).1
 have cne:=I.cne
 have tracked:∀ {a:Addr} {h':Heap},(∃ o,s.heap.get? a=some o∧H a=none)→Heap.SameBut a s.heap h'→HOk X.prog X.w H h':=fun {a h'} ha hs b ob e=>by
  obtain ⟨_,_,hfree⟩:=ha;refine (I.hok b ob e).stay (fun c w' hc q=>(hs.2 c ?_).trans q) (fun _ q=>q) fun _ _ q=>q;rintro rfl
  rcases hc with rfl|hc
  · rw [hfree] at e;cases e
  · rw [hfree] at hc;cases hc
 rcases hx with hk|hk
 · refine wpAny_storeName_local hk hn (fun h' hn' hs=>?_) hcls;obtain ⟨oL,_,_,hoL,_⟩:=id hn;refine h _ ⟨I.ok,I.os,I.bare,⟨fun b o e n hb hx=>?_,fun b o e n hb hx=>?_,I.base.free,fun b o e hx=>?_,I.base.tups,I.base.frzs,I.base.tbls⟩,⟨_,hn',fun j y v' e1 e2 e3=>?_⟩,fun y c e=>?_,I.free,I.freeC,fun p hp=>?_,tracked ⟨oL,hoL,I.free⟩ hs,by simpa using I.len⟩ ⟨_,hs,.inl rfl⟩
   · exact (hs.2 b (n23_ (n9_ (n13_ e) I.ok.above))).trans (I.base.keep b o e n hb hx)
   · obtain ⟨sl,e1⟩:=I.base.slot b o e n hb hx;exact ⟨sl,(hs.2 b (n23_ (n9_ (n13_ e) I.ok.above))).trans e1⟩
   · obtain ⟨o',e1⟩:=I.base.there b o e hx;exact ⟨o',(hs.2 b (n23_ (n9_ (n13_ e) I.ok.above))).trans e1⟩
   · by_cases hj:j=i
     · subst hj;rw [hi] at e1;cases e1;rw [List.getElem?_set_self hiσ] at e2;cases e2
       exact ⟨u,r,.inl ⟨hk,by simp⟩⟩
     · rw [List.getElem?_set_ne (Ne.symm hj)] at e2;obtain ⟨u',r',q⟩:=hl j y v' e1 e2 e3;refine ⟨u',r',?_⟩
       rcases q with ⟨k,e⟩|⟨k,c,e,z⟩
       · refine .inl ⟨k,?_⟩
         have:y≠x:=fun e=>hj (Zjx hN e1 (e ▸ hi))
         simp [this,e]
       · exact .inr ⟨k,c,e,z.sameBut hs (cne y c e)⟩
   · obtain ⟨w',z⟩:=I.cell y c e;exact ⟨w',z.sameBut hs (cne y c e)⟩
   · obtain ⟨e,n,ne,nf,d⟩:=I.pin p hp;exact ⟨(hs.2 p.1 ne).trans e,n,ne,nf,d⟩
 · have hfn:X.fn x=true:=by
    rcases hf with z|z
    · exact z
    · rw [z] at hk;cases hk
   obtain ⟨c,hc⟩:=I.ok.has x (.inl hk);obtain ⟨w',z⟩:=I.cell x c hc;refine wpAny_storeName_cell I.ok.kind hk hc z (fun h' hc' hs=>?_);obtain ⟨oc,hoc,hocd⟩:=id z;refine h ?T ⟨I.ok,I.os,I.bare,⟨fun b o e n hb hx=>?_,fun b o e n hb hx=>?_,I.base.free,fun b o e hx=>?_,I.base.tups,I.base.frzs,I.base.tbls⟩,⟨m,hn.sameBut hs (Ne.symm (cne x c hc)),fun j y v' e1 e2 e3=>?_⟩,fun y c' e=>?_,I.free,I.freeC,fun p hp=>?_,tracked ⟨oc,hoc,(I.freeC x c hc).elim id fun z=>(by rw [hfn] at z;cases z.1)⟩ hs,by simpa using I.len⟩ ⟨c,hs,.inr hc⟩
   · exact (hs.2 b (n23_ (n9_ (n13_ e) (I.ok.cab x c hfn hc)))).trans (I.base.keep b o e n hb hx)
   · obtain ⟨sl,e1⟩:=I.base.slot b o e n hb hx;exact ⟨sl,(hs.2 b (n23_ (n9_ (n13_ e) (I.ok.cab x c hfn hc)))).trans e1⟩
   · obtain ⟨o',e1⟩:=I.base.there b o e hx;exact ⟨o',(hs.2 b (n23_ (n9_ (n13_ e) (I.ok.cab x c hfn hc)))).trans e1⟩
   · by_cases hj:j=i
     · subst hj;rw [hi] at e1;cases e1;rw [List.getElem?_set_self hiσ] at e2;cases e2
       exact ⟨u,r,.inr ⟨.inl hk,c,hc,hc'⟩⟩
     · rw [List.getElem?_set_ne (Ne.symm hj)] at e2;obtain ⟨u',r',q⟩:=hl j y v' e1 e2 e3;refine ⟨u',r',?_⟩
       rcases q with q|⟨k,c',e,z'⟩
       · exact .inl q
       · refine .inr ⟨k,c',e,z'.sameBut hs ?_⟩;rintro rfl
         exact hj (Zjx hN e1 (I.ok.inj _ _ _ e hc ▸ hi))
   · by_cases hcc:c'=c
     · subst hcc;exact ⟨_,hc'⟩
     · obtain ⟨w2,z2⟩:=I.cell y c' e;exact ⟨w2,z2.sameBut hs hcc⟩
   · obtain ⟨e,n,ne,nf,d⟩:=I.pin p hp;refine ⟨(hs.2 p.1 ?_).trans e,n,ne,nf,d⟩;intro q;rw [q,hoc] at e;have q':oc=p.2:=Option.some.inj e;exact d w' (by rw [← q'];exact hocd)
theorem Zal {Q:Unit→?j} (I:?s) (hN:X.N.Nodup) (hi:X.N[i]? = some x) (hx:Loc X.env.scope x) (r:RelV v u)
 (h:∀ s',Inv X pins (σ.set i (some v)) H s'→Q () s') (hf:X.fn x=true∨X.env.scope.names.lookup x=some .local:=by first|exact .inl rfl|exact .inr rfl|assumption):wpAny M A (storeName X.env x u) Q E s :=
 Zn5 I hN hi hx r (fun s' I' _=>h s' I') hf
theorem Inv.call' {s':Shared} (I:?s) (ho:s'.os=s.os) (u:Un (frs X.stack) ch H H' s.heap s'.heap) (hok:HOk X.prog X.w H' s'.heap) (hg:AllBare s'.gens)
 (hch:∀ b∈ch,(b∈X.ex∨X.s₀.z≤b)∧b≠X.env.locals∧(∀ x c,X.env.cells.lookup x=some c→c≠b)∧∀ p∈X.pn++pins,p.1≠b):Inv X pins σ H' s':=by
 obtain ⟨h',g',d',t',o'⟩:=s';have e:o'=s.os:=ho;subst e;exact I.call (g':=g') (t':=t') (d':=d') u hok hg hch
end
abbrev XK:=Value→Option Addr→?w
abbrev St:=List (Option V)
abbrev VK:=V→?w
abbrev TE:=St→Hp→VK→Prop
abbrev TT:=St→Hp→(Bool→?w)→Prop
abbrev TA:=St→Hp→(List V→?w)→Prop
structure Ends where
 nx:St→?w
 rt:VK
 bk:St→?w:=fun _ _=>False
 ct:St→?w:=fun _ _=>False
abbrev TS:=Ends→St→?w
def EP (X:Cx) (pins:?B) (σ:St) (Q:VK) (u:Value) (s':Shared):Prop:=∃ v H',Inv X pins σ H' s'∧RelV v u∧Q v H'
def TP (X:Cx) (pins:?B) (σ:St) (Q:Bool→?w) (b:Bool) (s':Shared):Prop:=∃ H',Inv X pins σ H' s'∧Q b H'
def AP (X:Cx) (pins:?B) (σ:St) (Q:List V→?w) (us:?t) (s':Shared):Prop:=∃ vs H',Inv X pins σ H' s'∧Vals vs us∧Q vs H'
def SP (X:Cx) (pins:?B) (D:Ends) (f:Flow) (s':Shared):Prop :=
 match f with
 | .next=>∃ σ' H',Inv X pins σ' H' s'∧D.nx σ' H'
 | .brk=>∃ σ' H',Inv X pins σ' H' s'∧D.bk σ' H'
 | .cont=>∃ σ' H',Inv X pins σ' H' s'∧D.ct σ' H'
 | .ret u=>∃ v σ' H',Inv X pins σ' H' s'∧RelV v u∧D.rt v H'
def PE (X:Cx) (e:Expr) (t:TE):Prop :=
 ∀ (pins:?B) (s:Shared) (σ:St) (H:Hp) (Q:VK),?s→t σ H Q→wpAny ?A X.A (eval e X.env) (EP X pins σ Q) X.xe s
def PT (X:Cx) (e:Expr) (t:TT):Prop :=
 ∀ (pins:?B) (s:Shared) (σ:St) (H:Hp) (Q:Bool→?w),?s→t σ H Q→wpAny ?A X.A (isTrue e X.env (eval e X.env)) (TP X pins σ Q) X.xe s
def PW (X:Cx) (e:Expr) (t:TT):Prop :=
 ∀ (whole:Sem Value) (pins:?B) (s:Shared) (σ:St) (H:Hp) (Q:Bool→?w),?s→t σ H Q→wpAny ?A X.A (isTrue e X.env whole) (TP X pins σ Q) X.xe s
theorem PW.pt {t:TT} (h:PW X e t):PT X e t:=h _
def PA (X:Cx) (es:List Expr) (t:TA):Prop :=
 ∀ (pos:Pos) (pins:?B) (s:Shared) (σ:St) (H:Hp) (Q:List V→?w),?s→t σ H Q→wpAny ?A X.A (spliced (backTo pos (starEach es X.env))) (AP X pins σ Q) X.xe s
def PS (X:Cx) (st:Stmt) (t:TS):Prop :=
 ∀ (pins:?B) (s:Shared) (σ:St) (H:Hp) (D:Ends),?s→t D σ H→wpAny ?A X.A (exec st X.env) (SP X pins D) X.xe s
def PSs (X:Cx) (st:List Stmt) (t:TS):Prop :=
 ∀ (pins:?B) (s:Shared) (σ:St) (H:Hp) (D:Ends),?s→t D σ H→wpAny ?A X.A (execs st X.env) (SP X pins D) X.xe s
theorem thn {t:Sem α} {Q Q':α→?j} (h:wpAny M A t Q E s) (hQ:∀ a s,Q a s→Q' a s):wpAny M A t Q' E s:=n56_ h hQ fun _ _ x=>x
section
variable {X:Cx}
inductive BxTVar (i:Nat) (σ:St) (H:Hp) (Q:VK):Prop
 | mk (v:_) (q1:σ[i]? = some (some v)) (q2:Q v H):BxTVar i σ H Q
def tVar (i:Nat):TE:=fun σ H Q=>BxTVar i σ H Q
def tC (v:V):TE:=fun _ H Q=>Q v H
theorem Zt4 (hN:X.N[i]? = some x) (hv:Vis X.env.scope x) (hd:?af=false:=by decide) (hcd:(x == ("__classdict__" : Str))=false:=by decide):PE X (.Name x pos) (tVar i):=by
 intro pins s σ H Q I h;obtain ⟨v,e,h⟩:=h;obtain ⟨m,hn,hl⟩:=I.loc;obtain ⟨u,r,l⟩:=hl i x v hN e hv;have fin:EP X pins σ Q u s:=⟨v,H,I,r,h⟩
 rcases l with ⟨hk,hm⟩|⟨hk,c,hc,hcell⟩
 · exact wpAny_Name (wpAny_loadName_local I.ok.kind hk hn hm fin) hd
 · rcases hk with hk|hk
   · exact wpAny_Name (wpAny_loadName_cell I.ok.kind hk hc hcell fin) hd
   · exact wpAny_Name (wpAny_loadName_free I.ok.kind hk hc hcell fin hcd) hd
theorem Zd {i j pos}:PE X (.Constant (.int i) j pos) (tC (.int i)):=fun _ _ _ H _ I h=>wpAny_Constant_int ⟨.int i,H,I.tok _,?K,h⟩
theorem Zca {b j pos}:PE X (.Constant (.bool b) j pos) (tC (.bl b)):=fun _ _ _ H _ I h=>Constant_bool ⟨.bl b,H,I,rfl,h⟩
def Gl (X:Cx) (x:Str):Prop:=X.env.kindOf x=some .globalImplicit
theorem Zjn (I:?s) (hg:Gl X x) (hm:X.mg x=some u) (h:Q u s)
 (hd:?af=false:=by decide):wpAny ?A X.A (eval (.Name x pos) X.env) Q E s :=
 Calls.Name_function_global I.ok.kind hg (Calls.loadGlobal_global (by rw [I.ok.glob];exact I.mod.glob.keeps I.bk) hm h) hd
theorem Zcd (I:?s) (hg:Gl X x) (hm:X.mg x=none) (hv:bootBuiltins x=some u) (h:Q u s)
 (hn:x ≠ "__name__" := by decide) (hd:?af=false:=by decide):wpAny ?A X.A (eval (.Name x pos) X.env) Q E s:=by
 obtain ⟨mb,h1,h2⟩:=I.mod.blt;exact Calls.Name_function_global I.ok.kind hg (Calls.loadGlobal_builtin (by rw [I.ok.glob];exact I.mod.glob.keeps I.bk) hm (by rw [I.ok.blt];exact h1.keeps I.bk) ((h2 x hn).trans hv) h) hd
theorem Ztk (hg:Gl X x) (hm:X.mg x=some u) (r:RelV v u) (hd:?af=false:=by decide):PE X (.Name x pos) (tC v) :=
 fun _ _ _ H _ I h=>Zjn I hg hm ⟨v,H,I,r,h⟩ hd
theorem Za7 (hg:Gl X x) (hm:X.mg x=none) (hv:bootBuiltins x=some u) (r:RelV v u) (hn:x ≠ "__name__" := by decide) (hd:?af=false:=by decide):PE X (.Name x pos) (tC v) :=
 fun _ _ _ H _ I h=>Zcd I hg hm hv ⟨v,H,I,r,h⟩ hn hd
variable {a b:Expr} {ta tb:TE} {pos:Pos}
def PC (X:Cx) (op:CmpOp) (a b:Expr) (t:TE):Prop :=
 ∀ (pins:?B) (s:Shared) (σ:St) (H:Hp) (Q:VK),?s→t σ H Q →
   wpAny ?A X.A (eval a X.env) (fun v s₁=>wpAny ?A X.A (eval b X.env) (fun u s₂=>wpAny ?A X.A (compareOp op v u) (EP X pins σ Q) X.xe s₂) X.xe s₁) X.xe s
inductive BxTB (Q:Bool→?w) (x:V) (H1:Hp):Prop
 | mk (c:_) (q1:x=.bl c) (q2:Q c H1):BxTB Q x H1
def tB (t:TE):TT:=fun σ H Q=>t σ H fun x H1=>BxTB Q x H1
theorem Zu8 {op:CmpOp} {t:TE} (h:PC X op a b t) (h1:behindInMarks op b=false:=by first|exact nobehind _ ?e ?e|rfl):PT X (.Compare a [op] [b] pos) (tB t):=by
 intro pins s σ H Q I hw;refine wpAny_isTrue_Compare1 (thn (h pins s σ H _ I hw) fun v s1 h1=>thn h1 fun u s2 h2=>thn h2 fun c s3 ⟨x,H1,I1,r1,q1⟩=>?_) h1;obtain ⟨d,rfl,q⟩:=q1;cases r1
 exact wpAny_truthy_bool ⟨H1,I1,q⟩
variable {tA tB':TT} {rest:List Expr}
def tOr (t u:TT):TT:=fun σ H Q=>t σ H fun c H1=>if c=true then Q true H1 else u σ H1 Q
def tNot (t:TT):TT:=fun σ H Q=>t σ H fun c H1=>Q (!c) H1
theorem Zd9 (ha:PT X a tA):PW X (.BoolOp .Or [a] pos) tA:=by
 intro wh pins s σ H Q I h;refine isTrue_or (thn (ha pins s σ H Q I h) fun c s1 e=>?_);cases c with
 | false=>exact isTrue_or_nil e
 | true=>exact e
theorem Zh4 (ha:PT X a tA) (hb:PW X (.BoolOp .Or (b :: rest) pos) tB'):PW X (.BoolOp .Or (a :: b :: rest) pos) (tOr tA tB'):=by
 intro wh pins s σ H Q I h;refine isTrue_or (thn (ha pins s σ H _ I h) fun c s1 ⟨H1,I1,q1⟩=>?_);cases c with
 | true=>exact ⟨H1,I1,q1⟩
 | false=>exact hb wh pins s1 σ H1 Q I1 q1
theorem Xh (ha:PT X a tA):PT X (.UnaryOp .Not a pos) (tNot tA):=by
 intro pins s σ H Q I h;exact isTrue_not (ha pins s σ H (fun c H1=>Q (!c) H1) I h)
inductive BxTAndV (tb:TE) (σ:St) (Q:VK) (x:V) (H1:Hp):Prop
 | mk (c:_) (q1:x=.bl c) (q2:if c=true then tb σ H1 Q else Q (.bl false) H1):BxTAndV tb σ Q x H1
def Zwd (ta tb:TE):TE:=fun σ H Q=>ta σ H fun x H1=>BxTAndV tb σ Q x H1
inductive BxTNotV (Q:VK) (x:V) (H1:Hp):Prop
 | mk (c:_) (q1:x=.bl c) (q2:Q (.bl (!c)) H1):BxTNotV Q x H1
def Zv5 (ta:TE):TE:=fun σ H Q=>ta σ H fun x H1=>BxTNotV Q x H1
theorem Zkk {op} {t:TE} (h:PE X a t):PE X (.BoolOp op [a] pos) t:=fun pins s σ H Q I hw=>BoolOp_one (h pins s σ H Q I hw)
theorem Zku (ha:PE X a ta) (hb:PE X (.BoolOp .And (b :: rest) pos) tb):PE X (.BoolOp .And (a :: b :: rest) pos) (Zwd ta tb):=by
 intro pins s σ H Q I h;refine BoolOp_and (thn (ha pins s σ H _ I h) fun v s1 ⟨x,H1,I1,r1,q1⟩=>?_);obtain ⟨c,rfl,q1⟩:=q1;cases r1
 refine wpAny_truthy_bool ?_;cases c with
 | true=>exact hb pins s1 σ H1 Q I1 q1
 | false=>exact ⟨.bl false,H1,I1,rfl,q1⟩
theorem Zvq (ha:PE X a ta):PE X (.UnaryOp .Not a pos) (Zv5 ta):=by
 intro pins s σ H Q I h;refine UnaryOp_ (thn (ha pins s σ H _ I h) fun v s1 ⟨x,H1,I1,r1,q1⟩=>?_);obtain ⟨c,rfl,q1⟩:=q1;cases r1
 exact not_of (wpAny_truthy_bool ⟨.bl (!c),H1,I1,rfl,q1⟩)
def tIf (t:TT) (ta tb:TE):TE:=fun σ H Q=>t σ H fun c H1=>if c=true then ta σ H1 Q else tb σ H1 Q
theorem Zf7 {c:Expr} (hc:PT X c tA) (ha:PE X a ta) (hb:PE X b tb):PE X (.IfExp c a b pos) (tIf tA ta tb):=by
 intro pins s σ H Q I h;refine wpAny_IfExp (thn (hc pins s σ H _ I h) fun d s1 ⟨H1,I1,q1⟩=>?_);cases d with
 | true=>exact ha pins s1 σ H1 Q I1 q1
 | false=>exact hb pins s1 σ H1 Q I1 q1
end
def SqL (K:PySem.W.Frag) (H:Hp) (a:Addr) (xs:List V):Prop :=
 Rd H a (.lst xs) ∨
  ∃ (o:Obj) (its:?L) (n:Nat),K.lookup a=some o∧o.cls=.type "list" ∧ o.dict=none∧o.data=.seq its n∧its.size≤sizeLine∧Vals xs its.toList
def SqT (K:PySem.W.Frag) (H:Hp) (a:Addr) (xs:List V):Prop :=
 Rd H a (.tup xs) ∨
  ∃ (o:Obj) (its:?L) (n:Nat),K.lookup a=some o∧o.cls=?M ∧ o.data=.seq its n∧its.size≤sizeLine∧Vals xs its.toList
noncomputable def absV:Value→Option V
 | .none=>some .non
 | .bool b=>some (.bl b)
 | .int i _=>some (.int i)
 | .str x _=>some (.str x)
 | .bytes b _=>some (.byt b)
 | .float b _=>some (.flt b)
 | .ref a=>some (.ref a)
 | .type n=>some (.ty n)
 | _=>none
theorem RelV.abs {x:V} (r:RelV x u):absV u=some x:=by
 cases x with
 | non=>cases r;rfl
 | bl _=>cases r;rfl
 | int _=>obtain ⟨t,rfl⟩:=r;rfl
 | str _=>obtain ⟨t,rfl⟩:=r;rfl
 | byt _=>obtain ⟨t,rfl⟩:=r;rfl
 | flt _=>obtain ⟨t,rfl⟩:=r;rfl
 | ref _=>cases r;rfl
 | ty _=>cases r;rfl
theorem RelV.inj {x:V} (r:RelV x u) (q:RelV y u):x=y:=Option.some.inj (r.abs.symm.trans q.abs)
theorem Vals.inj {ys:List V} (h:Vals xs us) (h':Vals ys us):xs=ys:=by
 induction h generalizing ys with
 | nil=>cases h';rfl
 | cons r _ ih =>
   cases h' with
   | cons r' t'=>rw [r.inj r',ih t']
section
variable {X:Cx} {pins:?B} {σ:St} {H:Hp} {s:Shared} {a:Addr} {xs ys:List V}
theorem SqL.of {K:PySem.W.Frag} (h:H a=some (.lst xs)):SqL K H a xs:=.inl (.inl h)
theorem SqT.of {K:PySem.W.Frag} (h:H a=some (.tup xs)):SqT K H a xs:=.inl (.inl h)
theorem Inv.list (I:?s) (h:SqL X.K H a xs):∃ its:?t,Vals xs its∧PlainL s.heap a its.toArray∧xs.length≤sizeLine:=by
 rcases h with h|⟨o,its,n,hk,hc,hd,hs,hz,r⟩
 · obtain ⟨z,its,n,r,e⟩:=h.ok I.hok;exact ⟨its,r,⟨_,n,e,rfl,rfl,rfl⟩,z⟩
 · refine ⟨its.toList,r,⟨o,n,I.kIn a o hk,hc,hd,by simpa using hs⟩,?_⟩;have e:=r.length;simp only [Array.length_toList] at e;omega
theorem Inv.tuple (I:?s) (h:SqT X.K H a xs):∃ its:?t,Vals xs its∧IsTup s.heap a its.toArray∧xs.length≤sizeLine:=by
 rcases h with h|⟨o,its,n,hk,hc,hs,hz,r⟩
 · obtain ⟨z,its,r,p⟩:=h.ok I.hok;exact ⟨its,r,p.is,z⟩
 · refine ⟨its.toList,r,⟨o,I.kIn a o hk,hc,n,by simpa using hs⟩,?_⟩;have e:=r.length;simp only [Array.length_toList] at e;omega
theorem Inv.list_inj (I:?s) (h:SqL X.K H a xs) (h':SqL X.K H a ys):xs=ys:=by
 obtain ⟨its,r,⟨o,n,e,_,_,d⟩,_⟩:=I.list h;obtain ⟨its',r',⟨o',n',e',_,_,d'⟩,_⟩:=I.list h';rw [e] at e';cases e';rw [d] at d';injection d' with d1 _
 have:its=its':=by simpa using congrArg Array.toList d1
 subst this;exact r.inj r'
theorem Inv.tuple_inj (I:?s) (h:SqT X.K H a xs) (h':SqT X.K H a ys):xs=ys:=by
 obtain ⟨its,r,⟨o,e,_,n,d⟩,_⟩:=I.tuple h;obtain ⟨its',r',⟨o',e',_,n',d'⟩,_⟩:=I.tuple h';rw [e] at e';cases e';rw [d] at d';injection d' with d1 _
 have:its=its':=by simpa using congrArg Array.toList d1
 subst this;exact r.inj r'
end
noncomputable abbrev Cx.wish (X:Cx) (E:Value→?j):Cx:={ X with xe:=E }
noncomputable abbrev Cx.nox (X:Cx):Cx:=X.wish fun _ _=>False
theorem Cx.Ok.wish (ok:X.Ok) (E:Value→?j):(X.wish E).Ok :=
 ⟨ok.mod,ok.kind,ok.glob,ok.blt,ok.above,ok.inj,ok.has,ok.cab,ok.hd,ok.frames,ok.stk,ok.exf,ok.bs,ok.bsz,ok.noex,ok.exfs,ok.funs,ok.frf⟩
theorem Cx.Ok.unwish (ok:(X.wish E).Ok):X.Ok :=
 ⟨ok.mod,ok.kind,ok.glob,ok.blt,ok.above,ok.inj,ok.has,ok.cab,ok.hd,ok.frames,ok.stk,ok.exf,ok.bs,ok.bsz,ok.noex,ok.exfs,ok.funs,ok.frf⟩
section
variable {X:Cx} {pins:?B} {σ:St} {H:Hp} {s:Shared} {E:Value→?j}
theorem Inv.wish (I:?s) (E:Value→?j):Inv (X.wish E) pins σ H s:=⟨I.ok.wish E,I.os,I.bare,I.base,I.loc,I.cell,I.free,I.freeC,I.pin,I.hok,I.len⟩
theorem Inv.unwish (I:Inv (X.wish E) pins σ H s):?s:=⟨I.ok.unwish,I.os,I.bare,I.base,I.loc,I.cell,I.free,I.freeC,I.pin,I.hok,I.len⟩
theorem SP.unwish {D:Ends} {f:Flow} {s':Shared} (h:SP (X.wish E) pins D f s'):SP X pins D f s':=by
 cases f with
 | next=>obtain ⟨σ',H',I,q⟩:=h;exact ⟨σ',H',I.unwish,q⟩
 | brk=>obtain ⟨σ',H',I,q⟩:=h;exact ⟨σ',H',I.unwish,q⟩
 | cont=>obtain ⟨σ',H',I,q⟩:=h;exact ⟨σ',H',I.unwish,q⟩
 | ret u=>obtain ⟨v,σ',H',I,r,q⟩:=h;exact ⟨v,σ',H',I.unwish,r,q⟩
theorem PSs.nox {st:List Stmt} {t:TS} (h:PSs X.nox st t):PSs X st t:=fun pins s σ H D I hw =>
 n56_ (h pins s σ H D (I.wish _) hw) (fun _ _ q=>q.unwish) fun _ _ z=>False.elim z
end
section
variable {X:Cx} {st:Stmt} {rest:List Stmt} {t u:TS} {e:Expr} {te:TE} {pos:Pos}
def Zv8:TS:=fun D σ H=>D.nx σ H
def tSeq (t u:TS):TS:=fun D σ H=>t { D with nx:=u D } σ H
theorem Yb:PSs X [] Zv8:=fun _ _ σ H _ I h=>wpAny_execs_nil ⟨σ,H,I,h⟩
theorem Ze (h1:PS X st t) (h2:PSs X rest u):PSs X (st :: rest) (tSeq t u):=by
 intro pins s σ H D I h;refine wpAny_execs_cons (thn (h1 pins s σ H { D with nx:=u D } I h) fun f s1 q=>?_);cases f with
 | next =>
   obtain ⟨σ',H',I',q⟩:=q;exact h2 pins s1 σ' H' D I' q
 | ret v=>exact q
 | brk=>exact q
 | cont=>exact q
theorem Zi (h1:PS X st t):PSs X [st] t:=by
 intro pins s σ H D I h;refine wpAny_execs_cons (thn (h1 pins s σ H D I h) fun f s1 q=>?_);cases f with
 | next=>exact wpAny_execs_nil q
 | ret v=>exact q
 | brk=>exact q
 | cont=>exact q
theorem Inv.quiet (I:?s):interactive X.env=false:=by simp [interactive,I.ok.kind]
def Zwa (te:TE):TS:=fun D σ H=>te σ H fun _ H1=>D.nx σ H1
theorem Xq (he:PE X e te) (hs:swapsWith e none pos.line X.env=pure false:=by rfl):PS X (.Expr e pos) (Zwa te):=by
 intro pins s σ H D I h;exact wpAny_Expr_any (thn (he pins s σ H _ I h) fun v s1 ⟨x,H1,I1,r1,q1⟩=>⟨σ,H1,I1,q1⟩) I.quiet hs
def tRet (te:TE):TS:=fun D σ H=>te σ H D.rt
theorem Zq (he:PE X e te):PS X (.Return (some e) pos) (tRet te):=by
 intro pins s σ H D I h;exact wpAny_Return_some (thn (he pins s σ H _ I h) fun v s1 ⟨x,H1,I1,r1,q1⟩=>⟨x,σ,H1,I1,r1,q1⟩)
def tIfS (c:TT) (t u:TS):TS:=fun D σ H=>c σ H fun b H1=>if b=true then t D σ H1 else u D σ H1
theorem X5 {c:Expr} {a b:List Stmt} {tc:TT} (hc:PT X c tc) (ha:PSs X a t) (hb:PSs X b u):PS X (.If c a b pos) (tIfS tc t u):=by
 intro pins s σ H D I h;refine wpAny_If (thn (hc pins s σ H _ I h) fun d s1 ⟨H1,I1,q1⟩=>?_);cases d with
 | true=>exact ha pins s1 σ H1 D I1 q1
 | false=>exact hb pins s1 σ H1 D I1 q1
def Zt3:TS:=fun _ _ _=>False
theorem Zem {sts:List Stmt}:PSs X sts Zt3:=fun _ _ _ _ _ _ h=>h.elim
end
abbrev TG:=V→St→Hp→(St→?w)→Prop
abbrev TGs:=List V→St→Hp→(St→?w)→Prop
def PG (X:Cx) (target:Expr) (t:TG):Prop :=
 ∀ (pins:?B) (s:Shared) (σ:St) (H:Hp) (v:V) (u:Value) (Q:St→?w),?s→RelV v u→t v σ H Q →
   wpAny ?A X.A (assign target X.env u) (fun _ s'=>∃ σ' H',Inv X pins σ' H' s'∧Q σ' H') X.xe s
def PGs (X:Cx) (ts:List Expr) (t:TGs):Prop :=
 ∀ (pins:?B) (s:Shared) (σ:St) (H:Hp) (vs:List V) (us:?t) (Q:St→?w),?s→Vals vs us→t vs σ H Q →
   wpAny ?A X.A (assignInOrder ((assignEach ts X.env).map (·.2)) us) (fun _ s'=>∃ σ' H',Inv X pins σ' H' s'∧Q σ' H') X.xe s
abbrev TSet:=V→V→V→Hp→(?w)→Prop
def PSet (X:Cx) (t:TSet):Prop :=
 ∀ (pins:?B) (s:Shared) (σ:St) (H:Hp) (o i v:V) (ov iv u:Value) (Q:?w),?s→RelV o ov→RelV i iv→RelV v u→t o i v H Q →
   wpAny ?A X.A (setItem ov iv u) (fun _ s'=>∃ H',Inv X pins σ H' s'∧Q H') X.xe s
section
variable {X:Cx} {pos:Pos}
def Xb (i:Nat):TG:=fun v σ H Q=>Q (σ.set i (some v)) H
theorem Zk (hN:X.N.Nodup) (hi:X.N[i]? = some x) (hx:Loc X.env.scope x) (hf:X.fn x=true∨X.env.scope.names.lookup x=some .local:=by first|exact .inl rfl|exact .inr rfl|assumption):PG X (.Name x pos) (Xb i):=by
 intro pins s σ H v u Q I r h;exact wpAny_assign_Name (Zal I hN hi hx r (fun s' I'=>⟨_,H,I',h⟩) hf)
inductive BxGNil (vs:List V) (σ:St) (H:Hp) (Q:St→?w):Prop
 | mk  (q1:vs=[]) (q2:Q σ H):BxGNil vs σ H Q
def gNil:TGs:=fun vs σ H Q=>BxGNil vs σ H Q
inductive BxGCons (t:TG) (u:TGs) (vs:List V) (σ:St) (H:Hp) (Q:St→?w):Prop
 | mk (v:_) (r:_) (q1:vs=v :: r) (q2:t v σ H fun σ' H'=>u r σ' H' Q):BxGCons t u vs σ H Q
def Xx (t:TG) (u:TGs):TGs:=fun vs σ H Q=>BxGCons t u vs σ H Q
theorem Zz:PGs X [] gNil:=by
 intro pins s σ H vs us Q I r h;obtain ⟨e,h⟩:=h;subst e;cases r
 exact assignInOrder_nil ⟨σ,H,I,h⟩
theorem Zg {es:List Expr} {t:TG} {u:TGs} (h1:PG X e t) (h2:PGs X es u)
 (hs:(assignEach (e :: es) X.env).map (·.2)=assign e X.env :: (assignEach es X.env).map (·.2):=by rfl):PGs X (e :: es) (Xx t u):=by
 intro pins s σ H vs us Q I r h;obtain ⟨v,vr,e1,h⟩:=h;subst e1;cases r with
 | cons r rr =>
   rw [hs];refine assignInOrder_cons (thn (h1 pins s σ H _ _ _ I r h) fun _ s1 ⟨σ1,H1,I1,q1⟩=>?_);exact h2 pins s1 σ1 H1 _ _ Q I1 rr q1
inductive BxGTup (K:PySem.W.Frag) (n:Nat) (t:TGs) (v:V) (σ:St) (H:Hp) (Q:St→?w):Prop
 | mk (a:_) (xs:_) (q1:v=.ref a) (q2:SqT K H a xs) (q3:xs.length=n) (q4:t xs σ H Q):BxGTup K n t v σ H Q
def gTup (K:PySem.W.Frag) (n:Nat) (t:TGs):TG:=fun v σ H Q=>BxGTup K n t v σ H Q
theorem Z2 {es:List Expr} {k:Nat} {t:TGs} {n:Nat} (hc:X.calm=true) (h:PGs X es t)
 (hn:(assignEach es X.env).length=n:=by rfl) (hst:(assignEach es X.env).findIdx? (·.1)=none:=by rfl):PG X (.Tuple es k pos) (gTup X.K n t):=by
 intro pins s σ H v u Q I r hw;obtain ⟨a,xs,e1,hq,hl,hw⟩:=hw;subst e1;cases r
 obtain ⟨its,rv,ht,hz⟩:=I.tuple hq;refine assign_Tuple_tuple (I.ok.hd hc) ht (by simp [hn,← hl,rv.length]) hst fun h' hx=>?_;have I1:Inv X pins σ H ?T:=I.kept (t':=s.toks) fun b o e=>hx b o (n23_ (n13_ e)) e;exact h pins _ σ H xs _ Q I1 (by simpa using rv) hw
def gSub (to ti:TE) (t:TSet):TG:=fun v σ H Q=>to σ H fun o H1=>ti σ H1 fun i H2=>t o i v H2 fun H3=>Q σ H3
theorem Zd3 {o i:Expr} {to ti:TE} {t:TSet} (ho:PE X o to) (hi:PE X i ti) (hs:PSet X t)
 (ha:∀ v,assign (.Subscript o i pos) X.env v=(do
   let ov ← holding [v] (eval o X.env)
   let iv ← holding [v,ov] (eval i X.env)
   standAt pos
   holding [v,ov,iv] (setItem ov iv v)
   release [v,ov,iv] []):=by intro _;rfl):PG X (.Subscript o i pos) (gSub to ti t):=by
 intro pins s σ H v u Q I r h;rw [ha];refine n1_ (n38_ (thn (ho pins s σ H _ I h) fun ov s1 ⟨x,H1,I1,r1,q1⟩=>?_));refine n1_ (n38_ (thn (hi pins s1 σ H1 _ I1 q1) fun iv s2 ⟨y,H2,I2,r2,q2⟩=>?_));refine n1_ (wpAny_standAt (n1_ (n38_ (thn (hs pins s2 σ H2 x y v ov iv u _ I2 r1 r2 r q2) fun _ s3 ⟨H3,I3,q3⟩=>?_))));exact wpAny_release ⟨σ,H3,I3,q3⟩
def tAsg (te:TE) (g:TG):TS:=fun D σ H=>te σ H fun x H1=>g x σ H1 D.nx
theorem Yx (he:PE X e te) (hg:PG X tg g) (hs:swapsWithSole [tg] e pos.line X.env=pure false:=by rfl) (hw:swappedStores [tg] e X.env=pure none:=by rfl)
 (h1:(assignEach [tg] X.env).map (·.2)=[assign tg X.env]:=by rfl):PS X (.Assign [tg] e pos) (tAsg te g):=by
 intro pins s σ H D I h;refine wpAny_Assign_stores (thn (he pins s σ H _ I h) fun v s1 ⟨x,H1,I1,r1,q1⟩=>?_) hs hw;rw [h1];exact thn (hg pins s1 σ H1 x v _ I1 r1 q1) fun _ s2 q=>q
theorem Z0 {i:Nat} {x:Str} {e:Expr} {te:TE} {pos':Pos} (hN:X.N.Nodup) (hi:X.N[i]? = some x) (hx:Loc X.env.scope x) (he:PE X e te) (hs:swapsWith e (some (.Name x pos')) pos.line X.env=pure false:=by rfl) (hf:X.fn x=true∨X.env.scope.names.lookup x=some .local:=by first|exact .inl rfl|exact .inr rfl|assumption) :
 PS X (.Assign [.Name x pos'] e pos) (tAsg te (Xb i)):=by
 intro pins s σ H D I h;refine wpAny_Assign_Name (thn (he pins s σ H _ I h) fun v s1 ⟨y,H1,I1,r1,q1⟩=>?_) hs;exact Zal I1 hN hi hx r1 (fun s2 I2=>⟨_,H1,I2,q1⟩) hf
inductive BxTPar (i j:Nat) (D:Ends) (σ:St) (vs:List V) (H1:Hp):Prop
 | mk (v:_) (w:_) (q1:vs=[v,w]) (q2:D.nx ((σ.set i (some v)).set j (some w)) H1):BxTPar i j D σ vs H1
def tPar (i j:Nat) (ta:TA):TS:=fun D σ H=>ta σ H fun vs H1=>BxTPar i j D σ vs H1
theorem Zb7 {i j:Nat} {x y:Str} {a b:Expr} {ta:TA} {px py pt:Pos} {kt k2 pt2} (hc:X.calm=true) (hN:X.N.Nodup) (hi:X.N[i]? = some x) (hj:X.N[j]? = some y) (hij:i≠j)
 (hx:X.env.scope.names.lookup x=some .local) (hy:X.env.scope.names.lookup y=some .local) (ha:PA X [a,b] ta)
 (hw:swappedStores [.Tuple [.Name x px,.Name y py] kt pt] (.Tuple [a,b] k2 pt2) X.env=pure (some [x,y]))
 (hs:swapsWithSole [.Tuple [.Name x px,.Name y py] kt pt] (.Tuple [a,b] k2 pt2) pos.line X.env=pure false:=by rfl) :
 PS X (.Assign [.Tuple [.Name x px,.Name y py] kt pt] (.Tuple [a,b] k2 pt2) pos) (tPar i j ta):=by
 intro pins s σ H D I h;rw [exec_Assign_arm];refine n1_ (wpAny_standAt ?_);rw [hs];refine n1_ (n6_ ?_);rw [if_neg ?e];refine n1_ (Tuple_ (thn (ha _ pins s σ H _ I h) fun us s1 ⟨vs,H1,I1,r1,q1⟩=>?_));obtain ⟨v,w,e1,q1⟩:=q1;subst e1
 obtain ⟨u1,u2,rfl,rv,rw'⟩:∃ u1 u2,us=[u1,u2]∧RelV v u1∧RelV w u2:=by
  cases r1 with
  | cons p q =>
    cases q with
    | cons p' q' =>
      cases q'
      exact ⟨_,_,rfl,p,p'⟩
 refine wpAny_newObj_type ?_ (z2_);have I2:Inv X pins σ H1 { s1 with heap:=s1.heap.push { cls:=?M,data:=.seq [u1,u2].toArray } }:=I1.kept (t':=s1.toks) fun b o e=>n2_ _ e;rw [hw];refine n1_ (n6_ ?_);show wpAny ?A X.A (do rule "assign.swapped-stores";let items ← unpackItems (.ref s1.z) 2 none;assignInOrder [fun v=>bindName X.env y v,fun v=>bindName X.env x v] items.reverse;pure Flow.next) _ _ _
 refine n1_ (wpAny_rule (n1_ (unpackItems_tuple (items:=#[u1,u2]) (I.ok.hd hc) (IsTup.new s1.heap _) fun h' hx'=>?_)));have I3:=I2.kept (h':=h') (t':=s1.toks) fun b o e=>hx' b o (n23_ (n13_ e)) e;show wpAny _ _ (assignInOrder [fun v=>bindName X.env y v,fun v=>bindName X.env x v] [u2,u1] >>= fun _=>pure Flow.next) _ _ _
 refine n1_ (assignInOrder_cons (wpAny_bindName (Zal I3 hN hj (.inl hy) rw' (fun s2 I4=>?_) (.inr hy))));refine assignInOrder_cons (wpAny_bindName (Zal I4 hN hi (.inl hx) rv (fun s3 I5=>assignInOrder_nil (n6_ ?_)) (.inr hx)));rw [List.set_comm _ _ (Ne.symm hij)] at I5;exact ⟨_,H1,I5,q1⟩
end
section
variable {X:Cx} {pos:Pos}
def Zrh (c:TT) (tb:TS):TS:=fun D σ H=>∃ W:Nat→St→?w,(∃ m,W m σ H)∧∀ m σ H,W m σ H →
 c σ H fun b H1=>if b=true then ∃ N:St→?w,(∀ σ' H',N σ' H'→∃ m',m'<m∧W m' σ' H')∧tb { D with nx:=N,ct:=N,bk:=D.nx } σ H1 else D.nx σ H1
theorem Zdo {c:Expr} {body:List Stmt} {tc:TT} {tb:TS} (hp:PassesOwn ?A X.A X.env X.xe) (hc:PT X c tc) (hb:PSs X body tb):PS X (.While c body [] pos) (Zrh tc tb):=by
 intro pins s σ H D I h;obtain ⟨W,⟨m0,w0⟩,turn⟩:=h;refine wpAny_While (codeAny_whileLoop (fun n s'=>∃ σ' H',Inv X pins σ' H' s'∧W n σ' H') ?_ m0 ⟨σ,H,I,w0⟩);rintro n s1 ⟨σ1,H1,I1,w1⟩
 refine wpAny_passesOwn hp (thn (hc pins s1 σ1 H1 _ I1 (turn n σ1 H1 w1)) fun b s2 ⟨H2,I2,q2⟩=>?_);cases b with
 | true =>
   obtain ⟨N,hN,q2⟩:=q2;rw [if_pos rfl];refine wpAny_passesOwn hp (thn (hb pins s2 σ1 H2 _ I2 q2) fun f s3 q3=>?_);cases f with
   | next =>
     obtain ⟨σ3,H3,I3,n3⟩:=q3;obtain ⟨m',hm,w3⟩:=hN σ3 H3 n3;exact ⟨m',hm,σ3,H3,I3,w3⟩
   | cont =>
     obtain ⟨σ3,H3,I3,n3⟩:=q3;obtain ⟨m',hm,w3⟩:=hN σ3 H3 n3;exact ⟨m',hm,σ3,H3,I3,w3⟩
   | brk=>exact q3
   | ret v=>exact q3
 | false =>
   rw [if_neg n27_];exact wpAny_execs_nil ⟨σ1,H2,I2,q2⟩
end
structure It where
 go:Nat→?w
 yld:Nat→Hp→V→?w
 stop:Nat→?w
def FpOk (X:Cx) (pins:?B) (H:Hp) (b:Addr):Prop :=
 H b=none∧b≠X.env.locals∧b∉X.fs∧(b∈X.ex∨X.s₀.z≤b)∧(∀ x c,X.env.cells.lookup x=some c→c≠b)∧∀ p∈X.pn++pins,p.1≠b
theorem Inv.fpOk (I:?s) (hb:s.z≤b) (hn:H' b=none):FpOk X pins H' b:=by
 refine ⟨hn,n75_ (n9_ I.lt hb),I.nofs hb,.inr (n31_ I.sz hb),fun x c e z=>?_,fun p hp z=>?_⟩
 · obtain ⟨v,q⟩:=I.cell x c e;exact absurd (n9_ q.lt (by rw [z];exact hb)) (n93_ _)
 · exact absurd (n9_ (n13_ (I.pin p hp).1) (by rw [z];exact hb)) (n93_ _)
structure Turn (P:Program) (w:World) (K:PySem.W.Frag) (tg:Expr) (J:It) (fp:List Addr) (it:Addr) (tn:Nat→Heap→Prop):Prop where
 mem:it∈fp
 obj:∀ i h,tn i h→∀ b∈fp,∃ o,h.get? b=some o∧∀ v,o.data≠.cell v
 keep:∀ i h h',tn i h→(∀ b∈fp,∀ o,h.get? b=some o→h'.get? b=some o)→tn i h'
 item:∀ (X:Cx),X.prog=P→X.w=w→X.K=K→X.calm=true→∀ (i:Nat) (pins:?B) (s:Shared) (σ:St) (H:Hp) (E:Value→?j),?s→(∀ b∈fp,FpOk X pins H b)→tn i s.heap→J.go i H →
  wpAny (model P w) X.A (pyNext (.ref it)) (fun r s1=>∃ u,r=some u ∧
   wpAny (model P w) X.A (letOwnedTupleGo tg (.ref it) u) (fun _ s2=>∃ x H',Inv X pins σ H' s2∧RelV x u∧J.yld i H x H'∧tn (i+1) s2.heap∧∀ b∈fp,H' b=none) E s1) E s
 done:∀ (X:Cx),X.prog=P→X.w=w→X.K=K→X.calm=true→∀ (i:Nat) (pins:?B) (s:Shared) (σ:St) (H:Hp) (E:Value→?j),?s→(∀ b∈fp,FpOk X pins H b)→tn i s.heap→J.stop i H →
  wpAny (model P w) X.A (pyNext (.ref it)) (fun r s1=>r=none∧Inv X pins σ H s1) E s
 self:∀ (A:Around) (i:Nat) (s:Shared) (Q:Value→?j) (E:Value→?j),tn i s.heap→Q (.ref it) s→wpAny (model P w) A (pyIter (.ref it)) Q E s
abbrev TI:=St→Hp→(It→?w)→Prop
def PIE (X:Cx) (pins:?B) (σ:St) (tg:Expr) (R:It→?w) (itv:Value) (s2:Shared):Prop :=
 ∃ (it:Addr) (fp:List Addr) (tn:Nat→Heap→Prop) (J:It) (H':Hp),itv=.ref it∧Inv X pins σ H' s2∧Turn X.prog X.w X.K tg J fp it tn∧tn 0 s2.heap∧(∀ b∈fp,FpOk X pins H' b)∧R J H'
def PI (X:Cx) (tg iter:Expr) (wi:TI):Prop :=
 ∀ (pins:?B) (s:Shared) (σ:St) (H:Hp) (R:It→?w),?s→wi σ H R →
   wpAny ?A X.A (eval iter X.env) (fun v s1=>wpAny ?A X.A (pyIter v) (PIE X pins σ tg R) X.xe s1) X.xe s
theorem Zs6 {n:String} {vs:?L} {Q:Unit→?j} (ho:s.heap.get? it=some o) (hc:o.cls=.type n) (hd:o.data=.fields vs)
 (hn:["enumerate","zip","dict_itemiterator","dict_reverseitemiterator","odict_iterator","itertools.zip_longest","itertools.pairwise"].contains n=false) (hQ:Q () s):wpAny M A (letOwnedTupleGo tg (.ref it) u) Q E s:=by
 unfold letOwnedTupleGo
 cases tg<;>first
  | exact n6_ hQ
  | (cases u<;>first
      | exact n6_ hQ
      | (refine n1_ (wpAny_load ho ?_)
         rw [hc,hd];show wpAny M A (if (["enumerate","zip","dict_itemiterator","dict_reverseitemiterator","odict_iterator","itertools.zip_longest","itertools.pairwise"].contains n&&vs[0]? == some (rawInt _))=true then _ else _) Q E s
         rw [if_neg (by intro h;rw [hn,Bool.false_and] at h;cases h)];exact n6_ hQ))
def Itl (K:PySem.W.Frag) (a:Addr):It :=
 ⟨fun i H=>∃ xs x,SqL K H a xs∧xs[i]? = some x,fun i H x H'=>H'=H∧∀ xs,SqL K H a xs→xs[i]? = some x,fun i H=>∃ xs,SqL K H a xs∧xs.length≤i⟩
def Itt (K:PySem.W.Frag) (a:Addr):It :=
 ⟨fun i H=>∃ xs x,SqT K H a xs∧xs[i]? = some x,fun i H x H'=>H'=H∧∀ xs,SqT K H a xs→xs[i]? = some x,fun i H=>∃ xs,SqT K H a xs∧xs.length≤i⟩
def Itr (lo:Int) (n:Nat):It:=⟨fun i _=>i<n,fun i H x H'=>H'=H∧x=.int (lo+i),fun i _=>n≤i⟩
theorem Zm1 {K:PySem.W.Frag} (a it:Addr):Turn P w K tg (Itl K a) [it] it (fun i h=>h.IsListIter it a i) where
 mem:=by simp
 obj:=fun i h st b hb=>by
  have e:b=it:=by simpa using hb
  subst e;obtain ⟨o,e,c,d⟩:=st;exact ⟨o,e,fun v z=>by rw [d] at z;cases z⟩
 keep:=fun i h h' st k=>st.at fun o e=>k it ?f o e
 item:=by
  intro X hP hw hK hc i pins s σ H E I hf st hg;subst hP hw hK;obtain ⟨xs,x,hq,hx⟩:=hg;obtain ⟨its,rv,p,hz⟩:=I.list hq;obtain ⟨u,hu,ru⟩:=rv.get hx;obtain ⟨f0,f1,f2,f3,f4,f5⟩:=hf it ?f;refine wpAny_pyNext_list_item st p.isList (x:=u) (by simpa using hu) fun h' st' sb=>?_;have I1:Inv X pins σ H ?T:=I.turned (t':=s.toks) (fun b o hb e=>(sb.2 b hb).trans e) f0 f1 f3 f4 f5;obtain ⟨o,e,c,d⟩:=id st';exact ⟨u,rfl,Zs6 (s:=?T) e c d ?e ⟨x,H,I1,ru,⟨rfl,fun ys hy=>by rw [I.list_inj hy hq];exact hx⟩,st',fun b hb=>(hf b hb).1⟩⟩
 done:=by
  intro X hP hw hK hc i pins s σ H E I hf st hg;subst hP hw hK;obtain ⟨xs,hq,hx⟩:=hg;obtain ⟨its,rv,p,hz⟩:=I.list hq;obtain ⟨f0,f1,f2,f3,f4,f5⟩:=hf it ?f;have hl:=rv.length;exact wpAny_pyNext_list_end (I.ok.hd hc) st p.isList (by simp;omega) fun h' eb=>⟨rfl,I.turned (t':=s.toks) (fun b o hb e=>eb b o hb e) f0 f1 f3 f4 f5⟩
 self:=fun _ _ _ _ _ st h=>wpAny_pyIter_listiter st h
theorem Zlm {K:PySem.W.Frag} (a it:Addr):Turn P w K tg (Itt K a) [it] it (fun i h=>h.IsTupleIter it a i) where
 mem:=by simp
 obj:=fun i h st b hb=>by
  have e:b=it:=by simpa using hb
  subst e;obtain ⟨o,e,c,d⟩:=st;exact ⟨o,e,fun v z=>by rw [d] at z;cases z⟩
 keep:=fun i h h' st k=>st.at fun o e=>k it ?f o e
 item:=by
  intro X hP hw hK hc i pins s σ H E I hf st hg;subst hP hw hK;obtain ⟨xs,x,hq,hx⟩:=hg;obtain ⟨its,rv,p,hz⟩:=I.tuple hq;obtain ⟨u,hu,ru⟩:=rv.get hx;obtain ⟨f0,f1,f2,f3,f4,f5⟩:=hf it ?f;refine wpAny_pyNext_tuple_item st (show s.heap.IsTuple a its.toArray from p) (x:=u) (by simpa using hu) fun h' st' sb=>?_;have I1:Inv X pins σ H ?T:=I.turned (t':=s.toks) (fun b o hb e=>(sb.2 b hb).trans e) f0 f1 f3 f4 f5;obtain ⟨o,e,c,d⟩:=id st';exact ⟨u,rfl,Zs6 (s:=?T) e c d ?e ⟨x,H,I1,ru,⟨rfl,fun ys hy=>by rw [I.tuple_inj hy hq];exact hx⟩,st',fun b hb=>(hf b hb).1⟩⟩
 done:=by
  intro X hP hw hK hc i pins s σ H E I hf st hg;subst hP hw hK;obtain ⟨xs,hq,hx⟩:=hg;obtain ⟨its,rv,p,hz⟩:=I.tuple hq;obtain ⟨f0,f1,f2,f3,f4,f5⟩:=hf it ?f;have hl:=rv.length;exact wpAny_pyNext_tuple_end (I.ok.hd hc) st (show s.heap.IsTuple a its.toArray from p) (by simp;omega) fun h' eb=>⟨rfl,I.turned (t':=s.toks) (fun b o hb e=>eb b o hb e) f0 f1 f3 f4 f5⟩
 self:=fun _ _ _ _ _ st h=>wpAny_pyIter_tupleiter st h
theorem Zlu {K:PySem.W.Frag} (it:Addr) (lo:Int) (n:Nat):Turn P w K tg (Itr lo n) [it] it (fun i h=>IsRangeIter h it (lo+(i:Nat)*1) ((n:Int)-(i:Nat)) 1) where
 mem:=by simp
 obj:=fun i h st b hb=>by
  have e:b=it:=by simpa using hb
  subst e
  exact ⟨_,st,fun v z=>by
   have z':Data.fields _=Data.cell v:=z;cases z'⟩
 keep:=fun i h h' st k=>k it ?f _ st
 item:=by
  intro X hP hw hK hc i pins s σ H E I hf st hg;subst hP hw hK;obtain ⟨f0,f1,f2,f3,f4,f5⟩:=hf it ?f;have W:=Walks.range (prog:=X.prog) (w:=X.w) (I.ok.hd hc) it lo 1 n;refine W.item i s _ _ hg st fun v h' tk hv st' kk=>?_;obtain ⟨t,rfl⟩:=hv;have I1:Inv X pins σ H { s with heap:=h',toks:=tk }:=I.turned (fun b o hb e=>kk b o (by simpa using hb) e) f0 f1 f3 f4 f5;refine ⟨_,rfl,Zs6 (s:={ s with heap:=h',toks:=tk }) (n := "range_iterator") st' rfl rfl ?e ⟨.int (lo+i),H,I1,⟨t,?_⟩,⟨rfl,rfl⟩,st',fun b hb=>(hf b hb).1⟩⟩;rw [Int.mul_one]
 done:=by
  intro X hP hw hK hc i pins s σ H E I hf st hg;subst hP hw hK;obtain ⟨f0,f1,f2,f3,f4,f5⟩:=hf it ?f;exact wpAny_pyNext_range_end (I.ok.hd hc) st (by have:n≤i:=hg;omega) fun h' eb=>⟨rfl,I.turned (t':=s.toks) (fun b o hb e=>eb b o hb e) f0 f1 f3 f4 f5⟩
 self:=fun _ _ _ _ _ st h=>wpAny_pyIter_rangeiter st h
section
variable {X:Cx} {tg:Expr}
def Zug (K:PySem.W.Frag) (tl:TE):TI:=fun σ H R=>tl σ H fun x H1=>∃ a,x=.ref a∧(∃ xs,SqL K H1 a xs)∧R (Itl K a) H1
def iTup (K:PySem.W.Frag) (tl:TE):TI:=fun σ H R=>tl σ H fun x H1=>∃ a,x=.ref a∧(∃ xs,SqT K H1 a xs)∧R (Itt K a) H1
theorem Yl {l:Expr} (hl:PE X l tl):PI X tg l (Zug X.K tl):=by
 intro pins s σ H R I h;refine thn (hl pins s σ H _ I h) fun v s1 ⟨x,H1,I1,r1,q1⟩=>?_;obtain ⟨a,e,⟨xs,hq⟩,q⟩:=q1;subst e;cases r1
 obtain ⟨its,rv,p,hz⟩:=I1.list hq;refine wpAny_pyIter_list p.isList ?_;refine ⟨s1.z,[s1.z],_,_,H1,rfl,I1.kept (t':=s1.toks) fun b o e=>n2_ _ e,Zm1 a _,⟨_,n8_ _ rfl,rfl,rfl⟩,fun b hb=>?_,q⟩;have e:b=s1.z:=by simpa using hb
 subst e;exact I1.fpOk (n7_ _) (I1.hok.fresh (n7_ _))
theorem Zai {l:Expr} (hl:PE X l tl):PI X tg l (iTup X.K tl):=by
 intro pins s σ H R I h;refine thn (hl pins s σ H _ I h) fun v s1 ⟨x,H1,I1,r1,q1⟩=>?_;obtain ⟨a,e,⟨xs,hq⟩,q⟩:=q1;subst e;cases r1
 obtain ⟨its,rv,p,hz⟩:=I1.tuple hq;refine wpAny_pyIter_tuple (show s1.heap.IsTuple a its.toArray from p) ?_;refine ⟨s1.z,[s1.z],_,_,H1,rfl,I1.kept (t':=s1.toks) fun b o e=>n2_ _ e,Zlm a _,⟨_,n8_ _ rfl,rfl,rfl⟩,fun b hb=>?_,q⟩;have e:b=s1.z:=by simpa using hb
 subst e;exact I1.fpOk (n7_ _) (I1.hok.fresh (n7_ _))
theorem Zqe {R:It→?w} {lo hi:Int} {t u v:Tok} {tk:Nat} (I:?s) (h1:-(2^62)≤lo) (h2:lo<2^62) (h3:-(2^62)≤hi) (h4:hi<2^62)
 (q:R (Itr lo (hi-lo).toNat) H):wpAny ?A X.A (pyIter (.ref s.z)) (PIE X pins σ tg R) E { s with heap:=s.heap.push ?an,toks:=tk }:=by
 refine wpAny_pyIter_range (IsRange.new ..) (small_one h1 h2 h3 h4) ?_;have I1:Inv X pins σ H { s with heap:=s.heap.push ?an,toks:=tk }:=I.kept fun b o e=>n2_ _ e
 refine ⟨(s.heap.push ?an).objs.size,[(s.heap.push ?an).objs.size],_,_,H,rfl,
  I1.kept (t':=tk) fun b o e=>n2_ _ e,Zlu _ lo (hi-lo).toNat,?_,fun b hb=>?_,q⟩
 · have e1:lo+((0:Nat):Int)*1=lo:=by simp
   have e2:(((hi-lo).toNat:Nat):Int)-((0:Nat):Int)=Builtin.Range.rangeSize lo hi 1:=by rw [rangeSize_one];split<;>omega
   show IsRangeIter _ _ (lo+((0:Nat):Int)*1) ((((hi-lo).toNat:Nat):Int)-((0:Nat):Int)) 1
   rw [e1,e2];exact n8_ _ rfl
 · have e:b=(s.heap.push ?an).objs.size:=by simpa using hb
   subst e;exact I1.fpOk (n7_ _) (I1.hok.fresh (n7_ _))
def Zv7 (ta:TA):TI:=fun σ H R=>ta σ H fun vs H1=>∃ j:Int,vs=[.int j]∧-(2^62)≤j∧j<2^62∧R (Itr 0 j.toNat) H1
theorem Yy {a:Expr} (hg:Gl X "range") (hm:X.mg "range" = none) (ha:PA X [a] ta) (hs:starEach [a] X.env=[(false,eval a X.env)]:=by rfl):PI X tg (.Call (.Name "range" p) [a] [] pos) (Zv7 ta):=by
 intro pins s σ H R I h;refine Call_ (Zcd I hg hm boot_range (n64_ (thn (ha pos pins s σ H _ I h) fun us s1 ⟨vs,H1,I1,r1,q1⟩=>?_) hs rfl));obtain ⟨j,e,q1,q2,q⟩:=q1;subst e;cases r1 with
 | cons r rr =>
   cases rr
   obtain ⟨t,rfl⟩:=r;exact call_range_1 (Zqe I1 (?d) (?d) q1 q2 (by simpa using q))
def tFor (wi:TI) (g:TG) (tb:TS):TS:=fun D σ H=>wi σ H fun J H1=>∃ W:Nat→Nat→St→?w,(∃ m,W 0 m σ H1)∧∀ i m σ H,W i m σ H →
 (J.stop i H∧D.nx σ H)∨(J.go i H∧∃ N:St→?w,(∀ σ' H',N σ' H'→∃ m',m'<m∧W (i+1) m' σ' H')∧∀ x H',J.yld i H x H'→g x σ H' fun σ2 H2=>tb { D with nx:=N,ct:=N,bk:=D.nx } σ2 H2)
noncomputable def Zk9 (fp:List Addr) (h:Heap):?B:=fp.filterMap fun b=>(h.get? b).map fun o=>(b,o)
theorem Y4 (hb:b∈fp) (e:h.get? b=some o):(b,o)∈Zk9 fp h:=List.mem_filterMap.mpr ⟨b,hb,by rw [e];rfl⟩
theorem Znl {p:Addr×Obj} (hp:p∈Zk9 fp h):p.1∈fp∧h.get? p.1=some p.2:=by
 obtain ⟨b,hb,e⟩:=List.mem_filterMap.mp hp;cases q:h.get? b with
 | none=>rw [q] at e;cases e
 | some o =>
   rw [q] at e;have e':(b,o)=p:=Option.some.inj e;subst e';exact ⟨hb,q⟩
theorem Inv.pinned (I:?s) (hf:∀ b∈fp,FpOk X pins H b) (ho:∀ b∈fp,∃ o,s.heap.get? b=some o∧∀ v,o.data≠.cell v):Inv X (pins++Zk9 fp s.heap) σ H s :=
 I.pins_of fun p hp=>(n36_.mp hp).elim (fun z=>I.pin p (n26_ _ z)) fun z=>by
  obtain ⟨hb,e⟩:=Znl z;obtain ⟨f0,f1,f2,_⟩:=hf p.1 hb;obtain ⟨o,e',d⟩:=ho p.1 hb;rw [e] at e';cases e';exact ⟨e,f0,f1,f2,d⟩
theorem Inv.unpinned {pl:?B} (I:Inv X (pins++pl) σ H s):?s:=I.pins_of fun p hp=>I.pin p (n26_ _ (List.mem_append_left _ hp))
theorem Y7 {iter:Expr} {body:List Stmt} {wi:TI} {tb:TS} (hp:PassesOwn ?A X.A X.env X.xe) (hc:X.calm=true) (hi:PI X tg iter wi) (hg:PG X tg g) (hb:PSs X body tb)
 (hs:∀ x,foldedSetIterable iter X.env x=pure x:=by intro _;rfl):PS X (.For tg iter body [] pos) (tFor wi g tb):=by
 intro pins s σ H D I h;refine wpAny_For (thn (hi pins s σ H _ I h) fun v s1 h1=>thn h1 fun itv s2 h2=>?_) hs;obtain ⟨it,fp,tn,J,H2,e,I2,T,st2,f2,W,⟨m0,w0⟩,turn⟩:=h2;subst e;have stat:∀ {H':Hp},(∀ b∈fp,H' b=none)→∀ b∈fp,FpOk X pins H' b:=fun hn b hb=>⟨hn b hb,(f2 b hb).2⟩;refine codeAny_forLoop_any (fun n s'=>∃ i σ' H',Inv X pins σ' H' s'∧tn i s'.heap∧(∀ b∈fp,H' b=none)∧W i n σ' H') ?_ m0 ⟨0,σ,H2,I2,st2,fun b hb=>(f2 b hb).1,w0⟩;rintro n s3 ⟨i,σ3,H3,I3,st3,fr3,w3⟩
 rcases turn i n σ3 H3 w3 with ⟨stop,qn⟩|⟨go,N,hN,step⟩
 · refine wpAny_passesOwn hp (thn (T.done X rfl rfl rfl hc i pins s3 σ3 H3 X.xe I3 (stat fr3) st3 stop) fun r s4 ⟨hr,I4⟩=>?_);subst hr;exact wpAny_execs_nil ⟨σ3,H3,I4,qn⟩
 · refine wpAny_passesOwn hp (thn (T.item X rfl rfl rfl hc i pins s3 σ3 H3 X.xe I3 (stat fr3) st3 go) fun r s4 ⟨u,hr,h4⟩=>?_);subst hr;refine wpAny_passesOwn hp (thn h4 fun _ s5 ⟨x,H5,I5,r5,y5,st5,fr5⟩=>?_);have I5':=I5.pinned (stat fr5) (T.obj _ _ st5);refine wpAny_passesOwn hp (thn (hg _ s5 σ3 H5 x u _ I5' r5 (step x H5 y5)) fun _ s6 ⟨σ6,H6,I6,q6⟩=>?_);refine wpAny_passesOwn hp (thn (hb _ s6 σ6 H6 _ I6 q6) fun f s7 q7=>?_)
   have again:∀ {σ7:St} {H7:Hp},Inv X (pins++Zk9 fp s5.heap) σ7 H7 s7→N σ7 H7→∃ m,m<n∧∃ i σ' H',Inv X pins σ' H' s7∧tn i s7.heap∧(∀ b∈fp,H' b=none)∧W i m σ' H':=fun {σ7 H7} I7 n7=>by
    obtain ⟨m',hm,w7⟩:=hN σ7 H7 n7;refine ⟨m',hm,i+1,σ7,H7,I7.unpinned,T.keep _ _ _ st5 fun b hb o e=>(I7.pin (b,o) (n26_ _ (n26_ _ (Y4 hb e)))).1,fun b hb=>?_,w7⟩;obtain ⟨o,e,d⟩:=T.obj _ _ st5 b hb;exact (I7.pin (b,o) (n26_ _ (n26_ _ (Y4 hb e)))).2.1
   cases f with
   | next=>obtain ⟨σ7,H7,I7,n7⟩:=q7;exact again I7 n7
   | cont=>obtain ⟨σ7,H7,I7,n7⟩:=q7;exact again I7 n7
   | brk=>obtain ⟨σ7,H7,I7,q7⟩:=q7;exact ⟨σ7,H7,I7.unpinned,q7⟩
   | ret v=>obtain ⟨x7,σ7,H7,I7,r7,q7⟩:=q7;exact ⟨x7,σ7,H7,I7.unpinned,r7,q7⟩
end
theorem Zd1 {lo:Int} {tb:TS} {D:Ends} (Pv:Nat→St→?w) (h0:Pv 0 σ H)
 (hs:∀ i σ H,i<n→Pv i σ H→g (.int (lo+i)) σ H fun σ2 H2=>tb { D with nx:=Pv (i+1),ct:=Pv (i+1),bk:=D.nx } σ2 H2) (hd:∀ σ H,Pv n σ H→D.nx σ H) :
 ∃ W:Nat→Nat→St→?w,(∃ m,W 0 m σ H)∧∀ i m σ H,W i m σ H →
   ((Itr lo n).stop i H∧D.nx σ H)∨((Itr lo n).go i H∧∃ N:St→?w,(∀ σ' H',N σ' H'→∃ m',m'<m∧W (i+1) m' σ' H')∧∀ x H',(Itr lo n).yld i H x H'→g x σ H' fun σ2 H2=>tb { D with nx:=N,ct:=N,bk:=D.nx } σ2 H2):=by
 refine ⟨fun i m σ H=>m=n-i∧i≤n∧Pv i σ H,⟨n,by simp,n47_ _,h0⟩,?_⟩;rintro i m σ H ⟨rfl,hi,p⟩
 by_cases hlt:i<n
 · refine .inr ⟨hlt,Pv (i+1),fun σ' H' p'=>⟨n-(i+1),?d,rfl,hlt,p'⟩,fun x H' y=>?_⟩;obtain ⟨e,y⟩:=y;subst e y;exact hs i σ _ hlt p
 · have e:i=n:=?d
   subst e;exact .inl ⟨n7_ _,hd σ H p⟩
theorem Zdn {c:TT} {tb:TS} {D:Ends} (Pv:St→?w) (μ:St→Hp→Nat) (h0:Pv σ H)
 (hs:∀ σ H,Pv σ H→c σ H fun b H1=>if b=true then tb { D with nx:=fun σ' H'=>Pv σ' H'∧μ σ' H'<μ σ H,ct:=fun σ' H'=>Pv σ' H'∧μ σ' H'<μ σ H,bk:=D.nx } σ H1 else D.nx σ H1)
 (mono:∀ σ H Q Q',(∀ b H1,Q b H1→Q' b H1)→c σ H Q→c σ H Q'):Zrh c tb D σ H:=by
 refine ⟨fun m σ H=>m=μ σ H∧Pv σ H,⟨_,rfl,h0⟩,?_⟩;rintro m σ H ⟨rfl,p⟩
 refine mono σ H _ _ (fun b H1 q=>?_) (hs σ H p);cases b with
 | true=>exact ⟨_,fun σ' H' ⟨p',l⟩=>⟨_,l,rfl,p'⟩,q⟩
 | false=>exact q
abbrev R2:=V→V→Hp→VK→Prop
def OpR (X:Cx) (f:Value→Value→Sem Value) (r:R2):Prop :=
 ∀ (pins:?B) (s:Shared) (σ:St) (H:Hp) (x y:V) (v u:Value) (Q:VK),?s→RelV x v→RelV y u→r x y H Q →
   wpAny ?A X.A (f v u) (EP X pins σ Q) X.xe s
def UnR (X:Cx) (f:Value→Sem Value) (r:V→Hp→VK→Prop):Prop :=
 ∀ (pins:?B) (s:Shared) (σ:St) (H:Hp) (x:V) (v:Value) (Q:VK),?s→RelV x v→r x H Q →
   wpAny ?A X.A (f v) (EP X pins σ Q) X.xe s
def Xl (X:Cx) (f:Value) (r:?W):Prop :=
 ∀ (pins:?B) (s:Shared) (σ:St) (H:Hp) (xs:List V) (us:?t) (Q:VK),?s→Vals xs us→r xs H Q →
   wpAny ?A X.A (call f us) (EP X pins σ Q) X.xe s
def TruR (X:Cx) (r:V→Hp→(Bool→?w)→Prop):Prop :=
 ∀ (pins:?B) (s:Shared) (σ:St) (H:Hp) (x:V) (v:Value) (Q:Bool→?w),?s→RelV x v→r x H Q →
   wpAny ?A X.A (truthy v) (TP X pins σ Q) X.xe s
def tOp (r:R2) (ta tb:TE):TE:=fun σ H Q=>ta σ H fun x H1=>tb σ H1 fun y H2=>r x y H2 Q
def tUn (r:V→Hp→VK→Prop) (ta:TE):TE:=fun σ H Q=>ta σ H fun x H1=>r x H1 Q
inductive BxRI (C:Int→Int→Prop) (g:Int→Int→V) (x y:V) (H:Hp) (Q:VK):Prop
 | mk (i:_) (j:_) (q1:x=.int i) (q2:y=.int j) (q3:C i j) (q4:Q (g i j) H):BxRI C g x y H Q
def rI (C:Int→Int→Prop) (g:Int→Int→V):R2:=fun x y H Q=>BxRI C g x y H Q
inductive BxRI0 (g:Int→Int→V) (x y:V) (H:Hp) (Q:VK):Prop
 | mk (i:_) (j:_) (q1:x=.int i) (q2:y=.int j) (q3:Q (g i j) H):BxRI0 g x y H Q
def rI0 (g:Int→Int→V):R2:=fun x y H Q=>BxRI0 g x y H Q
inductive BxRU (g:Int→V) (x:V) (H:Hp) (Q:VK):Prop
 | mk (i:_) (q1:x=.int i) (q2:Q (g i) H):BxRU g x H Q
def rU (g:Int→V):V→Hp→VK→Prop:=fun x H Q=>BxRU g x H Q
section
variable {X:Cx} {a b c:Expr} {ta tb tc:TE} {pos:Pos}
theorem binT (ha:PE X a ta) (hb:PE X b tb) {R:V→V→?w} (I:?s)
 (h:ta σ H fun x H1=>tb σ H1 fun y H2=>R x y H2) {f:Value→Value→Sem Value}
 (hf:∀ v u s2 x y H2,Inv X pins σ H2 s2→RelV x v→RelV y u→R x y H2→wpAny ?A X.A (f v u) Q X.xe s2) :
 wpAny ?A X.A (eval a X.env) (fun v s₁=>wpAny ?A X.A (eval b X.env) (fun u s₂=>wpAny ?A X.A (f v u) Q X.xe s₂) X.xe s₁) X.xe s:=by
 refine thn (ha pins s σ H _ I h) fun v s1 ⟨x,H1,I1,r1,q1⟩=>?_;refine thn (hb pins s1 σ H1 _ I1 q1) fun u s2 ⟨y,H2,I2,r2,q2⟩=>?_;exact hf v u s2 x y H2 I2 r1 r2 q2
theorem Zp {op:Operator} {r:R2} (ho:OpR X (binaryOp op) r) (ha:PE X a ta) (hb:PE X b tb):PE X (.BinOp a op b pos) (tOp r ta tb):=by
 intro pins s σ H Q I h;exact wpAny_BinOp (binT ha hb I h fun v u s2 x y H2 I2 rx ry q=>ho pins s2 σ H2 x y v u Q I2 rx ry q)
theorem Zt5 {op:UnaryOp} {r:V→Hp→VK→Prop} (ho:UnR X (unaryOp op) r) (ha:PE X a ta):PE X (.UnaryOp op a pos) (tUn r ta):=by
 intro pins s σ H Q I h;exact UnaryOp_ (thn (ha pins s σ H _ I h) fun v s1 ⟨x,H1,I1,r1,q1⟩=>ho pins s1 σ H1 x v Q I1 r1 q1)
theorem opI {f:Value→Value→Sem Value} {C:Int→Int→Prop} {g:Int→Int→Int}
 (rule:∀ (i j:Int) (t u:Tok) (s:Shared) (Q:Value→?j) (E:Value→?j),C i j→Q (.int (g i j) s.toks) { s with toks:=s.toks+1 }→wpAny ?A X.A (f (.int i t) (.int j u)) Q E s) :
 OpR X f (rI C fun i j=>.int (g i j)):=by
 intro pins s σ H x y v u Q I rx ry h;obtain ⟨i,j,rfl,rfl,hc,q⟩:=h;obtain ⟨t,rfl⟩:=rx;obtain ⟨t',rfl⟩:=ry;exact rule i j t t' s _ _ hc ⟨.int (g i j),H,I.tok _,?K,q⟩
theorem opI0 {f:Value→Value→Sem Value} {g:Int→Int→Int}
 (rule:∀ (i j:Int) (t u:Tok) (s:Shared) (Q:Value→?j) (E:Value→?j),Q (.int (g i j) s.toks) { s with toks:=s.toks+1 }→wpAny ?A X.A (f (.int i t) (.int j u)) Q E s) :
 OpR X f (rI0 fun i j=>.int (g i j)):=by
 intro pins s σ H x y v u Q I rx ry h;obtain ⟨i,j,rfl,rfl,q⟩:=h;obtain ⟨t,rfl⟩:=rx;obtain ⟨t',rfl⟩:=ry;exact rule i j t t' s _ _ ⟨.int (g i j),H,I.tok _,?K,q⟩
theorem opB0 {f:Value→Value→Sem Value} {g:Int→Int→Bool}
 (rule:∀ (i j:Int) (t u:Tok) (s:Shared) (Q:Value→?j) (E:Value→?j),Q (.bool (g i j)) s→wpAny ?A X.A (f (.int i t) (.int j u)) Q E s) :
 OpR X f (rI0 fun i j=>.bl (g i j)):=by
 intro pins s σ H x y v u Q I rx ry h;obtain ⟨i,j,rfl,rfl,q⟩:=h;obtain ⟨t,rfl⟩:=rx;obtain ⟨t',rfl⟩:=ry;exact rule i j t t' s _ _ ⟨.bl (g i j),H,I,rfl,q⟩
def CPow (i j:Int):Prop:=0≤j∧j≤1000000∧i.natAbs<2^64
theorem Yr:OpR X (binaryOp .Add) (rI0 fun i j=>.int (i+j)):=opI0 fun _ _ _ _ _ _ _ q=>add_int q
theorem Xz:OpR X (binaryOp .Sub) (rI0 fun i j=>.int (i-j)):=opI0 fun _ _ _ _ _ _ _ q=>sub_int q
theorem X9:OpR X (binaryOp .Mod) (rI (fun _ j=>j≠0) fun i j=>.int (i.fmod j)):=opI fun _ _ _ _ _ _ _ hc q=>mod_int' hc q
theorem Zqt:OpR X (binaryOp .Pow) (rI CPow fun i j=>.int (i^j.toNat)):=opI fun _ _ _ _ _ _ _ hc q=>pow_int_small hc.1 hc.2.1 hc.2.2 q
theorem unI {f:Value→Sem Value} {g:Int→Int}
 (rule:∀ (i:Int) (t:Tok) (s:Shared) (Q:Value→?j) (E:Value→?j),Q (.int (g i) s.toks) { s with toks:=s.toks+1 }→wpAny ?A X.A (f (.int i t)) Q E s) :
 UnR X f (rU fun i=>.int (g i)):=by
 intro pins s σ H x v Q I rx h;obtain ⟨i,rfl,q⟩:=h;obtain ⟨t,rfl⟩:=rx;exact rule i t s _ _ ⟨.int (g i),H,I.tok _,?K,q⟩
theorem Zq3:UnR X (unaryOp .USub) (rU fun i=>.int (-i)):=unI fun _ _ _ _ _ q=>neg_int q
end
noncomputable def scal:V→V→Bool
 | .non,.non=>true|.non,.int _=>true|.int _,.non=>true|.non,.bl _=>true|.bl _,.non=>true|.non,.str _=>true|.str _,.non=>true
 | .int _,.int _=>true|.bl _,.bl _=>true|.str _,.str _=>true|.byt _,.byt _=>true
 | .int _,.str _=>true|.str _,.int _=>true|.bl _,.str _=>true|.str _,.bl _=>true
 | _,_=>false
inductive BxREq (x y:V) (H:Hp) (Q:VK):Prop
 | mk  (q1:scal x y=true) (q2:Q (.bl (decide (x=y))) H):BxREq x y H Q
def rEq:R2:=fun x y H Q=>BxREq x y H Q
inductive BxRNe (x y:V) (H:Hp) (Q:VK):Prop
 | mk  (q1:scal x y=true) (q2:Q (.bl (!decide (x=y))) H):BxRNe x y H Q
def rNe:R2:=fun x y H Q=>BxRNe x y H Q
theorem Zoa {i j:Int}:decide (V.int i=V.int j)=(i == j):=by
 rw [Bool.eq_iff_iff]
 simp
theorem Zq4 {i j:Bool}:decide (V.bl i=V.bl j)=(i == j):=by
 rw [Bool.eq_iff_iff]
 simp
theorem Zmg {i j:Str}:decide (V.str i=V.str j)=(i == j):=by
 rw [Bool.eq_iff_iff]
 simp
theorem Znr {i j:Array UInt8}:decide (V.byt i=V.byt j)=(i.toList == j.toList):=by
 rw [Bool.eq_iff_iff];cases i
 cases j
 simp
section
variable {X:Cx} {a b c:Expr} {ta tb tc:TE} {pos:Pos}
theorem Z8 {Q:VK} {k k':Bool} (I:?s) (q:Q (.bl k) H) (e:k=k'):EP X pins σ Q (.bool k') s:=by
 subst e;exact ⟨.bl k,H,I,rfl,q⟩
theorem Zjm:OpR X (compareOp .Eq) rEq:=by
 intro pins s σ H x y v u Q I rx ry h;obtain ⟨hs,q⟩:=h;cases x with
 | non =>
   cases rx
   cases y with
   | non=>cases ry;exact PySem.EqNone.eq_none_none (Z8 I q ?f)
   | bl j=>cases ry;exact PySem.EqNone.eq_none_bool (Z8 I q ?f)
   | int j=>obtain ⟨t',rfl⟩:=ry;exact PySem.EqNone.eq_none_int (Z8 I q ?f)
   | str j=>obtain ⟨t',rfl⟩:=ry;exact PySem.EqNone.eq_none_str (Z8 I q ?f)
   | _=>exact ?ah
 | bl i =>
   cases rx
   cases y with
   | non=>cases ry;exact PySem.EqNone.eq_bool_none (Z8 I q ?f)
   | bl j=>cases ry;exact eq_bool (Z8 I q Zq4)
   | str j=>obtain ⟨t',rfl⟩:=ry;exact PySem.EqMixed.eq_bool_str (Z8 I q ?f)
   | _=>exact ?ah
 | int i =>
   obtain ⟨t,rfl⟩:=rx;cases y with
   | non=>cases ry;exact PySem.EqNone.eq_int_none (Z8 I q ?f)
   | int j=>obtain ⟨t',rfl⟩:=ry;exact eq_int (Z8 I q Zoa)
   | str j=>obtain ⟨t',rfl⟩:=ry;exact PySem.EqMixed.eq_int_str (Z8 I q ?f)
   | _=>exact ?ah
 | str i =>
   obtain ⟨t,rfl⟩:=rx;cases y with
   | non=>cases ry;exact PySem.EqNone.eq_str_none (Z8 I q ?f)
   | bl j=>cases ry;exact PySem.EqMixed.eq_str_bool (Z8 I q ?f)
   | int j=>obtain ⟨t',rfl⟩:=ry;exact PySem.EqMixed.eq_str_int (Z8 I q ?f)
   | str j=>obtain ⟨t',rfl⟩:=ry;exact eq_str (Z8 I q Zmg)
   | _=>exact ?ah
 | byt i =>
   obtain ⟨t,rfl⟩:=rx;cases y with
   | byt j=>obtain ⟨t',rfl⟩:=ry;exact PySem.W.eq_bytes (Z8 I q Znr)
   | _=>exact ?ah
 | _=>cases y<;>exact ?ah
theorem Znk:OpR X (compareOp .NotEq) rNe:=by
 intro pins s σ H x y v u Q I rx ry h;obtain ⟨hs,q⟩:=h;cases x with
 | non =>
   cases rx
   cases y with
   | non=>cases ry;exact PySem.EqNone.ne_none_none (Z8 I q ?f)
   | bl j=>cases ry;exact PySem.EqNone.ne_none_bool (Z8 I q ?f)
   | int j=>obtain ⟨t',rfl⟩:=ry;exact PySem.EqNone.ne_none_int (Z8 I q ?f)
   | str j=>obtain ⟨t',rfl⟩:=ry;exact PySem.EqNone.ne_none_str (Z8 I q ?f)
   | _=>exact ?ah
 | bl i =>
   cases rx
   cases y with
   | non=>cases ry;exact PySem.EqNone.ne_bool_none (Z8 I q ?f)
   | bl j=>cases ry;exact ne_bool (Z8 I q (congrArg not Zq4))
   | str j=>obtain ⟨t',rfl⟩:=ry;exact PySem.EqMixed.ne_bool_str (Z8 I q ?f)
   | _=>exact ?ah
 | int i =>
   obtain ⟨t,rfl⟩:=rx;cases y with
   | non=>cases ry;exact PySem.EqNone.ne_int_none (Z8 I q ?f)
   | int j=>obtain ⟨t',rfl⟩:=ry;exact ne_int (Z8 I q (congrArg not Zoa))
   | str j=>obtain ⟨t',rfl⟩:=ry;exact PySem.EqMixed.ne_int_str (Z8 I q ?f)
   | _=>exact ?ah
 | str i =>
   obtain ⟨t,rfl⟩:=rx;cases y with
   | non=>cases ry;exact PySem.EqNone.ne_str_none (Z8 I q ?f)
   | bl j=>cases ry;exact PySem.EqMixed.ne_str_bool (Z8 I q ?f)
   | int j=>obtain ⟨t',rfl⟩:=ry;exact PySem.EqMixed.ne_str_int (Z8 I q ?f)
   | str j=>obtain ⟨t',rfl⟩:=ry;exact ne_str (Z8 I q (congrArg not Zmg))
   | _=>exact ?ah
 | byt i =>
   obtain ⟨t,rfl⟩:=rx;cases y with
   | byt j=>obtain ⟨t',rfl⟩:=ry;exact PySem.W.ne_bytes (Z8 I q (congrArg not Znr))
   | _=>exact ?ah
 | _=>cases y<;>exact ?ah
theorem Zhr:OpR X (compareOp .Lt) (rI0 fun i j=>.bl (decide (i<j))):=opB0 fun _ _ _ _ _ _ _ q=>lt_int q
theorem Zpm:OpR X (compareOp .Gt) (rI0 fun i j=>.bl (decide (j<i))):=opB0 fun _ _ _ _ _ _ _ q=>gt_int q
theorem Yk (b:Expr) {op:CmpOp} (h:op≠.In:=by decide) (h2:op≠.NotIn:=by decide):behindInMarks op b=false:=by
 have e1:(op == CmpOp.In)=false:=by cases op<;>first|rfl|exact absurd rfl h
 have e2:(op == CmpOp.NotIn)=false:=by cases op<;>first|rfl|exact absurd rfl h2
 cases b<;>simp [behindInMarks,e1,e2]
theorem Zct {op:CmpOp} {r:R2} (ho:OpR X (compareOp op) r) (ha:PE X a ta) (hb:PE X b tb) (hm:behindInMarks op b=false):PE X (.Compare a [op] [b] pos) (tOp r ta tb):=by
 intro pins s σ H Q I h;exact wpAny_Compare1 (binT ha hb I h fun v u s2 x y H2 I2 rx ry q=>ho pins s2 σ H2 x y v u Q I2 rx ry q) hm
inductive BxTTest (Q:Bool→?w) (x:V) (H':Hp):Prop
 | mk (k:_) (q1:x=.bl k) (q2:Q k H'):BxTTest Q x H'
def Zw0 (t:TE):TT:=fun σ H Q=>t σ H fun x H'=>BxTTest Q x H'
theorem Z9 {op:CmpOp} {r:R2} (ho:OpR X (compareOp op) r) (ha:PE X a ta) (hb:PE X b tb) (hm:behindInMarks op b=false):PT X (.Compare a [op] [b] pos) (Zw0 (tOp r ta tb)):=by
 intro pins s σ H Q I h
 refine wpAny_isTrue_Compare1 (thn (ha pins s σ H _ I h) fun v s1 ⟨x,H1,I1,r1,q1⟩=>thn (hb pins s1 σ H1 _ I1 q1) fun u s2 ⟨y,H2,I2,r2,q2⟩ =>
  thn (ho pins s2 σ H2 x y v u _ I2 r1 r2 q2) fun c s3 ⟨z,H3,I3,r3,k,e,q3⟩=>?_) hm
 subst e;cases r3
 exact wpAny_truthy_bool ⟨H3,I3,q3⟩
def TruV (K:PySem.W.Frag) (x:V) (H:Hp) (k:Bool):Prop :=
 match x with
 | .non=>k=false
 | .bl b=>k=b
 | .int i=>k=(i != 0)
 | .str y=>y.length≤sizeLine∧k=((y.length:Int) != 0)
 | .byt y=>y.size≤sizeLine∧k=((y.size:Int) != 0)
 | .ref p=>(∃ xs,SqL K H p xs∧k = !xs.isEmpty)∨(∃ xs,SqT K H p xs∧k = !xs.isEmpty)∨∃ kvs,H p=some ?E∧k = !kvs.isEmpty
 | _=>False
theorem Zlj {κ:Type} {kvs:List (κ×V)} {vs:List (κ×Value)} (r:KV kvs vs):(!vs.isEmpty) = !kvs.isEmpty:=by
 cases r<;>rfl
theorem Zfb (r:Vals xs its):(!its.toArray.isEmpty) = !xs.isEmpty:=by
 cases r<;>simp
theorem Zhc:(sizeLine:Nat)<2^63:=by rw [sizeLine_eq];decide
theorem Zus:TruR X (fun x H Q=>∃ k,TruV X.K x H k∧Q k H):=by
 intro pins s σ H x v Q I rx h;obtain ⟨k,e,q⟩:=h;have hl:=Zhc;have hs:sizeLine=16777216:=sizeLine_eq;cases x with
 | non =>
   cases rx
   have e':k=false:=e;subst e';exact truthy_none ⟨H,I,q⟩
 | bl b =>
   cases rx
   have e':k=b:=e;subst e';exact wpAny_truthy_bool ⟨H,I,q⟩
 | int i =>
   obtain ⟨t,rfl⟩:=rx;have e':k=(i != 0):=e;subst e';exact PySem.P.truthy_int ⟨H,I,q⟩
 | str y =>
   obtain ⟨t,rfl⟩:=rx;obtain ⟨hy,e'⟩:y.length≤sizeLine∧k=((y.length:Int) != 0):=e;subst e';exact PySem.P.truthy_str (?d) ⟨H,I.tok _,q⟩
 | byt y =>
   obtain ⟨t,rfl⟩:=rx;obtain ⟨hy,e'⟩:y.size≤sizeLine∧k=((y.size:Int) != 0):=e;subst e';exact PySem.W.truthy_bytes (?d) ⟨H,I.tok _,q⟩
 | ref p =>
   cases rx
   have e':(∃ xs,SqL X.K H p xs∧k = !xs.isEmpty)∨(∃ xs,SqT X.K H p xs∧k = !xs.isEmpty)∨∃ kvs,H p=some ?E∧k = !kvs.isEmpty:=e
   rcases e' with ⟨xs,hx,e'⟩|⟨xs,hx,e'⟩|⟨kvs,hx,e'⟩
   · subst e';obtain ⟨its,r,pl,hz⟩:=I.list hx;have hlen:=r.length;exact wpAny_truthy_list pl.isList (by simp only [n11_];omega) ⟨H,I.tok _,by rw [Zfb r];exact q⟩
   · subst e';obtain ⟨its,r,pl,hz⟩:=I.tuple hx;have hlen:=r.length;exact truthy_tuple pl (by simp only [n11_];omega) ⟨H,I.tok _,by rw [Zfb r];exact q⟩
   · subst e';obtain ⟨hz,hS,vs,r,m⟩:kvs.length≤sizeLine∧(p == sysModules)=false∧∃ vs,KV kvs vs∧s.heap.DictOf (Z4 X.prog X.w) p vs:=I.hok p _ hx;have hlen:kvs.length=vs.length:=Paired.length r;exact wpAny_truthy_dict hS m (?d) ⟨H,I.tok _,by rw [Zlj r];exact q⟩
 | _=>exact (show False from e).elim
theorem Z7 (ha:PE X a ta) (he:∀ whole,isTrue a X.env whole=(do let v ← whole;standAt a.pos;holding [v] (truthy v))) :
 PT X a (fun σ H Q=>ta σ H fun x H'=>∃ k,TruV X.K x H' k∧Q k H'):=by
 intro pins s σ H Q I h;exact isTrue_plain (thn (ha pins s σ H _ I h) fun v s1 ⟨x,H1,I1,r1,q1⟩=>Zus pins s1 σ H1 x v Q I1 r1 q1) (he _)
theorem Ziy {x:V} (r:Vals [x] us):∃ u,us=[u]∧RelV x u:=by
 cases r with
 | cons r1 r2=>cases r2;exact ⟨_,rfl,r1⟩
theorem Zrw {x:V} (r:Vals [x,y] us):∃ u w',us=[u,w']∧RelV x u∧RelV y w':=by
 cases r with
 | cons r1 r2 =>
   cases r2 with
   | cons r3 r4=>cases r4;exact ⟨_,_,rfl,r1,r3⟩
inductive BxRc_abs  (xs:List V) (H:Hp) (Q:VK):Prop
 | mk (i:_) (q1:xs=[.int i]) (q2:Q (.int (if i<0 then -i else i)) H):BxRc_abs xs H Q
def Zvh  : ?W:=fun xs H Q=>BxRc_abs xs H Q
theorem Zb0:Xl X (.builtin "abs") (Zvh):=by
 intro pins s σ H xs us Q I r h;obtain ⟨i,rfl,q⟩:=h;obtain ⟨u,rfl,t,rfl⟩:=Ziy r;exact call_abs_int fun u tk=>⟨.int (if i<0 then -i else i),H,I.tok _,?K,q⟩
inductive BxRc_max2  (xs:List V) (H:Hp) (Q:VK):Prop
 | mk (i:_) (j:_) (q1:xs=[.int i,.int j]) (q2:Q (.int (if j>i then j else i)) H):BxRc_max2 xs H Q
def Zsh  : ?W:=fun xs H Q=>BxRc_max2 xs H Q
theorem Zg9 (hc:X.calm=true):Xl X (.builtin "max") (Zsh):=by
 intro pins s σ H xs us Q I r h;obtain ⟨i,j,rfl,q⟩:=h;obtain ⟨u,w',rfl,⟨t,rfl⟩,⟨t',rfl⟩⟩:=Zrw r;refine max_two_ints (I.ok.hd hc) fun h' tk k=>⟨_,H,I.kept k,?_,q⟩
 by_cases hj:j>i
 · rw [if_pos hj,if_pos hj];exact ?K
 · rw [if_neg hj,if_neg hj];exact ?K
inductive BxRc_min2  (xs:List V) (H:Hp) (Q:VK):Prop
 | mk (i:_) (j:_) (q1:xs=[.int i,.int j]) (q2:Q (.int (if j<i then j else i)) H):BxRc_min2 xs H Q
def Zsy  : ?W:=fun xs H Q=>BxRc_min2 xs H Q
theorem Zhs (hc:X.calm=true):Xl X (.builtin "min") (Zsy):=by
 intro pins s σ H xs us Q I r h;obtain ⟨i,j,rfl,q⟩:=h;obtain ⟨u,w',rfl,⟨t,rfl⟩,⟨t',rfl⟩⟩:=Zrw r;refine min_two_ints (I.ok.hd hc) fun h' tk k=>⟨_,H,I.kept k,?_,q⟩
 by_cases hj:j<i
 · rw [if_pos hj,if_pos hj];exact ?K
 · rw [if_neg hj,if_neg hj];exact ?K
theorem Zo2:Xl X (.type "int") (fun xs H Q=>(∃ i,xs=[.int i]∧Q (.int i) H)∨∃ k,xs=[.bl k]∧Q (.int (if k then 1 else 0)) H):=by
 intro pins s σ H xs us Q I r h
 rcases h with ⟨i,rfl,q⟩|⟨k,rfl,q⟩
 · obtain ⟨u,rfl,t,rfl⟩:=Ziy r;exact call_int_int ⟨.int i,H,I,?K,q⟩
 · obtain ⟨u,rfl,r1⟩:=Ziy r;cases r1
   exact call_int_bool ⟨.int (if k then 1 else 0),H,I.tok _,?K,q⟩
end
structure ObjM (h:Heap) (x dx C:Addr) (mA:Str→?C):Prop where
 obj:h.get? x=some (PySem.W.instObj C dx)
 ns:h.Ns1 dx mA
 ne:dx≠x
theorem Zo0 {dx:Addr} {mA:Str→?C} (n:h.Ns1 dx mA):∃ od,h.get? dx=some od∧∀ name,PySem.W.lookIn name od=some (mA name):=by
 obtain ⟨o,es,ep,ho,hd,hk,_,hm⟩:=n;refine ⟨o,ho,fun name=>?_⟩;have e:=hm name;unfold nsFind findBy at e;rw [← Array.find?_toList] at e;unfold PySem.W.lookIn;rw [hd];dsimp only;split
 · rename_i y q
   rw [q] at e;exact congrArg some e
 · rename_i q
   rw [q] at e
   have a:es.toList.any (·.refKey)=false:=by
    rw [List.any_eq_false];intro y hy;obtain ⟨z,t,hkey⟩:=hk y (Array.mem_toList_iff.mp hy);simp [DictEntry.refKey,hkey]
   have a':¬ es.toList.any (·.refKey)=true:=by rw [a];exact n27_
   rw [if_neg a'];exact congrArg some e
theorem ObjM.look {x dx:Addr} {mA:Str→?C} (I:ObjM h x dx C mA):∃ od,PySem.W.InstAt h x (PySem.W.instObj C dx) C (some od)∧∀ name,PySem.W.lookIn name od=some (mA name) :=
 let ⟨od,ho,hl⟩:=Zo0 I.ns
 ⟨od,⟨I.obj,rfl,rfl,ho⟩,hl⟩
section
variable {prog:Program} {w:World} {A:Around} {E:Value→?j} {s:Shared} {K:PySem.W.Frag} {x dx C f:Addr} {mA:Str→?C} {name:Str} {v:Value}
end
theorem RelO.some_of {o:?C} (r:RelO (some v) o):∃ u,o=some u∧RelV v u:=by
 cases o with
 | none=>exact (show False from r).elim
 | some u=>exact ⟨u,rfl,r⟩
section
variable {P:Program} {w:World} {H H':Hp} {h h':Heap} {a C dx:Addr} {fs fs':List (Str×V)}
theorem Zr1 (hok:HOk P w H h) (e:H a=some (.ins C dx fs)):∃ mA,ObjM h a dx C mA∧(∀ f,RelO (fs.lookup f) (mA f))∧PySem.Within mA (fs.map (·.1))∧fs.length≤1000∧H dx=some (.own a):=by
 obtain ⟨d,z,ne,ob,mA,n,r,q⟩:=(show ObjOk P w H h a (.ins C dx fs) from hok a _ e);exact ⟨mA,⟨ob,n,ne⟩,r,q,z,d⟩
end
structure Cls (K:PySem.W.Frag) (C:Addr):Prop where
 pg:PySem.W.plainGet K C Str.empty=true
 hd:PySem.W.hasDictIn K C=true
 po:PySem.W.plainOver K C=true
 sa:PySem.W.findIn K (.ref C) "__setattr__" = some (some (.builtin "object.__setattr__"))
theorem Cls.get {K:PySem.W.Frag} (c:Cls K C) (f:Str):PySem.W.plainGet K C f=true:=c.pg
section
variable {X:Cx} {pins:?B} {σ:St} {H:Hp} {s:Shared} {a C dx:Addr} {fs:List (Str×V)} {f:Str} {v:V} {A:Around} {E:Value→?j}
end
section
variable {X:Cx} {o e value:Expr} {f:Str} {pos pos' tpos:Pos} {ta tv:TE}
end
section
variable {X:Cx} {pins:?B} {σ:St} {H:Hp} {s:Shared} {A:Around} {E:Value→?j} {Q:Value→?j} {c:Value} {b:Bool}
inductive TyOf (K:PySem.W.Frag) (H:Hp):V→Value→Prop where
 | non:TyOf K H .non (.type "NoneType")
 | bl (x:Bool):TyOf K H (.bl x) (.type "bool")
 | int (i:Int):TyOf K H (.int i) (.type "int")
 | str (x:Str):TyOf K H (.str x) (.type "str")
 | flt (x:UInt64):TyOf K H (.flt x) (.type "float")
 | lst {a:Addr} {xs:List V} (e:H a=some (.lst xs)):TyOf K H (.ref a) (.type "list")
 | frz {a:Addr} {o:Obj} {xs:List V} (e:H a=some (.frz o (.lst xs))):TyOf K H (.ref a) (.type "list")
 | tup {a:Addr} {xs:List V} (e:H a=some (.tup xs)):TyOf K H (.ref a) (?M)
 | dK {a:Addr} {kvs:?N} (e:H a=some ?E):TyOf K H (.ref a) (.type "dict")
 | dT {a:Addr} {kvs:List (List Key×V)} (e:H a=some (.dT kvs)):TyOf K H (.ref a) (.type "dict")
 | ins {a C dx:Addr} {fs:List (Str×V)} (e:H a=some (.ins C dx fs)) (cl:Cls K C) (ha:PySem.W.findIn K (.ref C) "__class__" = some (some (.builtin "object.__class__")))
    (hn:PySem.W.specialIn K (.builtin "object.__class__") "__get__" = some (some (.builtin "getset_descriptor.__get__"))) (htk:PySem.W.takesIn K (.builtin "object.__class__")=some true)
    (hm:PySem.W.mroIn K C (.type "object")=some true):TyOf K H (.ref a) (.ref C)
theorem Zma {x:V} {t:Value} (I:?s) (rx:RelV x u) (ty:TyOf X.K H x t) (e:PySem.W.kitOne X.K t c=some b) (h:∀ tk,Q (.bool b) { s with toks:=tk }) :
 wpAny ?A A (call (.builtin "isinstance") [u,c]) Q E s:=by
 cases ty with
 | non=>cases (show u=Value.none from rx);exact n82_ PySem.W.kitx_none I.kIn True.intro e (fun z=>nomatch z) h
 | bl y=>cases (show u=Value.bool y from rx);exact n82_ PySem.W.kitx_bool I.kIn True.intro e (fun z=>nomatch z) h
 | int i=>obtain ⟨t,q⟩:=(show ∃ t,u=Value.int i t from rx);cases q;exact n82_ PySem.W.kitx_int I.kIn True.intro e (fun z=>nomatch z) h
 | str y=>obtain ⟨t,q⟩:=(show ∃ t,u=Value.str y t from rx);cases q;exact n82_ PySem.W.kitx_str I.kIn True.intro e (fun z=>nomatch z) h
 | flt y=>obtain ⟨t,q⟩:=(show ∃ t,u=Value.float y t from rx);cases q;exact n82_ PySem.W.kitx_float I.kIn True.intro e (fun z=>nomatch z) h
 | @lst a xs ea =>
   cases (show u=Value.ref a from rx)
   obtain ⟨_,_,n,_,h1⟩:=(show ObjOk X.prog X.w H s.heap a (.lst xs) from I.hok a _ ea);exact n82_ PySem.W.kitx_list I.kIn ⟨_,h1,rfl⟩ e (fun z=>nomatch z) h
 | @frz a ob xs ea =>
   cases (show u=Value.ref a from rx)
   obtain ⟨_,_,_,n,_,h1⟩:=(show ObjOk X.prog X.w H s.heap a (.frz ob (.lst xs)) from I.hok a _ ea);exact n82_ PySem.W.kitx_list I.kIn ⟨_,h1,rfl⟩ e (fun z=>nomatch z) h
 | @tup a xs ea =>
   cases (show u=Value.ref a from rx)
   obtain ⟨_,_,_,p⟩:=(show ObjOk X.prog X.w H s.heap a (.tup xs) from I.hok a _ ea);obtain ⟨o,h1,⟨h2,_⟩,_⟩:=p;exact n82_ PySem.W.kitx_tuple I.kIn ⟨o,h1,h2⟩ e (fun z=>nomatch z) h
 | @dK a kvs ea =>
   cases (show u=Value.ref a from rx)
   obtain ⟨_,_,vs,_,p⟩:=(show ObjOk X.prog X.w H s.heap a ?E from I.hok a _ ea);obtain ⟨o,es,ep,h1,h2,_⟩:=p;exact n82_ PySem.W.kitx_dict I.kIn ⟨o,h1,h2.1⟩ e (fun z=>nomatch z) h
 | @dT a kvs ea =>
   cases (show u=Value.ref a from rx)
   obtain ⟨_,_,xs,_,o,es,ep,h1,h2,_⟩:=(show ObjOk X.prog X.w H s.heap a (.dT kvs) from I.hok a _ ea);exact n82_ PySem.W.kitx_dict I.kIn ⟨o,h1,h2.1⟩ e (fun z=>nomatch z) h
 | @ins a C dx fs ea cl ha hn htk hm =>
   cases (show u=Value.ref a from rx)
   obtain ⟨mA,O,_⟩:=Zr1 I.hok ea;obtain ⟨od,J,_⟩:=O.look;exact n82_ (PySem.W.kitx_own (cl.get _) cl.hd ha hn htk hm) I.kIn J e (fun z=>nomatch z) h
end
structure Room (k:Nat) (A:Around):Prop where
 hd:A.handled=none
 dp:A.depth+3*k+5<recursionLimit
 un:A.units+16*k+200<cLine
 gd:A.guards=some []
theorem Room.mono {j:Nat} (r:Room k A) (h:j≤k):Room j A:=⟨r.hd,by have:=r.dp;omega,by have:=r.un;omega,r.gd⟩
theorem Room.deeper (r:Room (k+1) A) (env:Env):Room k (A.deeper env) :=
 ⟨r.hd,by have:=r.dp;show A.depth+1+3*k+5<_;omega,by have:=r.un;show A.units+3+16*k+200<_;omega,r.gd⟩
theorem Room.depth (r:Room k A):A.depth<recursionLimit:=by have:=r.dp;omega
theorem Room.units (r:Room k A):A.units+64<cLine:=by have:=r.un;omega
def tNil:TA:=fun _ H Q=>Q [] H
def Zwq (ta:TE) (tr:TA):TA:=fun σ H Q=>ta σ H fun x H1=>tr σ H1 fun xs H2=>Q (x :: xs) H2
section
variable {X:Cx} {e:Expr} {es:List Expr} {te:TE} {t:TA} {pos:Pos}
theorem Zb:PA X [] tNil:=fun _ _ _ _ H Q I h=>Calls.spliced_nil ⟨[],H,I,.nil,h⟩
theorem Za (ha:PE X e te) (hr:PA X es t) (hs:starEach (e :: es) X.env=(false,eval e X.env) :: starEach es X.env:=by rfl):PA X (e :: es) (Zwq te t):=by
 intro pos pins s σ H Q I h;rw [hs];show wpAny _ _ (spliced ((false,eval e X.env) :: backTo pos (starEach es X.env))) _ _ s
 refine Calls.spliced_cons (thn (ha pins s σ H _ I h) fun u s1 ⟨x,H1,I1,r1,q1⟩=>?_);exact thn (hr pos pins s1 σ H1 _ I1 q1) fun us s2 ⟨xs,H2,I2,r2,q2⟩=>⟨x :: xs,H2,I2,.cons r1 r2,q2⟩
inductive BxTTup (xs:List V) (H1:Hp) (Q:VK):Prop
 | mk  (q1:xs.length≤sizeLine) (q2:∀ p,H1 p=none→Q (.ref p) (upd H1 p (.tup xs))):BxTTup xs H1 Q
def tTup (t:TA):TE:=fun σ H Q=>t σ H fun xs H1=>BxTTup xs H1 Q
inductive BxTLst (xs:List V) (H1:Hp) (Q:VK):Prop
 | mk  (q1:xs.length≤sizeLine) (q2:∀ p,H1 p=none→Q (.ref p) (upd H1 p (.lst xs))):BxTLst xs H1 Q
def tLst (t:TA):TE:=fun σ H Q=>t σ H fun xs H1=>BxTLst xs H1 Q
theorem Zr {x1} (h:PA X es t):PE X (.Tuple es x1 pos) (tTup t):=by
 intro pins s σ H Q I hq;refine wpAny_Tuple_spliced (thn (h pos pins s σ H _ I hq) fun us s1 ⟨xs,H1,I1,r,z,q⟩=>⟨by rw [← r.length];exact z,?_⟩);have hf:H1 s1.z=none:=I1.hok.fresh (n7_ _);refine ⟨.ref s1.z,upd H1 s1.z (.tup xs),I1.laid (t':=s1.toks) (fun b u e=>n2_ _ e) (n7_ _) ?_,rfl,q _ hf⟩;exact ⟨z,us,r,IsTupN.new _ _⟩
theorem Yj (h:PA X es t):PE X (.List es pos) (tLst t):=by
 intro pins s σ H Q I hq;refine wpAny_List_spliced (thn (h pos pins s σ H _ I hq) fun us s1 ⟨xs,H1,I1,r,z,q⟩=>⟨by rw [← r.length];exact z,?_⟩);have hf:H1 s1.z=none:=I1.hok.fresh (n7_ _);refine ⟨.ref s1.z,upd H1 s1.z (.lst xs),I1.laid (t':=s1.toks) (fun b u e=>n2_ _ e) (n7_ _) ?_,rfl,q _ hf⟩;exact ⟨z,us,0,r,n8_ _ rfl⟩
end
abbrev Sp:=List V→Hp→VK→XK→Prop
abbrev CXT:=List Env→Hp→Shared→XK→Value→?j
structure Env0 (P:Program) (w:World) (K:PySem.W.Frag) (mg:Str→?C) (base:Heap) (A:Around) (outer:List Env) (s:Shared) (H:Hp):Prop where
 frames:A.frames=some outer
 mod:Mod K mg base
 bs:∀ b o,base.get? b=some o→s.heap.get? b=some o∧H b=none
 bsz:base.objs.size≤s.z
 funs:s.heap.FunFrames base outer
 frf:∀ b∈frs outer,H b=none
 hok:HOk P w H s.heap
 bare:AllBare s.gens
def CE (outer:List Env) (P:Program) (w:World) (H:Hp) (s:Shared) (Q:VK) (u:Value) (s':Shared):Prop :=
 ∃ v H',s'.os=s.os∧AllBare s'.gens∧Un (frs outer) [] H H' s.heap s'.heap∧HOk P w H' s'.heap∧RelV v u∧Q v H'
def CR (CX:CXT) (outer:List Env) (P:Program) (w:World) (H:Hp) (s:Shared) (Q:VK) (E:XK) (r:Result) (s':Shared):Prop :=
 match r with
 | .ok (.ret u)=>CE outer P w H s Q u s'
 | .ok _=>False
 | .error e=>CX outer H s E e s'
structure FnOk (P:Program) (w:World) (K:PySem.W.Frag) (mg:Str→?C) (base:Heap) (CX:CXT) (k:Nat) (f:Addr) (fd:FuncData) (ps:List Str) (sp:Sp):Prop where
 len:∀ vs H Q E,sp vs H Q E→vs.length=ps.length
 run:∀ (A:Around) (outer:List Env) (s:Shared) (H:Hp) (args:Args) (us:?t) (vs:List V) (Q:VK) (E:XK),Room k A→Env0 P w K mg base A outer s H→BindsTo s fd args (ps.zip us)→Vals vs us→sp vs H Q E →
  codeAny (model P w) A (.call (.ref f) args) (CR CX outer P w H s Q E) s
section
variable {X:Cx} {pins:?B} {σ:St} {H:Hp} {s s':Shared}
theorem Inv.env0 (I:?s):Env0 X.prog X.w X.K X.mg X.base X.A X.stack s H :=
 ⟨I.ok.frames,I.ok.mod,I.bs,n31_ I.ok.bsz I.sz,I.stack,I.stkFree,I.hok,I.bare⟩
theorem Inv.after {Q:VK} (I:?s) (h:CE X.stack X.prog X.w H s Q u s'):EP X pins σ Q u s':=by
 obtain ⟨v,H',os,bare,un,hok,r,q⟩:=h;obtain ⟨hh,g,d,t,os'⟩:=s';obtain rfl:os'=s.os:=os;exact ⟨v,H',I.call (h':=hh) (g':=g) (d':=d) (t':=t) (ch:=[]) un hok bare (fun b z=>absurd z ?f),r,q⟩
end
def Zse (sp:Sp) (dvs:List V) (E:XK) (t:TA):TE:=fun σ H Q=>t σ H fun vs H1=>sp (vs++dvs) H1 Q E
def Binds (K:PySem.W.Frag) (fd:FuncData) (ps:List Str) (ds:?t):Prop :=
 ∀ (s:Shared) (us:?t),K.In s.heap→(us++ds).length=ps.length→BindsTo s fd ⟨us,[]⟩ (ps.zip (us++ds))
theorem Binds.all {K:PySem.W.Frag} (h:∀ us:?t,us.length=ps.length→bindArgs fd ⟨us,[]⟩=pure (ps.zip us)):Binds K fd ps []:=fun s us _ hl=>by
 rw [List.append_nil] at hl ⊢;exact .of_eq (h us hl)
def Zj5 (CX:CXT) (X:Cx) (E:XK):Prop:=∀ (pins:?B) (σ:St) (H:Hp) (s:Shared) (e:Value) (s':Shared),?s→CX X.stack H s E e s'→X.xe e s'
section
variable {X:Cx} {CX:CXT} {k:Nat} {f C:Addr} {fd:FuncData} {ps:List Str} {sp:Sp} {dvs:List V} {ds:?t} {E:XK} {x m:Str} {p pos apos:Pos} {e o:Expr} {es:List Expr} {ta:TE} {t:TA}
theorem Zq9 {Q:VK} (F:FnOk X.prog X.w X.K X.mg X.base CX k f fd ps sp) (hr:Room k X.A) (hb:Binds X.K fd ps ds) (hd:Vals dvs ds) (hx:Zj5 CX X E)
 (I:?s) (r:Vals vs us) (h:sp (vs++dvs) H Q E):wpAny ?A X.A (call (.ref f) us) (EP X pins σ Q) X.xe s:=by
 have r2:Vals (vs++dvs) (us++ds):=r.append hd;have hl:(us++ds).length=ps.length:=by rw [← r2.length];exact F.len _ _ _ _ h
 refine wpAny_call (codeAny_mono (F.run X.A X.stack s H ⟨us,[]⟩ (us++ds) (vs++dvs) Q E hr I.env0 (hb s us I.kIn hl) r2 h) fun r s' hq=>?_);cases r with
 | error e=>exact hx pins σ H s e s' I hq
 | ok fl =>
   cases fl with
   | ret u=>exact I.after hq
   | next=>exact False.elim hq
   | brk=>exact False.elim hq
   | cont=>exact False.elim hq
theorem Znw (F:FnOk X.prog X.w X.K X.mg X.base CX k f fd ps sp) (hr:Room k X.A) (hg:Gl X x) (hm:X.mg x=some (.ref f)) (hk:PySem.W.keepIn X.K (.ref f)=true) (hb:Binds X.K fd ps ds) (hd:Vals dvs ds) (hx:Zj5 CX X E)
 (ha:PA X (e :: es) t) (hdb:?af=false:=by decide) (he:starEach (e :: es) X.env=(false,eval e X.env) :: starEach es X.env:=by rfl) (hpl:(backTo pos (starEach es X.env)).any (·.1)=false:=by rfl) :
 PE X (.Call (.Name x p) (e :: es) [] pos) (Zse sp dvs E t):=by
 intro pins s σ H Q I h;refine wpAny_Call_Name_kw (Zjn I hg hm ?_ hdb);refine PySem.W.callWith_K (h₀:=X.base) I.ok.mod.kin hk (thn (ha pos pins s σ H _ I h) fun us s1 ⟨vs,H1,I1,r,q⟩=>⟨I1.kIn,?_⟩) he hpl;exact Zq9 F hr hb hd hx I1 r q
theorem Zo7 (F:FnOk X.prog X.w X.K X.mg X.base CX k f fd ps sp) (hr:Room k X.A) (hg:Gl X x) (hm:X.mg x=some (.ref f)) (hk:PySem.W.keepIn X.K (.ref f)=true) (hb:Binds X.K fd ps ds) (hd:Vals dvs ds) (hx:Zj5 CX X E)
 (hdb:?af=false:=by decide):PE X (.Call (.Name x p) [] [] pos) (Zse sp dvs E tNil):=by
 intro pins s σ H Q I h;refine wpAny_Call_Name_kw (Zjn I hg hm ?_ hdb);exact PySem.W.callWith_K0 I.kIn hk (Zq9 (us:=[]) F hr hb hd hx I .nil h)
end
section
variable {X:Cx} {CX:CXT} {k:Nat} {f C:Addr} {fd:FuncData} {ps ks:List Str} {sp:Sp} {E:XK} {x m:Str} {p pos apos kpos:Pos} {e o:Expr} {es:List Expr} {kws:List Keyword} {te ta:TE} {t tk:TA} {nm:Option Str}
variable {g:?t→?t→?t} {gV:List V→List V→List V}
end
structure FnScope (N P:List Str) (sc:Scope):Prop where
 kind:sc.kind=.function
 co:sc.isCoroutine=false
 gen:sc.isGenerator=false
 nd:N.Nodup
 pre:N.take P.length=P
 par:∀ x∈P,sc.names.lookup x=some .local∨sc.names.lookup x=some .cell
 nofree:∀ y∈sc.names,y.2≠.free
theorem Zh1 {kindOf:Str→Option NameKind}:∀ {binds:List (Str×Value)} {m:Str→?C},(∀ v,(x,v)∉binds)→bindL kindOf binds m x=m x
 | [],_,_=>rfl
 | (n,v) :: r,m,h=>by
   unfold bindL;rw [Zh1 fun w hw=>h w (n15_ _ hw)];split
   · have:x≠n:=by rintro rfl;exact h v n20_
     simp [this]
   · rfl
theorem Zhl {kindOf:Str→Option NameKind}:∀ {binds:List (Str×Value)} {m:Str→?C},(∀ v,(x,v)∉binds)→bindC kindOf binds m x=m x
 | [],_,_=>rfl
 | (n,v) :: r,m,h=>by
   unfold bindC;rw [Zhl fun w hw=>h w (n15_ _ hw)];split
   · rfl
   · have:x≠n:=by rintro rfl;exact h v n20_
     simp [this]
theorem Zhq {kindOf:Str→Option NameKind} {v:Value}:∀ {P:List Str} {vs:?t} {i:Nat} {m:Str→?C},P.Nodup→P[i]? = some x→vs[i]? = some v→kindOf x=some .local →
 bindL kindOf (P.zip vs) m x=some v
 | [],_,_,_,_,h,_,_=>by simp at h
 | _ :: _,[],_,_,_,_,h,_=>by simp at h
 | p :: P,w :: vs,0,m,nd,h1,h2,hk=>by
   simp at h1 h2;subst h1;subst h2;show bindL kindOf ((p,w) :: P.zip vs) m p=_
   unfold bindL;rw [Zh1 fun v hv=>(List.nodup_cons.mp nd).1 (List.of_mem_zip hv).1,if_pos hk]
   simp
 | p :: P,w :: vs,i+1,m,nd,h1,h2,hk=>by
   show bindL kindOf ((p,w) :: P.zip vs) m x=_
   unfold bindL;exact Zhq (i:=i) (List.nodup_cons.mp nd).2 (by simpa using h1) (by simpa using h2) hk
theorem Zg5 {kindOf:Str→Option NameKind} {v:Value}:∀ {P:List Str} {vs:?t} {i:Nat} {m:Str→?C},P.Nodup→P[i]? = some x→vs[i]? = some v→kindOf x≠some .local →
 bindC kindOf (P.zip vs) m x=some v
 | [],_,_,_,_,h,_,_=>by simp at h
 | _ :: _,[],_,_,_,_,h,_=>by simp at h
 | p :: P,w :: vs,0,m,nd,h1,h2,hk=>by
   simp at h1 h2;subst h1;subst h2;show bindC kindOf ((p,w) :: P.zip vs) m p=_
   unfold bindC;rw [Zhl fun v hv=>(List.nodup_cons.mp nd).1 (List.of_mem_zip hv).1,if_neg hk]
   simp
 | p :: P,w :: vs,i+1,m,nd,h1,h2,hk=>by
   show bindC kindOf ((p,w) :: P.zip vs) m x=_
   unfold bindC;exact Zg5 (i:=i) (List.nodup_cons.mp nd).2 (by simpa using h1) (by simpa using h2) hk
noncomputable def Za4 (N:List Str) (vs:List V):St:=vs.map some++List.replicate (N.length-vs.length) none
noncomputable def cxOf (CX:CXT) (P:Program) (w:World) (K:PySem.W.Frag) (mg:Str→?C) (base:Heap) (N:List Str) (qual:Str) (scope:Scope) (f:Addr) (cd:Value) (A:Around) (outer:List Env) (s:Shared) (H:Hp) (E:XK):Cx where
 prog:=P
 w:=w
 K:=K
 mg:=mg
 base:=base
 A:=A.deeper (envOfC qual scope s.z f cd)
 N:=N
 s₀:=s
 H₀:=H
 env:=envOfC qual scope s.z f cd
 outer:=outer
 stack:=envOfC qual scope s.z f cd :: outer
 ex:=[]
 calm:=true
 fn:=fun _=>true
 pn:=[]
 xe:=fun e s'=>wpAny (model P w) (A.deeper (envOfC qual scope s.z f cd)) (leaving (envOfC qual scope s.z f cd) e) (fun _ s''=>CX outer H s E e s'') (fun e' s''=>CX outer H s E e' s'') s'
theorem Zx {sc:Scope} (h:sc.names.lookup x=some .cell):∃ c,(cellsFrom n sc.names []).lookup x=some c:=by
 have q:=PySem.W.cellsFrom_some sc.names n [] (.inl h);exact Option.isSome_iff_exists.mp q
theorem Zop {CX:CXT} {K:PySem.W.Frag} {mg:Str→?C} {base:Heap} {cd:Value} {outer:List Env} {s1:Shared} {E:XK}
 (S:FnScope N ps scope) (hd:A.handled=none) (e0:Env0 P w K mg base A outer s H) (hl:vs.length=ps.length) (r:Vals vs us)
 (x:InCallC s s.z (bindL (envOfC qual scope s.z f cd).kindOf (ps.zip us) fun _=>none) (cellsFrom (s.z+1) scope.names []) (bindC (envOfC qual scope s.z f cd).kindOf (ps.zip us) fun _=>none) s1) :
 Inv (cxOf CX P w K mg base N qual scope f cd A outer s H E) [] (Za4 N vs) H s1:=by
 have hpl:ps.length≤N.length:=by have:=congrArg List.length S.pre;rw [n60_] at this;omega
 obtain ⟨h1,tk,rfl,hk⟩:=x.done;have noA:∀ b:Addr,b∉(cxOf CX P w K mg base N qual scope f cd A outer s H E).ex:=fun b z=>absurd (show b∈([]:List Addr) from z) ?f
 refine ⟨⟨e0.mod,S.kind,rfl,rfl,n7_ _,fun y z c h1 h2=>?_,fun y hy=>?_,fun y c _ h=>?_,fun _=>hd,Around.frames_deeper e0.frames,.inr ⟨rfl,rfl⟩,fun b z=>absurd z (noA b),e0.bs,e0.bsz,fun b _ _=>noA b,fun b z=>absurd z (noA b),e0.funs,e0.frf⟩,
  rfl,e0.bare,Un.kept hk,⟨_,x.toInCall.ns,fun i y v h1 h2 h3=>?_⟩,fun y c h=>⟨_,x.cell y c h⟩,e0.hok.fresh (n7_ _),fun y c h=>?_,fun p hp=>absurd (show p∈([]:?B) from hp) ?f,e0.hok.kept hk,?_⟩
 · exact name_of_addr x.apart (n40_ h1) (n40_ h2)
 · have hy:scope.names.lookup y=some .cell∨scope.names.lookup y=some .free:=hy
   rcases hy with hy|hy
   · exact Zx hy
   · exact absurd rfl (S.nofree _ (n40_ hy))
 · exact Nat.le_of_lt (x.above y c (n40_ h))
 · have hi:i<vs.length:=by
    unfold Za4 at h2
    by_cases hi:i<vs.length
    · exact hi
    · rw [n66_ (by simpa using hi)] at h2;rw [List.getElem?_replicate] at h2;split at h2<;>cases h2
   have ha:vs[i]? = some v:=by
    unfold Za4 at h2;rw [n72_ (by simpa using hi),n5_] at h2;cases e:vs[i]? with
    | none=>rw [e] at h2;cases h2
    | some a=>rw [e] at h2;cases h2;rfl
   obtain ⟨u,hu,rv⟩:=r.get ha
   have hp:ps[i]? = some y:=by
    rw [← S.pre,List.getElem?_take_of_lt (?d)];exact h1
   have ndP:ps.Nodup:=by rw [← S.pre];exact S.nd.sublist (List.take_sublist _ _)
   refine ⟨u,rv,?_⟩
   rcases S.par y (n17_ hp) with k|k
   · exact .inl ⟨k,Zhq ndP hp hu k⟩
   · obtain ⟨c,e⟩:=Zx (n:=s.z+1) k;refine .inr ⟨.inl k,c,e,?_⟩;have q:=x.cell y c e;rw [Zg5 ndP hp hu (by show scope.names.lookup y≠_;rw [k];decide)] at q;exact q
 · exact .inl (e0.hok.fresh (Nat.le_of_lt (x.above y c (n40_ h))))
 · unfold Za4;show _=N.length
   rw [n33_,n3_,List.length_replicate];omega
theorem Zur {CX:CXT} {K:PySem.W.Frag} {mg:Str→?C} {base:Heap} {name:Str} {params:Arguments} {body:List Stmt} {dV kV doc pm cdv ct oc:Value} {an od:Option Addr}
 {osl:Array (?C)} {sp:Sp} (lk:K.lookup f=some ⟨oc,od,.func (PySem.W.fnOf name qual params body scope dV kV doc pm an cdv ct),osl⟩) (hcd:PySem.W.codeIn K cdv qual=true) (S:FnScope N ps scope)
 (len:∀ vs H Q E,sp vs H Q E→vs.length=ps.length)
 (hbody:∀ (A:Around) (outer:List Env) (s:Shared) (H:Hp) (vs:List V) (Q:VK) (E:XK),Room k (A.deeper (envOfC qual scope s.z f cdv))→sp vs H Q E →
   ∃ t,PSs (cxOf CX P w K mg base N qual scope f cdv A outer s H E) body t∧t { nx:=fun _ H'=>Q .non H',rt:=Q } (Za4 N vs) H) :
 FnOk P w K mg base CX (k+1) f (PySem.W.fnOf name qual params body scope dV kV doc pm an cdv ct) ps sp:=by
 refine ⟨len,fun A outer s H args us vs Q E hr e0 hb r hsp=>?_⟩;have hl:=len _ _ _ _ hsp;have KX:K.In s.heap:=e0.mod.kin.keeps fun b o e=>(e0.bs b o e).1;have lim:s.heap.NoLimit:=e0.mod.nolimit.keeps fun b o e=>(e0.bs b o e).1
 have hkind:∀ y∈ps.zip us,scope.names.lookup y.1=some .local∨(scope.names.lookup y.1=some .cell∧((cellsFrom (s.z+1) scope.names []).lookup y.1).isSome=true):=fun ⟨n,v⟩ hy=>by
  rcases S.par n (List.of_mem_zip hy).1 with q|q
  · exact .inl q
  · exact .inr ⟨q,PySem.W.cellsFrom_some _ _ _ (.inl q)⟩
 refine codeAny_call_function hr.depth (KX _ _ lk) rfl S.co S.gen rfl (PySem.W.codeRec_of KX hcd) (hb _ _ _ _ ?_);refine wpAny_newFunctionEnv_cells S.kind hkind fun env he s1 x=>?_;subst he;refine ⟨lim.keeps x.toInCall.keep,codeAny_func ?_⟩;obtain ⟨t,ht,hq⟩:=hbody A outer s H vs Q E (hr.deeper _) hsp;have I:Inv (cxOf CX P w K mg base N qual scope f cdv A outer s H E) [] (Za4 N vs) H s1:=Zop S hr.hd e0 hl r x;refine n56_ (ht [] s1 (Za4 N vs) H _ I hq) (fun fl s' hs=>?_) fun e s' hs=>hs
 have fin:∀ {σ':St} {H':Hp} {v:V} {u:Value},Inv (cxOf CX P w K mg base N qual scope f cdv A outer s H E) [] σ' H' s'→RelV v u→Q v H'→CE outer P w H s Q u s' :=
  fun {σ' H' v u} J rv q=>⟨v,H',J.os,J.bare,J.base,J.hok,rv,q⟩
 cases fl with
 | ret u =>
   obtain ⟨v,σ',H',J,rv,q⟩:=hs;exact fin J rv q
 | next =>
   obtain ⟨σ',H',J,q⟩:=hs;exact fin (v:=V.non) (u:=Value.none) J rfl q
 | brk =>
   obtain ⟨_,_,_,q⟩:=hs;exact False.elim q
 | cont =>
   obtain ⟨_,_,_,q⟩:=hs;exact False.elim q
section
variable {X:Cx} {x:Str} {p pos:Pos} {e:Expr} {es:List Expr} {t:TA} {id T:String} {r:?W}
def tCB (r:?W) (t:TA):TE:=fun σ H Q=>t σ H fun vs H1=>r vs H1 Q
theorem Zm (hc:Xl X (.builtin id) r) (hg:Gl X x) (hm:X.mg x=none) (hv:bootBuiltins x=some (.builtin id)) (ha:PA X (e :: es) t) (hn:x ≠ "__name__" := by decide) (hdb:?af=false:=by decide)
 (he:starEach (e :: es) X.env=(false,eval e X.env) :: starEach es X.env:=by rfl) (hpl:(backTo pos (starEach es X.env)).any (·.1)=false:=by rfl):PE X (.Call (.Name x p) (e :: es) [] pos) (tCB r t):=by
 intro pins s σ H Q I h;refine wpAny_Call_Name_kw (Zcd I hg hm hv ?_ hn hdb);exact PyProof.Rows.callWith_builtin1 (thn (ha pos pins s σ H _ I h) fun us s1 ⟨vs,H1,I1,r1,q1⟩=>hc pins s1 σ H1 vs us Q I1 r1 q1) he hpl
theorem Zo (hc:Xl X (.type T) r) (hg:Gl X x) (hm:X.mg x=none) (hv:bootBuiltins x=some (.type T)) (ha:PA X (e :: es) t) (hn:x ≠ "__name__" := by decide) (hdb:?af=false:=by decide)
 (he:starEach (e :: es) X.env=(false,eval e X.env) :: starEach es X.env:=by rfl) (hpl:(backTo pos (starEach es X.env)).any (·.1)=false:=by rfl):PE X (.Call (.Name x p) (e :: es) [] pos) (tCB r t):=by
 intro pins s σ H Q I h;refine wpAny_Call_Name_kw (Zcd I hg hm hv ?_ hn hdb);exact n64_ (thn (ha pos pins s σ H _ I h) fun us s1 ⟨vs,H1,I1,r1,q1⟩=>hc pins s1 σ H1 vs us Q I1 r1 q1) he hpl
end
end L2
namespace HT
open PySem PyProof.Rows
noncomputable def lexLt:?g→?g→Bool
 | [],[]=>false
 | [],_ :: _=>true
 | _ :: _,[]=>false
 | x :: xs,y :: ys=>if x=y then lexLt xs ys else decide (x<y)
theorem lexLt_cons (x y:Int) (xs ys:?g):lexLt (x :: xs) (y :: ys)=if x=y then lexLt xs ys else decide (x<y):=rfl
section
open PySem.SeqAt
open PySem.AutoSeq1 (wpAny_loadPart')
open PySem.MeetsSeq PySem.MeetsSeq2 PySem.MeetsSeq3
end
section
variable {prog:Program} {w:World} {A:Around} {E:Value→?j} {s:Shared}
theorem cat_tup {t b:Addr} {vs ws:?t} {Q:Value→?j} (ht:IsTup s.heap t vs.toArray) (hb:IsTup s.heap b ws.toArray) (hv:vs≠[])
 (h1:ws=[]→Q (.ref t) s) (h2:ws≠[]→Q (.ref s.z) { s with heap:=s.heap.push { cls:=?M,data:=.seq (vs++ws).toArray } })
 (hsz:vs.length+ws.length≤sizeLine):wpAny ?D A (binaryOp .Add (.ref t) (.ref b)) Q E s:=by
 obtain ⟨⟨cls,dd,data,sl⟩,ho,hc,n,hd⟩:=id ht;obtain ⟨⟨cls2,dd2,data2,sl2⟩,ho2,hc2,n2,hd2⟩:=id hb;simp only at hc hd hc2 hd2;subst hc hd hc2 hd2;have e:vs.toArray++ws.toArray=(vs++ws).toArray:=by simp
 by_cases hw:ws=[]
 · exact concat_meets ⟨_,ho,rfl⟩ ⟨_,ho2,rfl⟩ noFill_tuple_add seq_tuple_add PySem.F.slot_tuple_add PySem.F.entry_tuple_add (PySem.F.args_tuple_add_2 _ _)
    (tuple_addW1 t b vs.toArray ws.toArray n n2 dd dd2 sl sl2 (by simpa using hv) (by simp [hw])) ⟨ho,ho2,h1 hw⟩
 · refine concat_meets ⟨_,ho,rfl⟩ ⟨_,ho2,rfl⟩ noFill_tuple_add seq_tuple_add PySem.F.slot_tuple_add PySem.F.entry_tuple_add (PySem.F.args_tuple_add_2 _ _)
    (tuple_addW2 t b vs.toArray ws.toArray n n2 dd dd2 sl sl2 (by simpa using hv) (by simpa using hw) (by rw [n11_,n11_];exact hsz)) ⟨ho,ho2,?_⟩
   rw [e];exact h2 hw
noncomputable def sIx (n d:Nat):Option Int→Nat
 | none=>d
 | some v=>if v<0 then (v+(n:Int)).toNat else min v.toNat n
theorem sIx_none (n d:Nat):sIx n d none=d:=rfl
theorem sIx_nat (n d k:Nat):sIx n d (some (k:Int))=min k n:=by
 show (if (k:Int)<0 then ((k:Int)+(n:Int)).toNat else min (k:Int).toNat n)=min k n
 rw [if_neg (?d),n63_]
theorem Zu9 (n d:Nat) (hd:d≤n) (o:Option Int):sIx n d o≤n:=by
 cases o with
 | none=>exact hd
 | some v =>
   show (if v<0 then (v+(n:Int)).toNat else min v.toNat n)≤n
   by_cases hv:v<0
   · rw [if_pos hv];omega
   · rw [if_neg hv];exact Nat.min_le_right _ _
theorem Zns (v:Int) (n d:Nat):(if v<0 then max (v+(n:Int)) 0 else min v (n:Int))=((sIx n d (some v):Nat):Int):=by
 show (if v<0 then max (v+(n:Int)) 0 else min v (n:Int))=(((if v<0 then (v+(n:Int)).toNat else min v.toNat n):Nat):Int)
 by_cases hv:v<0
 · simp only [if_pos hv];omega
 · simp only [if_neg hv];omega
theorem Zlp (lo hi:Option Int) (n:Nat):Builtin.Slice.sliceAdjust lo hi 1 (n:Int)=(((sIx n 0 lo:Nat):Int),((sIx n n hi:Nat):Int)):=by
 have h1:¬ ((1:Int)<0):=?d
 unfold Builtin.Slice.sliceAdjust;simp only [h1,if_false];refine Prod.ext ?_ ?_
 · cases lo with
   | none=>rfl
   | some v=>exact Zns v n 0
 · cases hi with
   | none=>rfl
   | some v=>exact Zns v n n
theorem Zl9 (i j:Nat):Builtin.Slice.slicePlaces (i:Int) (j:Int) 1=j-i:=by
 unfold Builtin.Slice.slicePlaces;have h1:(1:Int)>0:=?d
 simp only [h1,if_true,Int.ediv_one];split<;>omega
theorem Zfx {v:Value} {o:Option Int} {Q:Option Int→?j} (p:IsPart v o) (h:Q o s):wpAny ?D A (Builtin.Slice.slicePartIndex v) Q E s:=by
 cases p with
 | none=>exact slicePart_none h
 | int i t=>exact slicePart_int h
theorem Zay {sl:Addr} {vl vu:Value} {lo hi:Option Int} {n:Nat} {Q:Int×Int×Nat→?j} (hs:s.heap.IsSliceOf sl vl vu .none) (pl:IsPart vl lo) (pu:IsPart vu hi)
 (h:Q (((sIx n 0 lo:Nat):Int),1,sIx n n hi-sIx n 0 lo) s):wpAny ?D A (Builtin.Slice.sliceApplied (.ref sl) (pure (n:Int))) Q E s:=by
 obtain ⟨os,hos,hcs,hds⟩:=id hs;unfold Builtin.Slice.sliceApplied Builtin.Slice.sliceFields;refine n1_ (n1_ (wpAny_field hos hds (x:=vl) rfl (n1_ (wpAny_field hos hds (x:=vu) rfl (n1_ (wpAny_field hos hds (x:=.none) rfl (n6_ ?_)))))));refine n1_ (slicePart_none ?_);show wpAny _ _ (if ((1:Int) == 0)=true then _ else _) _ _ s
 rw [if_neg ?e];refine n1_ (Zfx pl (n1_ (Zfx pu (n1_ (n6_ ?_)))));show wpAny _ _ (match Builtin.Slice.sliceAdjust lo hi 1 (n:Int) with|(lo,hi)=>pure (lo,(1:Int),Builtin.Slice.slicePlaces lo hi 1)) _ _ s
 rw [Zlp lo hi n];show wpAny _ _ (pure (((sIx n 0 lo:Nat):Int),(1:Int),Builtin.Slice.slicePlaces ((sIx n 0 lo:Nat):Int) ((sIx n n hi:Nat):Int) 1)) _ _ s
 rw [Zl9];exact n6_ h
theorem Zpp (xs:?L) (i k:Nat):((List.range k).filterMap fun (m:Nat)=>xs[((i:Int)+(m:Int)*1).toNat]?).toArray=((xs.toList.drop i).take k).toArray:=by
 have e:(fun (m:Nat)=>xs[((i:Int)+(m:Int)*1).toNat]?)=fun m=>xs[i+m]?:=by
  funext m
  have:((i:Int)+(m:Int)*1).toNat=i+m:=?d
  rw [this]
 rw [e]
 have:=pick_run xs i k
 rw [List.filterMap_map] at this;have e2:((fun x=>xs[x]?) ∘ fun x=>i+x)=fun m=>xs[i+m]?:=rfl;rw [e2] at this;rw [this]
theorem getItem_tuple_cut {t sl:Addr} {items:?L} {vl vu:Value} {lo hi:Option Int} {Q:Value→?j} (ht:IsTup s.heap t items) (hs:s.heap.IsSliceOf sl vl vu .none) (pl:IsPart vl lo) (pu:IsPart vu hi)
 (hw:¬ (sIx items.size 0 lo=0∧sIx items.size items.size hi=items.size))
 (h:Q (.ref s.z) { s with heap:=s.heap.push { cls:=?M,data:=.seq ((items.toList.drop (sIx items.size 0 lo)).take (sIx items.size items.size hi-sIx items.size 0 lo)).toArray } })
 (hsz:items.size≤sizeLine):wpAny ?D A (getItem (.ref t) (.ref sl)) Q E s:=by
 have htake:sizeOk (.seq ((items.toList.drop (sIx items.size 0 lo)).take (sIx items.size items.size hi-sIx items.size 0 lo)).toArray):=by
  show ((items.toList.drop (sIx items.size 0 lo)).take (sIx items.size items.size hi-sIx items.size 0 lo)).toArray.size≤sizeLine
  rw [n11_,n60_,List.length_drop,Array.length_toList];omega
 have hj:sIx items.size items.size hi≤items.size:=Zu9 _ _ (n7_ _) hi;obtain ⟨os,hos,hcs,hds⟩:=id hs;have hTs:s.TypeIs (.ref sl) "slice" := ⟨os,hos,hcs⟩;unfold getItem
 try with_reducible refine n38_ ?_
 first|refine n1_ (n6_ ?_)|skip
 refine n1_ (wpAny_sequenceKey ht.typeIs ?e ?_)
 refine n1_ (wpAny_callSpecial?_slot (name:=Str.ofString "__getitem__") ht.typeIs PyProof.Rows.slot_tuple_getitem
  (wpAny_call_entry PyProof.Rows.slot_tuple_getitem ht.typeIs entry_tuple_getitem ?_ (args_tuple_getitem _ _)))
 show wpAny _ _ (Builtin.Tuple.tupleItemsOf (.ref t) >>= _) _ _ s
 refine n1_ (tupleItemsOf_ ht ?_);refine n1_ (wpAny_typeOf hTs ?_);rw [if_pos ?e];refine n1_ (Zay hs pl pu ?_)
 have hno:¬ ((((sIx items.size 0 lo:Nat):Int) == 0&&(1:Int) == 1&&(sIx items.size items.size hi-sIx items.size 0 lo) == items.size)=true):=by
  intro q;rw [n37_,n37_] at q;have q1:((sIx items.size 0 lo:Nat):Int)=0:=eq_of_beq q.1.1;have q2:sIx items.size items.size hi-sIx items.size 0 lo=items.size:=eq_of_beq q.2;exact hw ⟨?d,?d⟩
 show wpAny _ _ (if (((sIx items.size 0 lo:Nat):Int) == 0&&(1:Int) == 1&&(sIx items.size items.size hi-sIx items.size 0 lo) == items.size)=true then _ else _) _ _ s
 rw [if_neg hno,Zpp]
 first
  | exact n1_ (m:=Builtin.Tuple.tupleExact _) (wpAny_newObj_type (n6_ ⟨_,rfl,n6_ h⟩) htake)
  | exact n1_ (m:=Builtin.Tuple.tupleExact _) (wpAny_newObj_type (n1_ (n6_ (n6_ ⟨_,rfl,n6_ h⟩))) htake)
  | exact n1_ (n1_ (m:=Builtin.Tuple.tupleExact _) (wpAny_newObj_type (n6_ (n6_ ⟨_,rfl,n6_ h⟩)) htake))
  | exact n1_ (n1_ (m:=Builtin.Tuple.tupleExact _) (wpAny_newObj_type (n6_ ⟨_,rfl,n6_ h⟩) htake))
end
end HT
namespace L2
open PySem PySem.Spec PyProof.Rows
abbrev TO:=St→Hp→(Option Int→?w)→Prop
def PO (X:Cx) (e:Option Expr) (t:TO):Prop :=
 ∀ (pins:?B) (s:Shared) (σ:St) (H:Hp) (Q:Option Int→?w),?s→t σ H Q →
   wpAny ?A X.A (evalPart e X.env) (fun u s'=>∃ o H',Inv X pins σ H' s'∧IsPart u o∧Q o H') X.xe s
def Zrx:TO:=fun _ H Q=>Q none H
def Zwk (t:TE):TO:=fun σ H Q=>t σ H fun x H1=>∃ i,x=.int i∧Q (some i) H1
variable {α:Type} {A:Around} {H:Hp} {pins:?B} {ns:?g} {xs:List V} {its us:?t} {n t':Nat} {s:Shared} {σ:St} {y:V} {u:Value}
theorem Zbg:∀ {us:?t},Vals ?U us→IntsAre us ns:=by
 induction ns with
 | nil=>intro us r;rw [n70_] at r;cases r;exact .nil
 | cons n ns ih =>
   intro us r;rw [n19_] at r;cases r with
   | cons r1 r2 =>
     obtain ⟨t,e⟩:=r1;subst e;exact .cons n t (ih r2)
section
variable {X:Cx} {e:Expr} {te:TE} {lo hi:Option Expr} {tl th:TO} {pos p2:Pos}
theorem Zi5:PO X none Zrx:=by
 intro pins s σ H Q I h;rw [evalPart_none];exact n6_ ⟨none,H,I,.none,h⟩
theorem Zik (h:PE X e te):PO X (some e) (Zwk te):=by
 intro pins s σ H Q I hw;rw [evalPart_some];refine thn (h pins s σ H _ I hw) fun u s1 ⟨x,H1,I1,r1,q1⟩=>?_;obtain ⟨i,rfl,q⟩:=q1;obtain ⟨t,rfl⟩:=r1;exact ⟨some i,H1,I1,.int i t,q⟩
def SlR (X:Cx) (r:V→Option Int→Option Int→Hp→VK→Prop):Prop :=
 ∀ (pins:?B) (s:Shared) (σ:St) (H:Hp) (x:V) (v vl vu:Value) (lo hi:Option Int) (sl:Addr) (Q:VK),?s→RelV x v→s.heap.IsSliceOf sl vl vu .none→IsPart vl lo→IsPart vu hi→r x lo hi H Q →
   ∃ T id,typeLookup (.type T) "__getitem__" = pure (some (.builtin id))∧s.TypeIs v T∧wpAny ?A X.A (getItem v (.ref sl)) (EP X pins σ Q) X.xe s
def tSl (r:V→Option Int→Option Int→Hp→VK→Prop) (te:TE) (tl th:TO):TE:=fun σ H Q=>te σ H fun x H1=>tl σ H1 fun l H2=>th σ H2 fun u H3=>r x l u H3 Q
theorem Zfz {r:V→Option Int→Option Int→Hp→VK→Prop} (hr:SlR X r) (he:PE X e te) (hl:PO X lo tl) (hu:PO X hi th):PE X (.Subscript e (.Slice lo hi none p2) pos) (tSl r te tl th):=by
 intro pins s σ H Q I h;refine Subscript_ (thn (he pins s σ H _ I h) fun v s1 ⟨x,H1,I1,r1,q1⟩=>?_);refine wpAny_Slice (thn (hl pins s1 σ H1 _ I1 q1) fun vl s2 ⟨l,H2,I2,pl,q2⟩=>thn (hu pins s2 σ H2 _ I2 q2) fun vu s3 ⟨u,H3,I3,pu,q3⟩=>?_);rw [evalPart_none];refine n6_ ?_;have I4:Inv X pins σ H3 { s3 with heap:=s3.heap.push { cls:=.type "slice",data:=.fields #[vl,vu,.none] } }:=I3.kept (t':=s3.toks) fun b ob q=>n2_ _ q;obtain ⟨T,id,hT,ht,hg⟩:=hr pins { s3 with heap:=s3.heap.push { cls:=.type "slice",data:=.fields #[vl,vu,.none] } } σ H3 x v vl vu l u s3.z Q I4 r1 (Heap.IsSliceOf.new ..) pl pu q3;show wpAny ?A X.A (subscriptTail e (.Slice lo hi none p2) v (.ref s3.z)) (EP X pins σ Q) X.xe { s3 with heap:=s3.heap.push { cls:=.type "slice",data:=.fields #[vl,vu,.none] } }
 exact tail_any (ops:=[.ref s3.z,v]) ht hT hg (by with_unfolding_all rfl)
def cutV (xs:List V) (lo hi:Option Int):List V:=(xs.drop (HT.sIx xs.length 0 lo)).take (HT.sIx xs.length xs.length hi-HT.sIx xs.length 0 lo)
theorem Zd7 (xs:List V) (lo hi:Option Int):(cutV xs lo hi).length≤xs.length:=by
 unfold cutV;rw [n60_,List.length_drop];omega
inductive BxRSlT (K:PySem.W.Frag) (x:V) (lo hi:Option Int) (H:Hp) (Q:VK):Prop
 | mk (a:_) (xs:_) (q1:x=.ref a) (q2:SqT K H a xs) (q3:¬ (HT.sIx xs.length 0 lo=0∧HT.sIx xs.length xs.length hi=xs.length)) (q4:∀ p,H p=none→Q (.ref p) (upd H p (.tup (cutV xs lo hi)))):BxRSlT K x lo hi H Q
def rSlT (K:PySem.W.Frag):V→Option Int→Option Int→Hp→VK→Prop:=fun x lo hi H Q=>BxRSlT K x lo hi H Q
theorem Ztw:SlR X (rSlT X.K):=by
 intro pins s σ H x v vl vu lo hi sl Q I rx hs pl pu h;obtain ⟨a,xs,rfl,hx,hw,q⟩:=h;cases rx
 obtain ⟨its,r,ht,hz⟩:=I.tuple hx;have hlen:its.toArray.size=xs.length:=by rw [n11_];exact r.length.symm
 refine ⟨"tuple",_,PyProof.Rows.slot_tuple_getitem.lookup,ht.typeIs,?_⟩;refine HT.getItem_tuple_cut ht hs pl pu (by rw [hlen];exact hw) ?_ (by rw [hlen];exact hz);rw [hlen];refine ⟨.ref s.z,_,I.laid (t':=s.toks) (o:=.tup (cutV xs lo hi)) (fun b ob q=>n2_ _ q) (n7_ _) ?_,rfl,q _ (I.hok.fresh (n7_ _))⟩;exact ⟨n31_ (Zd7 xs lo hi) hz,_,(r.drop (HT.sIx xs.length 0 lo)).take (HT.sIx xs.length xs.length hi-HT.sIx xs.length 0 lo),IsTupN.new _ _⟩
inductive BxRCatT (K:PySem.W.Frag) (x y:V) (H:Hp) (Q:VK):Prop
 | mk (a:_) (b:_) (xs:_) (ys:_) (q1:x=.ref a) (q2:y=.ref b) (q3:SqT K H a xs) (q4:SqT K H b ys) (q5:xs≠[]) (q6:xs.length+ys.length≤sizeLine) (q7:(ys=[]→Q (.ref a) H)) (q8:(ys≠[]→∀ p,H p=none→Q (.ref p) (upd H p (.tup (xs++ys))))):BxRCatT K x y H Q
def Zwp (K:PySem.W.Frag):R2:=fun x y H Q=>BxRCatT K x y H Q
theorem Vals.nil_iff (r:Vals xs us):us=[]↔xs=[]:=by
 cases r with
 | nil=>simp
 | cons _ _=>simp
theorem Zr9:OpR X (binaryOp .Add) (Zwp X.K):=by
 intro pins s σ H x y v u Q I rx ry h;obtain ⟨a,b,xs,ys,rfl,rfl,ha,hb,hx,hz,q1,q2⟩:=h;cases rx
 cases ry
 obtain ⟨its,r1,p1,_⟩:=I.tuple ha;obtain ⟨its2,r2,p2,_⟩:=I.tuple hb;refine HT.cat_tup p1 p2 (fun z=>hx (r1.nil_iff.mp z)) (fun z=>⟨.ref a,H,I,rfl,q1 (r2.nil_iff.mp z)⟩) (fun z=>?_) (by rw [← r1.length,← r2.length];exact hz);refine ⟨.ref s.z,_,I.laid (t':=s.toks) (o:=.tup (xs++ys)) (fun b ob q=>n2_ _ q) (n7_ _) ?_,rfl,q2 (fun w=>z (r2.nil_iff.mpr w)) _ (I.hok.fresh (n7_ _))⟩;exact ⟨by rw [n33_];exact hz,_,r1.append r2,IsTupN.new _ _⟩
end
def ixN (n:Nat) (i:Int):Option Nat:=if 0≤i then (if i<n then some i.toNat else none) else if -(n:Int)≤i then some (i+n).toNat else none
def atI {α:Type} (xs:List α) (i:Int):Option α:=(ixN xs.length i).bind fun j=>xs[j]?
theorem Ziw {i:Int} {j:Nat} (h:ixN n i=some j):seqIndex? i n=some j∧j<n∧-(n:Int)≤i∧i<n:=by
 unfold ixN at h
 by_cases h0:0≤i
 · rw [if_pos h0] at h
   by_cases h1:i<n
   · rw [if_pos h1] at h;have e:i.toNat=j:=Option.some.inj h;exact ⟨by rw [seqIndex_of h0 h1,e],?d,?d,h1⟩
   · rw [if_neg h1] at h;cases h
 · rw [if_neg h0] at h
   by_cases h1:-(n:Int)≤i
   · rw [if_pos h1] at h;have e:(i+n).toNat=j:=Option.some.inj h;exact ⟨by rw [seqIndex_neg (?d) h1,e],?d,h1,?d⟩
   · rw [if_neg h1] at h;cases h
theorem Zm2 {xs:List α} {i:Int} {v:α} (h:atI xs i=some v):∃ j,seqIndex? i xs.length=some j∧xs[j]? = some v∧j<xs.length∧-(xs.length:Int)≤i∧i<xs.length:=by
 unfold atI at h;cases e:ixN xs.length i with
 | none=>rw [e] at h;cases h
 | some j =>
   rw [e] at h;obtain ⟨h1,h2,h3,h4⟩:=Ziw e;exact ⟨j,h1,h,h2,h3,h4⟩
theorem Ys {xs:List α} {j:Nat} {v:α} (h:xs[j]? = some v):atI xs (j:Int)=some v:=by
 have hj:j<xs.length:=(n22_.mp h).1
 have e:ixN xs.length (j:Int)=some j:=by
  unfold ixN;rw [if_pos (?d),if_pos (?d)];simp
 unfold atI;rw [e];exact h
def Zs0 (b:Expr):Prop:=∀ o i,subscripted b false o i=operate [o,i] (getItem o i)
def IxR (X:Cx) (r:R2):Prop :=
 ∀ (value slice:Expr) (pins:?B) (s:Shared) (σ:St) (H:Hp) (x y:V) (v u:Value) (Q:VK),?s→RelV x v→RelV y u→r x y H Q →
   subscripted slice false v u=operate [v,u] (getItem v u)→wpAny ?A X.A (subscriptTail value slice v u) (EP X pins σ Q) X.xe s
def MtR (X:Cx) (id:String) (r:V→?W):Prop :=
 ∀ (pins:?B) (s:Shared) (σ:St) (H:Hp) (x:V) (xs:List V) (v:Value) (us:?t) (Q:VK),?s→RelV x v→Vals xs us→r x xs H Q →
   wpAny ?A X.A (call (.builtin id) (v :: us)) (EP X pins σ Q) X.xe s
section
variable {X:Cx} {a b:Expr} {ta tb:TE} {pos:Pos}
theorem Zv {r:R2} (hr:IxR X r) (ha:PE X a ta) (hb:PE X b tb) (hs:Zs0 b):PE X (.Subscript a b pos) (tOp r ta tb):=by
 intro pins s σ H Q I h;exact Subscript_ (binT ha hb I h fun v u s2 x y H2 I2 rx ry q=>hr a b pins s2 σ H2 x y v u Q I2 rx ry q (hs _ _))
inductive BxRIxL (K:PySem.W.Frag) (x y:V) (H:Hp) (Q:VK):Prop
 | mk (p:_) (xs:_) (i:_) (v:_) (q1:x=.ref p) (q2:y=.int i) (q3:SqL K H p xs) (q4:atI xs i=some v) (q5:Q v H):BxRIxL K x y H Q
def rIxL (K:PySem.W.Frag):R2:=fun x y H Q=>BxRIxL K x y H Q
inductive BxRIxT (K:PySem.W.Frag) (x y:V) (H:Hp) (Q:VK):Prop
 | mk (p:_) (xs:_) (i:_) (v:_) (q1:x=.ref p) (q2:y=.int i) (q3:SqT K H p xs) (q4:atI xs i=some v) (q5:Q v H):BxRIxT K x y H Q
def rIxT (K:PySem.W.Frag):R2:=fun x y H Q=>BxRIxT K x y H Q
theorem Ym:IxR X (rIxL X.K):=by
 intro value slice pins s σ H x y v u Q I rx ry h hs;obtain ⟨p,xs,i,z,rfl,rfl,hq,he,q⟩:=h;cases rx
 obtain ⟨t,rfl⟩:=ry;obtain ⟨its,r,pl,hz⟩:=I.list hq;obtain ⟨j,h1,h2,h3,h4,h5⟩:=Zm2 he;obtain ⟨w,ew,rw'⟩:=r.get h2;have hl:=r.length;have hn:=Zhc;have fin:EP X pins σ Q w s:=⟨z,H,I,rw',q⟩
 by_cases h0:0≤i
 · have hj:i.toNat=j:=by
    rw [seqIndex_of h0 h5] at h1;exact Option.some.inj h1
   exact item_listR pl.isList h0 (?d) (by rw [hj];simpa using ew) fin hs
 · have hj:(i+(its.toArray.size:Int)).toNat=j:=by
    rw [seqIndex_neg (?d) h4] at h1;rw [n11_,← hl];exact Option.some.inj h1
   exact subscriptTail_builtinR (x:=w) pl.isList.typeIs slot_list_getitem.lookup
    (wpAny_getItem_list_neg (Q:=fun r s'=>r=w∧EP X pins σ Q r s') pl.isList (?d) (by rw [n11_]<;>omega) (?d) (by rw [hj];simpa using ew) ⟨rfl,fin⟩) hs
theorem Zw:IxR X (rIxT X.K):=by
 intro value slice pins s σ H x y v u Q I rx ry h hs;obtain ⟨p,xs,i,z,rfl,rfl,hq,he,q⟩:=h;cases rx
 obtain ⟨t,rfl⟩:=ry;obtain ⟨its,r,pl,hz⟩:=I.tuple hq;obtain ⟨j,h1,h2,h3,h4,h5⟩:=Zm2 he;obtain ⟨w,ew,rw'⟩:=r.get h2;have hl:=r.length;have hn:=Zhc;have fin:EP X pins σ Q w s:=⟨z,H,I,rw',q⟩
 exact subscriptTail_builtinR (x:=w) pl.typeIs slot_tuple_getitem.lookup
  (getItem_tuple (j:=j) (Q:=fun r s'=>r=w∧EP X pins σ Q r s') pl (?d) (?d) (by rw [n11_,← hl];exact h1) (by simpa using ew) ⟨rfl,fin⟩) hs
theorem Zlt (its:?t) (n j:Nat) (u:Value):Obj.mapSeq (·.setIfInBounds j u) { cls:=.type "list",data:=.seq its.toArray n }={ cls:=.type "list",data:=.seq (its.set j u).toArray n }:=by
 simp [Obj.mapSeq]
theorem Inv.lst {p:Addr} (I:?s) (h:H p=some (.lst xs)) :
 ∃ (its:?t) (n:Nat),Vals xs its∧s.heap.get? p=some { cls:=.type "list",data:=.seq its.toArray n }∧xs.length≤sizeLine:=by
 obtain ⟨z,its,n,r,e⟩:=I.hok p _ h;exact ⟨its,n,r,e,z⟩
theorem Inv.lstUpd {p:Addr} {ys:List V} {its':?t} {n':Nat} {f:Obj→Obj} (I:?s) (h:H p=some (.lst xs))
 (ho:s.heap.get? p=some { cls:=.type "list",data:=.seq its.toArray n }) (hf:f { cls:=.type "list",data:=.seq its.toArray n }={ cls:=.type "list",data:=.seq its'.toArray n' }) (r:Vals ys its') (hz:ys.length≤sizeLine) (t:Nat) :
 Inv X pins σ (upd H p (.lst ys)) { s with heap:=s.heap.update p f,toks:=t }:=by
 have e:(s.heap.update p f).get? p=some { cls:=.type "list",data:=.seq its'.toArray n' }:=by
  rw [n65_ f ho (by rw [hf]<;>rfl),hf]
 refine I.write (x:=p) (e:=p) (by rw [h];trivial) (.inl rfl) (fun b u hb q=>(Heap.get?_update_other _ _ (Ne.symm hb)).trans q) ⟨_,e⟩ ?_;exact ⟨hz,its',n',r,e⟩
inductive BxRSetL (o i v:V) (H:Hp) (Q:?w):Prop
 | mk (p:_) (xs:_) (k:_) (j:_) (q1:o=.ref p) (q2:i=.int k) (q3:H p=some (.lst xs)) (q4:ixN xs.length k=some j) (q5:Q (upd H p (.lst (xs.set j v)))):BxRSetL o i v H Q
def Zwg:V→V→V→Hp→(?w)→Prop:=fun o i v H Q=>BxRSetL o i v H Q
theorem Zau:PSet X Zwg:=by
 intro pins s σ H o i v ov iv u Q I ro ri rv h;obtain ⟨p,xs,k,j,rfl,rfl,hp,hj,q⟩:=h;cases ro
 obtain ⟨t,rfl⟩:=ri;obtain ⟨its,n,r,ho,hz⟩:=I.lst hp;obtain ⟨h1,h2,h3,h4⟩:=Ziw hj;have hl:=r.length;have hn:=Zhc
 have I':Inv X pins σ (upd H p (.lst (xs.set j v))) { s with heap:=s.heap.update p (Obj.mapSeq (·.setIfInBounds j u)) } :=
  I.lstUpd hp ho (Zlt its n j u) (r.set rv j) (by rw [List.length_set];exact hz) s.toks
 by_cases h0:0≤k
 · have hk:k.toNat=j:=by
    rw [seqIndex_of h0 h4] at h1;exact Option.some.inj h1
   exact PySem.W.ki_setAt ho h0 (?d) (by rw [n11_,← hl];exact h4) (by rw [hk];exact ⟨_,I',q⟩)
 · have hk:(k+(its.toArray.size:Int)).toNat=j:=by
    rw [seqIndex_neg (?d) h3] at h1;rw [n11_,← hl];exact Option.some.inj h1
   exact PySem.W.ki_setBack ho (?d) (by rw [n11_,← hl];exact h3) (?d) (by rw [hk];exact ⟨_,I',q⟩)
theorem Zht (lo hi:Option Int) (n:Nat):(sliceBounds lo hi none n).1=((HT.sIx n 0 lo:Nat):Int)∧(sliceBounds lo hi none n).2.1=((HT.sIx n n hi:Nat):Int)∧(sliceBounds lo hi none n).2.2=1:=by
 refine ⟨?_,?_,rfl⟩
 · cases lo with
   | none=>simp [sliceBounds,HT.sIx]
   | some i =>
     simp only [sliceBounds,HT.sIx,Option.getD_none,show (1:Int)>0 by decide,if_true]
     by_cases h:i<0
     · simp only [h,if_true]<;>omega
     · simp only [h,if_false]<;>omega
 · cases hi with
   | none=>simp [sliceBounds,HT.sIx]
   | some i =>
     simp only [sliceBounds,HT.sIx,Option.getD_none,show (1:Int)>0 by decide,if_true]
     by_cases h:i<0
     · simp only [h,if_true]<;>omega
     · simp only [h,if_false]<;>omega
theorem Zgd (its:?t) (lo hi:Option Int):slicePick its.toArray lo hi none=((its.drop (HT.sIx its.length 0 lo)).take (HT.sIx its.length its.length hi-HT.sIx its.length 0 lo)).toArray:=by
 obtain ⟨h1,h2,h3⟩:=Zht lo hi its.toArray.size;unfold slicePick;rw [h1,h2,h3];simp only [sliceRange_one,pick_run,n11_]<;>rfl
inductive BxRSlL (K:PySem.W.Frag) (x:V) (lq hq:Option Int) (H:Hp) (Q:VK):Prop
 | mk (a:_) (xs:_) (q1:x=.ref a) (q2:SqL K H a xs) (q3:∀ p,H p=none→Q (.ref p) (upd H p (.lst (cutV xs lq hq)))):BxRSlL K x lq hq H Q
def rSlL (K:PySem.W.Frag):V→Option Int→Option Int→Hp→VK→Prop:=fun x lq hq H Q=>BxRSlL K x lq hq H Q
theorem Zso:SlR X (rSlL X.K):=by
 intro pins s σ H x v vl vu lo hi sl Q I rx hs pl pu h;obtain ⟨a,xs,rfl,hx,q⟩:=h;cases rx
 obtain ⟨its,r,ht,hz⟩:=I.list hx;have hlen:=r.length;refine ⟨"list",_,slot_list_getitem.lookup,ht.isList.typeIs,?_⟩;refine wpAny_getItem_list_slice ht.isList hs pl pu .none ?f ?_ (by rw [n11_]<;>omega);rw [Zgd,← hlen];refine ⟨.ref s.z,_,I.laid (t':=s.toks) (o:=.lst (cutV xs lo hi)) (fun b ob q=>n2_ _ q) (n7_ _) ?_,rfl,q _ (I.hok.fresh (n7_ _))⟩;exact ⟨n31_ (Zd7 xs lo hi) hz,_,0,(r.drop (HT.sIx xs.length 0 lo)).take (HT.sIx xs.length xs.length hi-HT.sIx xs.length 0 lo),n8_ _ rfl⟩
noncomputable def Zgz:V→Bool
 | .non=>true
 | .bl _=>true
 | .int _=>true
 | .str _=>true
 | _=>false
def eqV:V→V→Bool
 | .non,.non=>true
 | .bl a,.bl b=>a == b
 | .bl a,.int b=>(if a then 1 else 0) == b
 | .int a,.bl b=>a == (if b then 1 else 0)
 | .int a,.int b=>a == b
 | .str a,.str b=>a == b
 | _,_=>false
theorem Zul {x:V} {v:Value} (ry:RelV y u) (rx:RelV x v) (fy:Zgz y=true) (fx:Zgz x=true):SeqAt.EqAt A s u v (eqV y x):=by
 cases y with
 | non =>
   cases ry
   cases x with
   | non=>cases rx;exact SeqAt.EqAt.same _
   | bl b=>cases rx;exact SeqAt.EqAt.none_bool b
   | int b=>obtain ⟨t,rfl⟩:=rx;exact SeqAt.EqAt.none_int b t
   | str b=>obtain ⟨t,rfl⟩:=rx;exact SeqAt.EqAt.none_str b t
   | _=>exact absurd (show false=true from fx) n27_
 | bl a =>
   cases ry
   cases x with
   | non=>cases rx;exact SeqAt.EqAt.bool_none a
   | bl b=>cases rx;exact SeqAt.EqAt.bool_bool a b
   | int b=>obtain ⟨t,rfl⟩:=rx;exact SeqAt.EqAt.bool_int a b t
   | str b=>obtain ⟨t,rfl⟩:=rx;exact SeqAt.EqAt.bool_str a b t
   | _=>exact absurd (show false=true from fx) n27_
 | int a =>
   obtain ⟨t',rfl⟩:=ry;cases x with
   | non=>cases rx;exact SeqAt.EqAt.int_none a t'
   | bl b=>cases rx;exact SeqAt.EqAt.int_bool a t' b
   | int b=>obtain ⟨t,rfl⟩:=rx;exact SeqAt.EqAt.int_int a t' b t
   | str b=>obtain ⟨t,rfl⟩:=rx;exact SeqAt.EqAt.int_str a t' b t
   | _=>exact absurd (show false=true from fx) n27_
 | str a =>
   obtain ⟨t',rfl⟩:=ry;cases x with
   | non=>cases rx;exact SeqAt.EqAt.str_none a t'
   | bl b=>cases rx;exact SeqAt.EqAt.str_bool a t' b
   | int b=>obtain ⟨t,rfl⟩:=rx;exact SeqAt.EqAt.str_int a t' b t
   | str b=>obtain ⟨t,rfl⟩:=rx;exact SeqAt.EqAt.str_str a t' b t
   | _=>exact absurd (show false=true from fx) n27_
 | _=>exact absurd (show false=true from fy) n27_
def eqU (x:V) (u:Value):Bool:=match u with
 | .none=>eqV .non x
 | .bool b=>eqV (.bl b) x
 | .int i _=>eqV (.int i) x
 | .str z _=>eqV (.str z) x
 | _=>false
theorem Zrn {x:V} (r:RelV y u) (f:Zgz y=true):eqU x u=eqV y x:=by
 cases y with
 | non=>cases r;rfl
 | bl b=>cases r;rfl
 | int i=>obtain ⟨t,rfl⟩:=r;rfl
 | str z=>obtain ⟨t,rfl⟩:=r;rfl
 | _=>exact absurd (show false=true from f) n27_
theorem Zd5 {x:V}:∀ {xs:List V} {us:?t},Vals xs us→xs.all Zgz=true→us.any (eqU x)=xs.any fun y=>eqV y x
 | _,_,.nil,_=>rfl
 | y :: xs,u :: us,.cons r t,f=>by
   rw [List.all_cons,n37_] at f;rw [List.any_cons,List.any_cons,Zrn r f.1,Zd5 t f.2]
theorem Zb9 {x:V} {v:Value} (rx:RelV x v) (fx:Zgz x=true):∀ {xs:List V} {us:?t},Vals xs us→xs.all Zgz=true→∀ u∈us,SeqAt.EqAt A s u v (eqU x u)
 | _,_,.nil,_=>fun u hu=>by cases hu
 | y :: xs,u :: us,.cons r t,f=>fun u' hu=>by
   rw [List.all_cons,n37_] at f
   rcases n12_.mp hu with rfl|hu
   · rw [Zrn r f.1];exact Zul r rx f.1 fx
   · exact Zb9 rx fx t f.2 u' hu
def inV (x:V) (xs:List V):Bool:=xs.any fun y=>eqV y x
inductive BxRIn (K:PySem.W.Frag) (neg:Bool) (x y:V) (H:Hp) (Q:VK):Prop
 | mk (p:_) (xs:_) (q1:y=.ref p) (q2:(SqL K H p xs∨SqT K H p xs)) (q3:Zgz x=true) (q4:xs.all Zgz=true) (q5:Q (.bl (if neg then !inV x xs else inV x xs)) H):BxRIn K neg x y H Q
def rIn (K:PySem.W.Frag) (neg:Bool):R2:=fun x y H Q=>BxRIn K neg x y H Q
theorem Zn6:OpR X (compareOp .In) (rIn X.K false):=by
 intro pins s σ H x y v u Q I rx ry h;obtain ⟨p,xs,rfl,hq,fx,fs,q⟩:=h;cases ry
 rcases hq with hq|hq
 · obtain ⟨its,r,pl,hz⟩:=I.list hq;refine SeqAt.in_listAt (eqU x) pl.isList (fun w hw=>Zb9 rx fx r fs w (by simpa using hw)) ⟨.bl _,H,I,rfl,?_⟩;rw [show its.toArray.any (eqU x)=its.any (eqU x) by simp,Zd5 r fs];exact q
 · obtain ⟨its,r,pl,hz⟩:=I.tuple hq;refine SeqAt.in_tupleAt (eqU x) pl (fun w hw=>Zb9 rx fx r fs w (by simpa using hw)) ⟨.bl _,H,I,rfl,?_⟩;rw [show its.toArray.any (eqU x)=its.any (eqU x) by simp,Zd5 r fs];exact q
theorem Zh2:OpR X (compareOp .NotIn) (rIn X.K true):=by
 intro pins s σ H x y v u Q I rx ry h;obtain ⟨p,xs,rfl,hq,fx,fs,q⟩:=h;cases ry
 rcases hq with hq|hq
 · obtain ⟨its,r,pl,hz⟩:=I.list hq;refine SeqAt.notIn_listAt (eqU x) pl.isList (fun w hw=>Zb9 rx fx r fs w (by simpa using hw)) ⟨.bl _,H,I,rfl,?_⟩;rw [show its.toArray.any (eqU x)=its.any (eqU x) by simp,Zd5 r fs];exact q
 · obtain ⟨its,r,pl,hz⟩:=I.tuple hq;refine SeqAt.notIn_tupleAt (eqU x) pl (fun w hw=>Zb9 rx fx r fs w (by simpa using hw)) ⟨.bl _,H,I,rfl,?_⟩;rw [show its.toArray.any (eqU x)=its.any (eqU x) by simp,Zd5 r fs];exact q
inductive BxRc_len_seq (K:PySem.W.Frag) (xs:List V) (H:Hp) (Q:VK):Prop
 | mk (p:_) (ys:_) (q1:xs=[.ref p]) (q2:(SqL K H p ys∨SqT K H p ys)) (q3:Q (.int ys.length) H):BxRc_len_seq K xs H Q
def Zll (K:PySem.W.Frag):?W:=fun xs H Q=>BxRc_len_seq K xs H Q
theorem Zs:Xl X (.builtin "len") (Zll X.K):=by
 intro pins s σ H xs us Q I r h;obtain ⟨p,ys,rfl,hq,q⟩:=h;obtain ⟨u,rfl,rx⟩:=Ziy r;cases rx
 have hn:=Zhc
 rcases hq with hq|hq
 · obtain ⟨its,r',pl,hz⟩:=I.list hq;have hlen:=r'.length;exact Calls.call_len_list pl.isList (by simp only [n11_]<;>omega) ⟨.int ys.length,H,I.tok _,⟨s.toks+1,by rw [n11_,hlen]⟩,q⟩
 · obtain ⟨its,r',pl,hz⟩:=I.tuple hq;have hlen:=r'.length;exact len_tuple pl (by simp only [n11_]<;>omega) ⟨.int ys.length,H,I.tok _,⟨s.toks+1,by rw [n11_,hlen]⟩,q⟩
theorem Zhz:Xl X (.type "list") (fun xs H Q=>∃ p ys,xs=[.ref p]∧(SqL X.K H p ys∨SqT X.K H p ys)∧∀ l,H l=none→Q (.ref l) (upd H l (.lst ys))):=by
 intro pins s σ H xs us Q I r h;obtain ⟨p,ys,rfl,hq,q⟩:=h;obtain ⟨u,rfl,rx⟩:=Ziy r;cases rx
 have fin:∀ (its:?t),Vals ys its→ys.length≤sizeLine→∀ (h':Heap) (c':Nat),(∀ b o',s.heap.get? b=some o'→h'.get? b=some o') →
  h'.get? s.z=some { cls:=.type "list",dict:=none,data:=.seq its.toArray c',slots:=#[] }→EP X pins σ Q (.ref s.z) ?T:=fun its r' hz h' c' kp e =>
  ⟨.ref s.z,_,I.laid (t':=s.toks) kp (n7_ _) (show ObjOk X.prog X.w _ h' _ (.lst ys) from ⟨hz,its,c',r',e⟩),rfl,q _ (I.hok.fresh (n7_ _))⟩
 rcases hq with hq|hq
 · obtain ⟨its,r',pl,hz⟩:=I.list hq;have hlen:=r'.length;obtain ⟨o,ho,hc,n,hd⟩:=pl.isList;exact call_list_seq p (.inl rfl) ho hc hd (fun h' c' kp e=>fin its r' hz h' c' kp e) (by simp only [n11_]<;>omega)
 · obtain ⟨its,r',pl,hz⟩:=I.tuple hq;have hlen:=r'.length;obtain ⟨o,ho,hc,n,hd⟩:=pl;exact call_list_seq p (.inr rfl) ho hc hd (fun h' c' kp e=>fin its r' hz h' c' kp e) (by simp only [n11_]<;>omega)
inductive BxRc_tuple_of (K:PySem.W.Frag) (xs:List V) (H:Hp) (Q:VK):Prop
 | mk (p:_) (ys:_) (q1:xs=[.ref p]) (q2:((SqL K H p ys∧∀ l,H l=none→Q (.ref l) (upd H l (.tup ys)))∨(SqT K H p ys∧Q (.ref p) H))):BxRc_tuple_of K xs H Q
def Zd2 (K:PySem.W.Frag):?W:=fun xs H Q=>BxRc_tuple_of K xs H Q
theorem Zn:Xl X (?M) (Zd2 X.K):=by
 intro pins s σ H xs us Q I r h;obtain ⟨p,ys,rfl,h⟩:=h;obtain ⟨u,rfl,rx⟩:=Ziy r;cases rx
 rcases h with ⟨hq,q⟩|⟨hq,q⟩
 · obtain ⟨its,r',pl,hz⟩:=I.list hq;have hlen:=r'.length;refine call_tuple_list pl.isList (fun h' kp=>?_) (by simp only [n11_]<;>omega);have I1:Inv X pins σ H ?T:=I.kept (t':=s.toks) kp
   have I2:Inv X pins σ (upd H h'.objs.size (.tup ys)) { s with heap:=h'.push { cls:=?M,data:=.seq its.toArray } } :=
    I1.laid (t':=s.toks) (fun b o e=>n2_ _ e) (n7_ _) (show ObjOk X.prog X.w _ _ _ (.tup ys) from ⟨hz,its,r',IsTupN.new _ _⟩)
   exact ⟨.ref h'.objs.size,_,I2,rfl,q _ (I1.hok.fresh (n7_ _))⟩
 · obtain ⟨its,r',pl,hz⟩:=I.tuple hq;exact call_tuple_same pl ⟨.ref p,H,I,rfl,q⟩
def tyV (K:PySem.W.Frag) (T:String) (x:V) (H:Hp):Prop:=match x with
 | .str _=>T = "str"
 | .int _=>T = "int"
 | .ref p=>(T = "list" ∧ ∃ xs,SqL K H p xs)∨(T = "tuple" ∧ ((∃ o,K.lookup p=some o∧o.cls=?M ∧ o.dict=none)∨∃ xs,H p=some (.tup xs))) ∨
    (T = "dict" ∧ ((∃ kvs,H p=some ?E)∨∃ kvs,H p=some (.dT kvs)))∨(T = "set" ∧ ∃ S n,H p=some (.set S n))
 | _=>False
theorem Zq8 {T:String} {x:V} {v:Value} (I:?s) (r:RelV x v) (ty:tyV X.K T x H) :
 s.TypeIs v T∧∀ a,v=.ref a→∃ ob,s.heap.get? a=some ob∧ob.dict=none:=by
 cases x with
 | str z =>
   obtain ⟨t,rfl⟩:=r;cases (show T = "str" from ty)
   exact ⟨typeIs_str s z t,fun _ e=>nomatch e⟩
 | int i =>
   obtain ⟨t,rfl⟩:=r;cases (show T = "int" from ty)
   exact ⟨typeIs_int s i t,fun _ e=>nomatch e⟩
 | ref p =>
   cases r
   rcases ty with ⟨rfl,xs,hq⟩|⟨rfl,⟨o,hk,hc,hd⟩|⟨xs,hq⟩⟩|⟨rfl,hk⟩|⟨rfl,S,n,hk⟩
   · obtain ⟨its,_,pl,_⟩:=I.list hq;refine ⟨pl.isList.typeIs,fun a e=>?_⟩;cases e
     obtain ⟨o,n,e,c,hd,_⟩:=pl;exact ⟨o,e,hd⟩
   · refine ⟨⟨o,I.kIn p o hk,hc⟩,fun a e=>?_⟩;cases e
     exact ⟨o,I.kIn _ o hk,hd⟩
   · obtain ⟨_,its,_,o,e1,⟨e2,e3⟩,_⟩:=(show ObjOk X.prog X.w H s.heap p (.tup xs) from I.hok p _ hq);refine ⟨⟨o,e1,e2⟩,fun a e=>?_⟩;cases e
     exact ⟨o,e1,e3⟩
   · have z:∃ o,s.heap.get? p=some o∧o.ExactDict:=by
      rcases hk with ⟨kvs,hk⟩|⟨kvs,hk⟩
      · obtain ⟨_,_,_,_,o,_,_,e,ex,_⟩:=I.hok p _ hk;exact ⟨o,e,ex⟩
      · obtain ⟨_,_,_,_,o,_,_,e,ex,_⟩:=I.hok p _ hk;exact ⟨o,e,ex⟩
     obtain ⟨o,e,ex⟩:=z;refine ⟨⟨o,e,ex.1⟩,fun a e2=>?_⟩;cases e2
     exact ⟨o,e,ex.2.1⟩
   · obtain ⟨o,_,_,_,e,ex,_⟩:=I.hok p _ hk;refine ⟨⟨o,e,ex.1⟩,fun a e2=>?_⟩;cases e2
     exact ⟨o,e,ex.2.1⟩
 | _=>exact False.elim ty
inductive BxTBM0 (K:PySem.W.Frag) (T:String) (r:V→?W) (x:V) (H1:Hp) (Q:VK):Prop
 | mk  (q1:tyV K T x H1) (q2:r x [] H1 Q):BxTBM0 K T r x H1 Q
def tBM0 (K:PySem.W.Frag) (T:String) (r:V→?W) (to:TE):TE:=fun σ H Q=>to σ H fun x H1=>BxTBM0 K T r x H1 Q
inductive BxTBM (K:PySem.W.Frag) (T:String) (r:V→?W) (t:TA) (σ:St) (x:V) (H1:Hp) (Q:VK):Prop
 | mk  (q1:tyV K T x H1) (q2:t σ H1 fun xs H2=>r x xs H2 Q):BxTBM K T r t σ x H1 Q
def tBM (K:PySem.W.Frag) (T:String) (r:V→?W) (to:TE) (t:TA):TE:=fun σ H Q=>to σ H fun x H1=>BxTBM K T r t σ x H1 Q
variable {o e:Expr} {es:List Expr} {to:TE} {t:TA} {name:Str} {apos cpos:Pos} {T id:String} {r:V→?W}
theorem Zri (pa:PlainAttrs T) (slot:Slot T name id) (hty:typeOf (.builtin id)=pure (.type "method_descriptor")) (hm:MtR X id r) (ho:PE X o to)
 (hbase:attributeBase o name X.env (eval o X.env)=eval o X.env:=by rfl) (hline:(apos.endLine == cpos.line)=true:=by rfl):PE X (.Call (.Attribute o name apos) [] [] cpos) (tBM0 X.K T r to):=by
 intro pins s σ H Q I h;refine wpAny_Call_method0_late hbase hline (thn (ho pins s σ H _ I h) fun v s1 ⟨x,H1,I1,r1,ty,q1⟩=>?_);obtain ⟨h1,h2⟩:=Zq8 I1 r1 ty;exact ⟨T,id,pa,slot,hty,h1,h2,Calls.callWith_builtin rfl (PySem.evalArgs_none (hm pins s1 σ H1 x [] v [] Q I1 r1 .nil q1))⟩
theorem Zg4 (pa:PlainAttrs T) (slot:Slot T name id) (hty:typeOf (.builtin id)=pure (.type "method_descriptor")) (hm:MtR X id r) (ho:PE X o to) (ha:PA X (e :: es) t)
 (hbase:attributeBase o name X.env (eval o X.env)=eval o X.env:=by rfl)
 (hfew:((backTo cpos (starEach (e :: es) X.env)).all (fun x=>!x.1)&&(backToKw cpos (keywordEach [] X.env)).all (fun x=>x.1.isSome)
   && decide ((e :: es).length+([]:List Keyword).length+(if ([]:List Keyword).isEmpty then 0 else 1)<30))=true:=by rfl)
 (hline:(apos.endLine == cpos.line)=true:=by rfl) (hs:starEach (e :: es) X.env=(false,eval e X.env) :: starEach es X.env:=by rfl) (hplain:(backTo cpos (starEach es X.env)).any (·.1)=false:=by rfl) :
 PE X (.Call (.Attribute o name apos) (e :: es) [] cpos) (tBM X.K T r to t):=by
 intro pins s σ H Q I h;refine wpAny_Call_method_late hbase hfew hline rfl (thn (ho pins s σ H _ I h) fun v s1 ⟨x,H1,I1,r1,ty,q1⟩=>?_);obtain ⟨h1,h2⟩:=Zq8 I1 r1 ty;refine ⟨T,id,pa,slot,hty,h1,h2,?_⟩;have hA:=ha cpos pins s1 σ H1 _ I1 q1;rw [hs] at hA ⊢;refine Calls.callWith_builtin (by show (false||(backTo cpos (starEach es X.env)).any (·.1))=false;rw [hplain]<;>rfl) (Calls.evalArgs_plain ?_);exact thn hA fun us s2 ⟨vs,H2,I2,r2,q2⟩=>hm pins s2 σ H2 x vs v us Q I2 r1 r2 q2
/- xs.append(e),list.index on a module's tuple .. are MtR facts of 06m -/
end
def MtM (X:Cx) (id:String) (r:V→?W):Prop :=
 ∀ (pins:?B) (s:Shared) (σ:St) (H:Hp) (x:V) (xs:List V) (v:Value) (us:?t) (Q:VK),?s→RelV x v→Vals xs us→r x xs H Q →
   wpAny ?A X.A (call (.builtin id) (v :: us)) (EP X pins σ Q) X.xe s
theorem Vals.one {x:V} (h:Vals [x] us):∃ u,us=[u]∧RelV x u:=by
 cases h with
 | cons r h=>cases h;exact ⟨_,rfl,r⟩
theorem Vals.eraseIdx:∀ {xs:List V} {us:?t} (i:Nat),Vals xs us→Vals (xs.eraseIdx i) (us.eraseIdx i)
 | _,_,_,.nil=>.nil
 | _,_,0,.cons _ t=>t
 | _,_,i+1,.cons r t=>.cons r (Vals.eraseIdx i t)
theorem Vals.rep (h:Vals xs us):∀ k:Nat,Vals (List.replicate k xs).flatten (List.replicate k us).flatten
 | 0=>.nil
 | k+1=>by
   rw [n83_,n83_,List.flatten_cons,List.flatten_cons];exact Vals.append h (Vals.rep h k)
theorem Zhh:∀ (l:List α) (i:Nat),(l.eraseIdx i).length≤l.length
 | [],_=>n7_ _
 | _ :: _,0=>Nat.le_succ _
 | _ :: r,i+1=>Nat.succ_le_succ (Zhh r i)
theorem Zb6 (its:?t):∀ (k:Nat) (acc:?t),
 List.foldl (fun x1 x2=>x1++x2) acc.toArray (List.replicate k its.toArray)=(acc++(List.replicate k its).flatten).toArray
 | 0,acc=>by simp
 | k+1,acc=>by
   have e:acc.toArray++its.toArray=(acc++its).toArray:=by simp
   have e2:(acc++its)++(List.replicate k its).flatten=acc++(List.replicate (k+1) its).flatten:=by
    rw [n83_,List.flatten_cons,List.append_assoc]
   rw [← e2,← Zb6 its k (acc++its),← e,n83_,List.foldl_cons]
section
variable {X:Cx} {pins:?B} {σ:St} {H:Hp} {s:Shared} {l b:Addr} {xs ys zs:List V}
theorem Inv.lset {its':?t} {f:?L→?L} (I:?s) (hH:H l=some (.lst xs))
 (e:s.heap.get? l=some { cls:=.type "list",data:=.seq its.toArray n }) (hf:f its.toArray=its'.toArray) (hv:Vals ys its') (hz:ys.length≤sizeLine) :
 Inv X pins σ (upd H l (.lst ys)) { s with heap:=s.heap.update l (Obj.mapSeq f),toks:=t' }:=by
 have q:=PySem.IsL.update e f;rw [hf] at q;refine I.write (x:=l) (e:=l) (by rw [hH];exact trivial) (.inl rfl) (fun b' u hb hu=>(Heap.get?_update_other s.heap (Obj.mapSeq f) (Ne.symm hb)).trans hu) ⟨_,q⟩ ?_;exact ⟨hz,its',_,hv,q⟩
theorem Inv.lnew (I:?s) (hv:Vals ys its) (hz:ys.length≤sizeLine) :
 Inv X pins σ (upd H s.z (.lst ys)) { s with heap:=s.heap.push { cls:=.type "list",data:=.seq its.toArray },toks:=t' } :=
 I.laid (fun _ _ q=>n2_ _ q) (n7_ _) ⟨hz,its,0,hv,n8_ _ rfl⟩
theorem Inv.fresh (I:?s):H s.z=none:=I.hok.fresh (n7_ _)
theorem Inv.lstM (I:?s) (hH:H l=some (.lst xs)):xs.length≤sizeLine∧∃ (its:?t) (n:Nat),Vals xs its∧xs.length=its.length∧s.heap.get? l=some { cls:=.type "list",data:=.seq its.toArray n }:=by
 obtain ⟨z,its,n,r,e⟩:=I.hok l _ hH;exact ⟨z,its,n,r,r.length,e⟩
theorem Zp4 (h:n≤sizeLine):Builtin.List.listTooLong n=false:=by
 unfold Builtin.List.listTooLong;exact n35_ (?d)
end
section
variable {X:Cx}
inductive BxRAppend (x:V) (vs:List V) (H:Hp) (Q:VK):Prop
 | mk (l:_) (xs:_) (y:_) (q1:x=.ref l) (q2:vs=[y]) (q3:H l=some (.lst xs)) (q4:xs.length<sizeLine) (q5:Q .non (upd H l (.lst (xs++[y])))):BxRAppend x vs H Q
def Zsf:V→?W:=fun x vs H Q=>BxRAppend x vs H Q
theorem Xi:MtM X "list.append" Zsf:=by
 intro pins s σ H x vs v us Q I rx rv h;obtain ⟨l,xs,y,rfl,rfl,hH,hz,q⟩:=h;cases rx
 obtain ⟨u,rfl,ru⟩:=rv.one;obtain ⟨z,its,n,r,hl,e⟩:=I.lstM hH;refine call_meets F.slot_list_append ⟨_,e,rfl⟩ F.entry_list_append (F.args_list_append_2 _ _) (PySem.list_append l its.toArray n u (by rw [n11_];omega)) ⟨e,?_⟩;refine ⟨.non,_,I.lset (its':=its++[u]) hH e ?f (r.append (.cons ru .nil)) ?_,rfl,q⟩;rw [n33_,List.length_singleton];omega
inductive BxRPopAt (x:V) (vs:List V) (H:Hp) (Q:VK):Prop
 | mk (l:_) (xs:_) (i:_) (k:_) (y:_) (q1:x=.ref l) (q2:vs=[.int i]) (q3:H l=some (.lst xs)) (q4:-(2^63)≤i) (q5:i<2^63) (q6:seqIndex? i xs.length=some k) (q7:xs[k]? = some y) (q8:Q y (upd H l (.lst (xs.eraseIdx k)))):BxRPopAt x vs H Q
def Zv0:V→?W:=fun x vs H Q=>BxRPopAt x vs H Q
theorem Zo6:MtM X "list.pop" Zv0:=by
 intro pins s σ H x vs v us Q I rx rv h;obtain ⟨l,xs,i,k,y,rfl,rfl,hH,h1,h2,hk,hy,q⟩:=h;cases rx
 obtain ⟨u,rfl,ru⟩:=rv.one;obtain ⟨t,rfl⟩:=ru;obtain ⟨z,its,n,r,hl,e⟩:=I.lstM hH;obtain ⟨w,hw,rw'⟩:=r.get hy
 refine call_meets F.slot_list_pop ⟨_,e,rfl⟩ F.entry_list_pop (F.args_list_pop_2 _ _)
  (MeetsSeq.list_pop_at l its.toArray n i t k w (fitsIndex_both h1 h2) (by rw [n11_,← hl];exact hk) (by rw [← Array.getElem?_toList];exact hw) (by rw [n11_];omega)) ⟨e,?_⟩
 refine ⟨y,_,I.lset (its':=its.eraseIdx k) hH e ?_ (r.eraseIdx k) ?_,rw',q⟩
 · show its.toArray.eraseIdxIfInBounds k=(its.eraseIdx k).toArray
   rw [List.eraseIdxIfInBounds_toArray]
 · have:=Zhh xs k
   omega
inductive BxRCat (x y:V) (H:Hp) (Q:VK):Prop
 | mk (l:_) (b:_) (xs:_) (zs:_) (q1:x=.ref l) (q2:y=.ref b) (q3:H l=some (.lst xs)) (q4:H b=some (.lst zs)) (q5:xs.length+zs.length≤sizeLine) (q6:∀ p,H p=none→Q (.ref p) (upd H p (.lst (xs++zs)))):BxRCat x y H Q
def rCat:R2:=fun x y H Q=>BxRCat x y H Q
theorem Zqv:OpR X (binaryOp .Add) rCat:=by
 intro pins s σ H x y v u Q I rx ry h;obtain ⟨l,b,xs,zs,rfl,rfl,hH,hB,hz,q⟩:=h;cases rx
 cases ry
 obtain ⟨z,its,n,r,hl,e⟩:=I.lstM hH;obtain ⟨z2,its2,n2,r2,hl2,e2⟩:=I.lstM hB;refine PySem.P.add_list e e2 ?_ (by rw [n11_,n11_];omega);have ea:its.toArray++its2.toArray=(its++its2).toArray:=by simp
 rw [ea];exact ⟨.ref _,_,I.lnew (t':=s.toks) (r.append r2) (by rw [n33_];omega),rfl,q _ I.fresh⟩
inductive BxRRep (x y:V) (H:Hp) (Q:VK):Prop
 | mk (l:_) (k:_) (xs:_) (q1:x=.ref l) (q2:y=.int k) (q3:H l=some (.lst xs)) (q4:-(2^63)≤k) (q5:k<2^63) (q6:xs.length*k.toNat≤sizeLine) (q7:∀ p,H p=none→Q (.ref p) (upd H p (.lst (List.replicate k.toNat xs).flatten))):BxRRep x y H Q
def rRep:R2:=fun x y H Q=>BxRRep x y H Q
theorem Zij (xs:List α) (k:Nat):(List.replicate k xs).flatten.length=k*xs.length:=by
 induction k with
 | zero=>simp
 | succ k ih=>rw [n83_,List.flatten_cons,n33_,ih,Nat.succ_mul,Nat.add_comm]
theorem Zmm:OpR X (binaryOp .Mult) rRep:=by
 intro pins s σ H x y v u Q I rx ry h;obtain ⟨l,k,xs,rfl,rfl,hH,h1,h2,hz,q⟩:=h;cases rx
 obtain ⟨t,rfl⟩:=ry;obtain ⟨z,its,n,r,hl,e⟩:=I.lstM hH;have hlen:its.toArray.size*k.toNat≤sizeLine:=by rw [n11_,← hl];exact hz
 have hcap:¬ its.toArray.size*k.toNat>(2^63-1)/8:=by
  have:(sizeLine:Nat)≤(2^63-1)/8:=?k
  omega
 have hfit:¬ (!Builtin.List.listFitsIndex k)=true:=by
  rw [fitsIndex_both h1 h2];exact n27_
 have hlong:¬ Builtin.List.listTooLong (its.toArray.size*k.toNat)=true:=by
  rw [Zp4 hlen];exact n27_
 have hnew:List.foldl (fun x1 x2=>x1++x2) #[] (List.replicate (if its.toArray.isEmpty=true then 0 else k.toNat) its.toArray)=(List.replicate k.toNat its).flatten.toArray:=by
  have f0:∀ m:Nat,List.foldl (fun x1 x2=>x1++x2) #[] (List.replicate m its.toArray)=(List.replicate m its).flatten.toArray:=fun m=>by
   have:=Zb6 its m []
   rw [n61_] at this;exact this
  rw [f0];cases its with
  | nil=>simp
  | cons a r'=>rw [if_neg ?f]
 refine wpAny_binaryOp_repeat_ref (T := "list") (U := "int") ?e ⟨_,e,rfl⟩ (fun s'=>typeIs_int s' k t) noFill_list_mul F.fills_int_mul F.slot_int_rmul repeat_list F.slot_int_index.lookup
  (call_meets F.slot_int_rmul (typeIs_int s k t) F.entry_int_rmul (F.args_int_rmul_2 _ _) (int___rmul___int_list k t l its.toArray n)
    ⟨e,rfl,⟨_,e,rfl⟩,call_meets F.slot_list_mul ⟨_,e,rfl⟩ F.entry_list_mul (F.args_list_mul_2 _ _) (AutoListH.list___mul___list_int_3 l its.toArray n k t hfit hcap hlong) ⟨e,?_⟩⟩)
 rw [hnew];exact ⟨.ref _,_,I.lnew (t':=s.toks) (r.rep k.toNat) (by rw [Zij,Nat.mul_comm];exact hz),rfl,q _ I.fresh⟩
end
section
variable {prog:Program} {w:World} {A:Around} {E:Value→?j} {s:Shared}
set_option maxRecDepth 100000 in
end
section
variable {X:Cx}
end
end L2
namespace Att
open PySem PySem.W PySem.Calls PyProof.Rows
theorem Zd4 {P:Params} {h:Heap}:∀ (ns:?g) (vs:?t),WellAll P h vs (ns.map WData.int)→IntsAre vs ns:=by
 intro ns
 induction ns with
 | nil =>
   intro vs w;rw [n70_] at w;cases w
   exact .nil
 | cons n ns ih =>
   intro vs w;rw [n19_] at w;cases w with
   | cons a b =>
     cases a
     exact .cons _ _ (ih _ b)
theorem Zom {l:OpenLaw} {n:Nat} (hn:l.most=some n) {P:Params} {h:Heap} {args:List WData} {vals:?t}
 (hpre:l.row.toRowW.claim.pre args=true) (hwl:WellAll P h vals args) :
 ∃ a vs ns,vals=[Value.ref a]∧args=[WData.list (ns.map WData.int)]∧h.get? a=some { cls:=.type "list",data:=.seq vs.toArray }∧IntsAre vs ns∧ns.length≤n:=by
 have hsh:WShape.hasAll [] args [.list .int]=true:=(pre_splitW hpre).1;have hc:l.pre.holds [] { args:=args }=true:=(pre_splitW hpre).2;obtain ⟨d,r,rfl,h1,h2⟩:=hasAllW_cons hsh;obtain rfl:=hasAllW_nil h2;obtain ⟨xs,rfl,h3⟩:=hasW_list h1;obtain ⟨ns,rfl⟩:=items_int h3
 have hlen:ns.length≤n:=by
  unfold OpenLaw.pre at hc
  have h4:(WTm.not (.lt (.lit (.int (n:Int))) (.len (.arg 0)))).holds [] { args:=[.list (ns.map .int)] }=true:=by
   have h4:=(holds_andW hc).1;rw [hn] at h4;exact h4
  have h5:=condW_of h4 (w_not (w_lt w_lit (w_len_list (w_arg rfl))));rw [n3_] at h5;refine Nat.le_of_not_lt fun q=>?_;have q':(n:Int)<((ns.length:Nat):Int):=?d
  first
   | (rw [n44_ q'] at h5;exact absurd h5 ?e)
   | (simp at h5;omega)
 cases hwl with
 | cons w1 w2 =>
   cases w2
   cases w1 with
   | list ho hall=>exact ⟨_,_,ns,rfl,rfl,ho,Zd4 ns _ hall,hlen⟩
theorem Zmb (l:OpenLaw) (args:List WData):l.row.toRowW.claim.post args (.bool true) args=true :=
 postW_of (r:=l.row.toRowW) (X:=(true == true))
  (show WShape.has [] (.bool true) .bool=true by first|rfl|decide|simp [WShape.has,WShape.arms,WShape.armsAll])
  (show (WTm.eq .res (.lit (.bool true))).value [] { args:=args,res:=some (.bool true),after:=args }=some (.bool (true == true)) from w_eq_bool (w_res rfl) w_lit) rfl
theorem attach_call {l:OpenLaw} {n:Nat} {q:Program} {loose:List Str} {XP:(Str→?C)→Heap→Prop} {YP:World→Heap→Prop} {d:DefRec}
 (hn:l.most=some n) (hdf:d.params.defaults=[])
 (call:∀ (w:World) (s₀ s₁:Shared) (mg mb:Str→?C) (fa:Addr) (o:Obj) (pm cd doc:Value) (a:Addr) (vs:?t) (ns:?g),
   Ground q loose [] XP w s₀ mg mb s₁.heap→YP w s₁.heap →
   s₁.heap.get? fa=some o→o.data=.func (docDef d.name d.params d.body d.scope pm cd doc)→s₁.heap.CodeRec cd d.name→mg d.name=some (.ref fa) →
   s₁.heap.get? a=some { cls:=.type "list",data:=.seq vs.toArray }→IntsAre vs ns→ns.length≤n→s₁.gens=#[] →
   codeAny (model l.prog w) callerA (.call (.ref fa) ⟨[.ref a],[]⟩) (fun r s'=>r=.ok (.ret (.bool true))∧OldK s₁.heap s'.heap∧s'.os=s₁.os∧AllBare s'.gens) s₁) :
 WalkO q loose XP YP l.row.toRowW d [] (fun f vs=>PySem.call f vs):=by
 intro w s₀ s₁ mg mb G Y fa o pm cd doc dV kV ho hd hcd hD hmg hg args vals as hpre hlay hrd hwl hlo;obtain rfl:dV=.none:=Dflts.none hD hdf;obtain rfl:kV=.none:=Dflts.noKw hD;obtain ⟨a,vs,ns,rfl,rfl,hobj,hints,hlen⟩:=Zom hn hpre hwl;refine enter_call (codeAny_mono (call w s₀ s₁ mg mb fa o pm cd doc a vs ns G Y ho (fd_plain hd) hcd hmg hobj hints hlen hg) fun r s' hq=>?_);obtain ⟨rfl,h2,h3,h4⟩:=hq;exact ⟨.inl ⟨.bool true,.bool true,[],rfl,fun _=>rfl,.bool true,Zmb l _,fun _=>⟨List.Pairwise.nil,fun _ hm=>(nomatch hm)⟩⟩,h2,h3,h4⟩
section
variable {prog:Program} {w:World} {A:Around} {E:Value→?j} {s:Shared} {K:Frag}
end
end Att
namespace L2
open PySem PySem.Spec PyProof.Rows
variable {a f:Addr} {A:Around} {X:Cx} {fd:FuncData} {H H' H1 H2:Hp} {ns:?g} {N ps:List Str} {xs:List V} {k n:Nat} {pos:Pos} {P:Program} {st:Stmt} {qual x:Str} {w:World}
theorem Zdu {vs:?t} (h:IntsAre vs ns):Vals ?U vs:=by
 induction h with
 | nil=>exact .nil
 | cons n t _ ih=>exact .cons ⟨t,rfl⟩ ih
def Only (H:Hp):Prop:=∀ b,H b=none∨∃ o xs,H b=some (.frz o (.lst xs))
theorem Zpa {K:PySem.W.Frag} {mg mb:Str→?C} {CX:CXT} {fa:Addr} {sp:Sp} {s₁:Shared} {vs:?t}
 (KX:K.In s₁.heap) (hns:s₁.heap.Ns mainGlobals mg) (hb:s₁.heap.Ns builtinsNs mb) (hbb:∀ x:Str,x ≠ "__name__" → mb x=bootBuiltins x) (hlim:s₁.heap.NoLimit) (hsr:s₁.heap.NoSeer) (hdg:s₁.heap.NoDigits) (hg:s₁.gens=#[])
 (ha:s₁.heap.get? a=some { cls:=.type "list",data:=.seq vs.toArray }) (hi:IntsAre vs ns) (hl:ns.length≤sizeLine) (hr:Room k callerA)
 (F:∀ base:Heap,K.In base→base.Ns mainGlobals mg→FnOk P w K mg base CX k fa fd [x] sp) (hbind:∀ (s:Shared) (u:Value),BindsTo s fd ⟨[u],[]⟩ [(x,u)])
 (hsp:∀ H:Hp,Only H→SqL K H a ?U→sp [.ref a] H (fun v _=>v=.bl true) fun _ _ _=>False)
 (hCX:∀ H e s',CX [] H s₁ (fun _ _ _=>False) e s'→False) :
 codeAny (model P w) callerA (.call (.ref fa) ⟨[.ref a],[]⟩) (fun r s'=>r=.ok (.ret (.bool true))∧OldK s₁.heap s'.heap∧s'.os=s₁.os∧AllBare s'.gens) s₁:=by
 have rv:=Zdu hi;have lenV:=hi.length
 have core:∀ H:Hp,Only H→SqL K H a ?U→HOk P w H s₁.heap→(∀ b,H b≠none→b=a)→(H a≠none→K.lookup a=none) →
  codeAny (model P w) callerA (.call (.ref fa) ⟨[.ref a],[]⟩) (fun r s'=>r=.ok (.ret (.bool true))∧OldK s₁.heap s'.heap∧s'.os=s₁.os∧AllBare s'.gens) s₁:=by
  intro H hO hS hok hA hK;have Zeh:∀ {b:Addr} {o:Obj},s₁.heap.get? b=some o→H b=none→(hidT s₁.heap H).get? b=some o:=fun e n=>Zp5 e n
  have noA:∀ {b:Addr} {o:Obj} {es:Array DictEntry} {ep:Nat},s₁.heap.get? b=some o→o.data=.dict es ep→H b=none:=fun {b o es ep} e d=>by
   cases q:H b with
   | none=>rfl
   | some u =>
     have e':b=a:=hA b (by rw [q];simp);subst e';rw [ha] at e;cases e;have d':Data.seq vs.toArray _=Data.dict es ep:=d;cases d'
  have nsK:∀ {b:Addr} {m:Str→?C},s₁.heap.Ns b m→(hidT s₁.heap H).Ns b m:=fun {b m} ⟨o,es,ep,e,d,r⟩=>⟨o,es,ep,Zeh e (noA e d),d,r⟩
  have hKb:K.In (hidT s₁.heap H):=fun b o e=>Zeh (KX b o e) (by
   cases q:H b with
   | none=>rfl
   | some u =>
     have e':b=a:=hA b (by rw [q];simp);subst e';rw [hK (by rw [q];simp)] at e;cases e)
  have sK:(hidT s₁.heap H).NoSeer:=⟨let ⟨mc,a,b⟩:=hsr.statics;⟨mc,nsK a,b⟩,let ⟨mc,a,b⟩:=hsr.mods;⟨mc,nsK a,b⟩,let ⟨mb,a,b⟩:=hsr.imp;⟨mb,nsK a,b⟩,let ⟨mg',bm,ob,a,b,c,d,e⟩:=hsr.main;⟨mg',bm,ob,nsK a,b,Zeh c (by
   cases q:H bm with
   | none=>rfl
   | some u =>
     have e':bm=_:=hA bm (by rw [q];simp);subst e';rw [ha] at c;cases c;exact absurd d ?f),d,e⟩⟩
  have hM:Mod K mg (hidT s₁.heap H):=⟨hKb,nsK hns,⟨mb,nsK hb,hbb⟩,(let ⟨mc,h1,h2⟩:=hlim;⟨mc,nsK h1,h2⟩),sK,(let ⟨mc,h1,h2⟩:=hdg;⟨mc,nsK h1,h2⟩)⟩;have e0:Env0 P w K mg (hidT s₁.heap H) callerA [] s₁ H:=⟨rfl,hM,fun b o e=>Zs5 e,Nat.le_of_eq (Zoo _ _),trivial,fun b hb=>absurd (show b∈([]:List Addr) from hb) ?f,hok,.of_eq hg⟩;refine codeAny_mono ((F _ hKb (nsK hns)).run callerA [] s₁ H ⟨[.ref a],[]⟩ [.ref a] [.ref a] _ _ hr e0 (hbind s₁ (.ref a)) (.cons rfl .nil) (hsp H hO hS)) fun r s' h=>?_;cases r with
  | error e=>exact (hCX H e s' h).elim
  | ok fl =>
    cases fl with
    | next=>exact False.elim h
    | brk=>exact False.elim h
    | cont=>exact False.elim h
    | ret u =>
      obtain ⟨v,H',os,bare,un,hok',r',q⟩:=h;have q':v=.bl true:=q;subst q';obtain rfl:u=Value.bool true:=r';refine ⟨rfl,OldK.of_keep fun b o e=>?_,os,bare⟩;cases q:H b with
      | none=>exact un.keep b o e q (by intro z;exact absurd (show b∈([]:List Addr) from z) ?f) ?f
      | some u =>
        rcases hO b with z|⟨ob,xs,z⟩
        · rw [q] at z;cases z
        · have z2:=un.frzs b ob _ z;obtain ⟨e1,_⟩:=hok b _ z;obtain ⟨e2,_⟩:=hok' b _ z2;rw [e] at e1;cases e1;exact e2
 cases hk:K.lookup a with
 | some o =>
   have e:=KX a o hk;rw [ha] at e;cases e
   refine core (fun _=>none) (fun _=>.inl rfl) (.inr ⟨_,vs.toArray,_,hk,rfl,rfl,rfl,by rw [n11_,lenV];exact hl,by simpa using rv⟩) (fun b u z=>by have z':(none:Option HO)=some u:=z;cases z') (fun b z=>absurd rfl z) fun z=>absurd rfl z
 | none =>
   refine core (fun b=>if b=a then some (.frz { cls:=.type "list",data:=.seq vs.toArray } (.lst ?U)) else none) (fun b=>?_) (.inl (.inr ⟨{ cls:=.type "list",data:=.seq vs.toArray },if_pos rfl⟩)) (fun b u z=>?_) (fun b z=>?_) fun _=>hk
   · by_cases hb:b=a
     · exact .inr ⟨_,_,if_pos hb⟩
     · exact .inl (if_neg hb)
   · by_cases hb:b=a
     · have z':=(if_pos hb).symm.trans z;cases z'
       subst hb;exact ⟨ha,by rw [n3_];exact hl,vs,_,rv,ha⟩
     · have z':=(if_neg hb).symm.trans z;cases z'
   · by_cases hb:b=a
     · exact hb
     · exact absurd (if_neg hb) z
theorem Zrv {l:PySem.W.OpenLaw} {q:Program} {loose:List Str} {XP:(Str→?C)→Heap→Prop} {YP:World→Heap→Prop} {d:DefRec} {K:Params→PySem.W.Frag} {CX:World→CXT} {sp:World→Sp}
 (hn:l.most=some n) (hn2:n≤sizeLine) (hdf:d.params.defaults=[]) (hr:Room k callerA)
 (hY:∀ (w:World) (h:Heap),YP w h→(K w.params).In h)
 (F:∀ (w:World) (mg:Str→?C) (fa:Addr) (h:Heap),(K w.params).In h→h.Ns mainGlobals mg→mg d.name=some (.ref fa) →
   ∃ fd:FuncData,(∀ (s:Shared) (u:Value),BindsTo s fd ⟨[u],[]⟩ [(x,u)]) ∧
     ∀ base:Heap,(K w.params).In base→base.Ns mainGlobals mg→FnOk l.prog w (K w.params) mg base (CX w) k fa fd [x] (sp w))
 (hsp:∀ (w:World) (H:Hp) (a:Addr) (ns:?g),ns.length≤n→Only H→SqL (K w.params) H a ?U→sp w [.ref a] H (fun v _=>v=.bl true) fun _ _ _=>False)
 (hCX:∀ (w:World) (H:Hp) (s:Shared) (e:Value) (s':Shared),CX w [] H s (fun _ _ _=>False) e s'→False) (him:importsNone q=true:=by decide +kernel) :
 PySem.W.WalkO q loose XP YP l.row.toRowW d [] (fun f vs=>PySem.call f vs):=by
 refine Att.attach_call hn hdf fun w s₀ s₁ mg mb fa o pm cd doc a vs ns G Y ho hd hcd hmg hobj hints hlen hg=>?_;have KX:=hY w _ Y;obtain ⟨fd,hb,hF⟩:=F w mg fa _ KX G.T.g hmg;exact Zpa KX G.T.g G.T.b G.T.builtins G.T.nolimit (G.T.seer him) G.T.nodigits hg hobj hints (n31_ hlen hn2) hr hF hb (fun H hO hS=>hsp w H a ns hlen hO hS) fun H e s'=>hCX w H s₁ e s'
noncomputable def Xa (s:Stmt):Arguments:=match s with
 | .FunctionDef _ a _ _ _ _ _ _ _ _=>a
 | _=>{ posonlyargs:=[],args:=[],vararg:=none,kwonlyargs:=[],kw_defaults:=[],kwarg:=none,defaults:=[] }
def Yv (s:Stmt):List Stmt:=match s with
 | .FunctionDef _ _ b _ _ _ _ _ _ _=>b
 | _=>[]
noncomputable def Zf (s:Stmt):Scope:=match s with
 | .FunctionDef _ _ _ _ _ _ sc _ _ _=>sc
 | _=>{ kind:=.function,names:=[],isGenerator:=false,isCoroutine:=false }
abbrev CX0:CXT:=fun _ _ _ _ _ _=>False
abbrev E0:XK:=fun _ _ _=>False
theorem Zsn:Zj5 CX0 X E0:=fun _ _ _ _ _ _ _ h=>h.elim
structure Fun (K:PySem.W.Frag) (x qual:Str) (st:Stmt) (f:Addr) (fd:FuncData):Prop where
 ex:∃ (oc:Value) (od:Option Addr) (kV doc pm:Value) (an:Option Addr) (cdv ct:Value) (osl:Array (?C)),
  fd=PySem.W.fnOf x qual (Xa st) (Yv st) (Zf st) .none kV doc pm an cdv ct∧K.lookup f=some ⟨oc,od,.func fd,osl⟩∧PySem.W.codeIn K cdv qual=true
 kp:PySem.W.keepIn K (.ref f)=true
section
variable {P:Program} {w:World} {K:PySem.W.Frag} {mg:Str→?C} {base:Heap}
theorem Fun.ok {sp:Sp} (F:Fun K x qual st f fd) (S:FnScope N ps (Zf st)) (len:∀ vs H Q E,sp vs H Q E→vs.length=ps.length)
 (hbody:∀ (cdv:Value) (A:Around) (outer:List Env) (s:Shared) (H:Hp) (vs:List V) (Q:VK) (E:XK),Room k (A.deeper (envOfC qual (Zf st) s.z f cdv))→sp vs H Q E →
   ∃ t,PSs (cxOf CX0 P w K mg base N qual (Zf st) f cdv A outer s H E).nox (Yv st) t∧t { nx:=fun _ H'=>Q .non H',rt:=Q } (Za4 N vs) H):FnOk P w K mg base CX0 (k+1) f fd ps sp:=by
 obtain ⟨oc,od,kV,doc,pm,an,cdv,ct,osl,rfl,lk,hcd⟩:=F.ex;refine Zur lk hcd S len fun A outer s H vs Q E hr hsp=>?_;obtain ⟨t,h,q⟩:=hbody cdv A outer s H vs Q E hr hsp;exact ⟨t,h.nox,q⟩
theorem Fun.binds (F:Fun K x qual st f fd)
 (h:∀ (kV doc pm:Value) (an:Option Addr) (cdv ct:Value) (us:?t),us.length=ps.length→bindArgs (PySem.W.fnOf x qual (Xa st) (Yv st) (Zf st) .none kV doc pm an cdv ct) ⟨us,[]⟩=pure (ps.zip us)):Binds K fd ps []:=by
 obtain ⟨oc,od,kV,doc,pm,an,cdv,ct,osl,rfl,lk,hcd⟩:=F.ex;exact .all (h kV doc pm an cdv ct)
theorem Zq5 {oc:Value} {od an:Option Addr} {osl:Array (?C)} {kV doc pm cdv ct:Value} (l:K.lookup f=some ⟨oc,od,.func (PySem.W.fnOf x qual (Xa st) (Yv st) (Zf st) .none kV doc pm an cdv ct),osl⟩)
 (c:PySem.W.codeIn K cdv qual=true) (k:PySem.W.keepIn K (.ref f)=true):Fun K x qual st f (PySem.W.fnOf x qual (Xa st) (Yv st) (Zf st) .none kV doc pm an cdv ct):=⟨⟨oc,od,kV,doc,pm,an,cdv,ct,osl,rfl,l,c⟩,k⟩
end
theorem Zlq (hr:Room k A):A.units+1<cLine:=n14_ (Nat.add_le_add_left (?k:1≤64) _) hr.units
section
variable {X:Cx}
theorem pv (i:Nat) (hN:X.N[i]? = some x:=by rfl) (hv:Vis X.env.scope x:=by first|exact Or.inl rfl|exact Or.inr ?o|exact Or.inr (Or.inr rfl)) (hd:?af=false:=by decide)
 (hcd:(x == ("__classdict__" : Str))=false:=by decide):PE X (.Name x pos) (tVar i):=Zt4 hN hv hd hcd
end
theorem iteF {A B:Prop} (h:B):if false=true then A else B:=by
 rw [if_neg n27_];exact h
theorem iteT {A B:Prop} (h:A):if true=true then A else B:=by
 rw [if_pos rfl];exact h
theorem ite2 {c A B:Prop} [Decidable c] (h1:c→A) (h2:¬ c→B):if c then A else B:=by
 by_cases h:c
 · rw [if_pos h];exact h1 h
 · rw [if_neg h];exact h2 h
def Same (H H':Hp):Prop:=∀ b o,H b=some o→H' b=some o
theorem Same.refl (H:Hp):Same H H:=fun _ _ h=>h
theorem Same.trans (a:Same H H1) (b:Same H1 H2):Same H H2:=fun c o h=>b c o (a c o h)
theorem Same.seq {K:PySem.W.Frag} (e:?H) (h:SqL K H a xs):SqL K H' a xs:=by
 rcases h with (h|⟨o,h⟩)|h
 · exact .inl (.inl (e _ _ h))
 · exact .inl (.inr ⟨o,e _ _ h⟩)
 · exact .inr h
end L2
namespace FM
def sg (t b:Int):Int:=if b<0 then -(Int.gcd t b:Int) else (Int.gcd t b:Int)
theorem gcd_ne {t b:Int} (h:b≠0):(Int.gcd t b:Int)≠0:=by
 intro e
 have:=Int.gcd_eq_zero_iff.mp (Int.ofNat.inj e)
 exact h this.2
theorem sg_ne {t b:Int} (h:b≠0):sg t b≠0:=by
 have:=gcd_ne (t:=t) h
 unfold sg;split<;>omega
theorem fdiv_mul {c k:Int} (h:k≠0):(c*k).fdiv k=c:=Int.mul_fdiv_cancel c h
theorem fdiv_num {t b:Int} (h:b≠0):t.fdiv (sg t b)=(Rat.divInt t b).num:=by
 rw [Rat.num_divInt];obtain ⟨c,hc⟩:=Int.gcd_dvd_left t b;have hg:=gcd_ne (t:=t) h;have e:(b.gcd t:Int)=(t.gcd b:Int):=by rw [Int.gcd_comm]
 rw [e];unfold sg
 rcases Int.lt_or_gt_of_ne h with hb|hb
 · rw [if_pos hb,Int.sign_eq_neg_one_of_neg hb];generalize (t.gcd b:Int)=g at *;subst hc;rw [show g*c=(-c)*(-g) by rw [Int.neg_mul_neg,n81_],fdiv_mul (?d)];rw [show (-1:Int)*((-c)*(-g))=(-c)*g by rw [Int.neg_mul_neg,Int.neg_mul,Int.one_mul,Int.neg_mul],Int.mul_ediv_cancel _ hg]
 · rw [if_neg (?d),Int.sign_eq_one_of_pos hb,Int.one_mul];generalize (t.gcd b:Int)=g at *;subst hc;rw [n81_,fdiv_mul hg,Int.mul_ediv_cancel _ hg]
theorem fdiv_den {t b:Int} (h:b≠0):b.fdiv (sg t b)=((Rat.divInt t b).den:Int):=by
 rw [Rat.den_divInt,if_neg h];obtain ⟨c,hc⟩:=Int.gcd_dvd_right t b;have hg:=gcd_ne (t:=t) h;have e:b.gcd t=t.gcd b:=by rw [Int.gcd_comm]
 rw [e,Int.natCast_ediv];unfold sg
 rcases Int.lt_or_gt_of_ne h with hb|hb
 · rw [if_pos hb,Int.ofNat_natAbs_of_nonpos (?d)];generalize (t.gcd b:Int)=g at *;subst hc;rw [show g*c=(-c)*(-g) by rw [Int.neg_mul_neg,n81_],fdiv_mul (?d)];rw [show -((-c)*(-g))=(-c)*g by rw [Int.neg_mul_neg,Int.neg_mul],Int.mul_ediv_cancel _ hg]
 · rw [if_neg (?d),Int.natAbs_of_nonneg (?d)];generalize (t.gcd b:Int)=g at *;subst hc;rw [n81_,fdiv_mul hg,Int.mul_ediv_cancel _ hg]
theorem low_num {t b:Int} (h:b≠0):(if 0<b then t.fdiv (Int.gcd t b:Int) else 0-t.fdiv (Int.gcd t b:Int))=(Rat.divInt t b).num:=by
 rw [← fdiv_num h];have hg:=gcd_ne (t:=t) h;obtain ⟨c,hc⟩:=Int.gcd_dvd_left t b;unfold sg
 by_cases hb:0<b
 · rw [if_pos hb,if_neg (?d)]
 · rw [if_neg hb,if_pos (?d)];generalize (t.gcd b:Int)=g at *;subst hc;rw [show g*c=c*g by simp [n81_],fdiv_mul hg];rw [show c*g=(-c)*(-g) by rw [Int.neg_mul_neg],fdiv_mul (?d)];omega
theorem low_den {t b:Int} (h:b≠0):(b.natAbs:Int).fdiv (Int.gcd t b:Int)=((Rat.divInt t b).den:Int):=by
 rw [← fdiv_den h];have hg:=gcd_ne (t:=t) h;obtain ⟨c,hc⟩:=Int.gcd_dvd_right t b;unfold sg
 by_cases hb:b<0
 · rw [if_pos hb,Int.ofNat_natAbs_of_nonpos (?d)];generalize (t.gcd b:Int)=g at *;subst hc;rw [show g*c=(-c)*(-g) by rw [Int.neg_mul_neg,n81_],fdiv_mul (?d)];rw [show -((-c)*(-g))=(-c)*g by rw [Int.neg_mul_neg,Int.neg_mul],fdiv_mul hg]
 · rw [if_neg hb,Int.natAbs_of_nonneg (?d)]
theorem gcd_fmod {a b:Int} (h:b≠0):Int.gcd b (a.fmod b)=Int.gcd a b:=by
 have e:a.fmod b=a-b*a.fdiv b:=by have:=Int.mul_fdiv_add_fmod a b;omega
 rw [e,Int.gcd_comm a b]
 have:=Int.gcd_sub_mul_left_right b a (a.fdiv b)
 first|exact this|(rw [← this])|simpa using this
theorem fmod_abs_lt {a b:Int} (h:b≠0):(a.fmod b).natAbs<b.natAbs:=by
 rcases Int.lt_or_gt_of_ne h with hb|hb
 · have e:a.fmod b = -((-a).fmod (-b)):=by
    have:=Int.neg_fmod_neg a b
    omega
   have h1:=n73_ (-a) (show (0:Int) < -b by omega);have h2:=n92_ (-a) (show (0:Int) < -b by omega);omega
 · have h1:=n73_ a hb;have h2:=n92_ a hb;omega
def B (n:Nat) (q:Rat):Prop:=q.num.natAbs<2^n∧q.den<2^n
theorem B.mono {n m:Nat} {q:Rat} (h:B n q) (l:n≤m):B m q :=
 ⟨n9_ h.1 (n25_ ?e l),n9_ h.2 (n25_ ?e l)⟩
theorem natAbs_mul_lt {a b:Int} {n m:Nat} (h1:a.natAbs<2^n) (h2:b.natAbs<2^m):(a*b).natAbs<2^(n+m):=by
 rw [n53_,Nat.pow_add];exact Nat.mul_lt_mul'' h1 h2
theorem Zgl (t:Int) {b:Int} (h:b≠0):(Rat.divInt t b).num.natAbs≤t.natAbs:=by
 rw [Rat.num_divInt]
 have hs:(b.sign*t).natAbs≤t.natAbs:=by
  rw [n53_]
  have:b.sign.natAbs≤1:=by
   rcases Int.lt_trichotomy b 0 with z|z|z
   · rw [Int.sign_eq_neg_one_of_neg z];decide
   · omega
   · rw [Int.sign_eq_one_of_pos z];decide
  calc b.sign.natAbs*t.natAbs≤1*t.natAbs:=Nat.mul_le_mul_right _ this
   _=t.natAbs:=Nat.one_mul _
 obtain ⟨c,hc⟩:∃ c,b.sign*t=(b.gcd t:Int)*c:=by
  obtain ⟨c,hc⟩:=Int.gcd_dvd_right b t;refine ⟨b.sign*c,?_⟩;rw [← Int.mul_assoc,n81_ (b.gcd t:Int) b.sign,Int.mul_assoc,← hc]
 have hg:(b.gcd t:Int)≠0:=by
  intro e;exact h (Int.gcd_eq_zero_iff.mp (Int.ofNat.inj e)).1
 rw [hc,Int.mul_ediv_cancel_left _ hg]
 have:c.natAbs≤(b.sign*t).natAbs:=by
  rw [hc,n53_]
  have:1≤(b.gcd t:Int).natAbs:=?d
  calc c.natAbs=1*c.natAbs:=(Nat.one_mul _).symm
   _≤_:=Nat.mul_le_mul_right _ this
 omega
theorem Zf0 (t:Int) {b:Int} (h:b≠0):(Rat.divInt t b).den≤b.natAbs:=by
 rw [Rat.den_divInt,if_neg h];exact Nat.div_le_self _ _
theorem B_divInt {n:Nat} {t b:Int} (h:b≠0) (h1:t.natAbs<2^n) (h2:b.natAbs<2^n):B n (Rat.divInt t b) :=
 ⟨n14_ (Zgl t h) h1,n14_ (Zf0 t h) h2⟩
theorem den_ne (q:Rat):(q.den:Int)≠0:=by have:=q.den_nz;omega
theorem den_pos (q:Rat):(0:Int)<q.den:=by have:=q.den_nz;omega
theorem add_eq (p q:Rat):Rat.divInt (p.num*q.den+q.num*p.den) (p.den*q.den)=p+q:=by
 have:=Rat.divInt_add_divInt p.num q.num (den_ne p) (den_ne q)
 rw [n90_,n90_] at this;exact this.symm
theorem mul_eq (p q:Rat):Rat.divInt (p.num*q.num) (p.den*q.den)=p*q:=by
 have:=Rat.divInt_mul_divInt p.num q.num (d₁:=p.den) (d₂:=q.den)
 rw [n90_,n90_] at this;exact this.symm
theorem mul_ne {p q:Rat}:(p.den:Int)*q.den≠0:=Int.mul_ne_zero (den_ne p) (den_ne q)
theorem B_add {n m:Nat} {p q:Rat} (hp:B n p) (hq:B m q):B (n+m+1) (p+q):=by
 rw [← add_eq];refine B_divInt mul_ne ?_ ?_
 · have h1:=natAbs_mul_lt hp.1 (show (q.den:Int).natAbs<2^m from hq.2);have h2:=natAbs_mul_lt hq.1 (show (p.den:Int).natAbs<2^n from hp.2);have h3:=Int.natAbs_add_le (p.num*q.den) (q.num*p.den);rw [Nat.add_comm m n] at h2;rw [Nat.pow_succ];omega
 · have h1:=natAbs_mul_lt (show (p.den:Int).natAbs<2^n from hp.2) (show (q.den:Int).natAbs<2^m from hq.2);rw [Nat.pow_succ];omega
theorem B_mul {n m:Nat} {p q:Rat} (hp:B n p) (hq:B m q):B (n+m) (p*q):=by
 rw [← mul_eq];exact B_divInt mul_ne (natAbs_mul_lt hp.1 hq.1) (natAbs_mul_lt (show (p.den:Int).natAbs<2^n from hp.2) (show (q.den:Int).natAbs<2^m from hq.2))
theorem gcd_one (q:Rat):Int.gcd q.num q.den=1:=by
 have:=q.reduced
 unfold Nat.Coprime at this
 simpa [Int.gcd] using this
theorem Zly {a b:Int} (hb:0<b) (h:Int.gcd a b=1):(Rat.divInt a b).num=a∧((Rat.divInt a b).den:Int)=b:=by
 rw [Rat.num_divInt,Rat.den_divInt,if_neg (?d),Int.gcd_comm b a,h,Int.sign_eq_one_of_pos hb];constructor
 · simp
 · simp;omega
theorem whole (a:Int):(Rat.divInt a 1).num=a∧((Rat.divInt a 1).den:Int)=1:=Zly ?e ?f
end FM
namespace L2
open PySem PySem.Spec PyProof.Rows
variable {C D a f it l:Addr} {A:Around} {X:Cx} {env:Env} {e tg:Expr} {fd:FuncData} {h h':Heap} {H H' H1 H2:Hp} {pins:?B} {fr:List (Option Nat)} {cl:List (Str×Addr)} {fp:List Addr} {N ps:List Str} {M:Model} {i k n:Nat} {o:Obj} {p pos:Pos} {P:Program} {scope:Scope} {s s3:Shared} {σ:St} {st:Stmt} {qual x:Str} {ta:TA} {te:TE} {g:TG} {E:Value→?j} {w:World}
theorem Zc0 {prog:Program} {R:Result→?j} {elt target iter:Expr} {ifs:List Expr} {it acc:Value} (I:Nat→?j)
 (turn:∀ n s,I n s→wpAny ?D A (pyNext it) (fun r s₁=>match r with
   | none=>R (.ok .next) s₁
   | some v=>wpAny ?D A (letOwnedTupleGo target it v) (fun _ s₀=>wpAny ?D A (assign target env v) (fun _ s₂ =>
      wpAny ?D A (forIn ifs true fun c r=>if r=true then do let ok ← isTrue c env (eval c env);pure (ForInStep.yield ok) else pure (ForInStep.yield r)) (fun ok s₃ =>
       if ok=true then wpAny ?D A (eval elt env) (fun x s₄ =>
        wpAny ?D A (call (.builtin "list.append") [acc,x]) (fun _ s₅=>∃ m,m<n∧I m s₅) (fun _ _=>False) s₄) (fun _ _=>False) s₃
       else ∃ m,m<n∧I m s₃) (fun _ _=>False) s₂) (fun _ _=>False) s₀) (fun _ _=>False) s₁) (fun _ _=>False) s)
 (n:Nat) (h:I n s) :
 codeAny ?D A (.compLoop (.ListComp elt [⟨target,iter,ifs,0⟩] scope pos) 0 it acc env) R s:=by
 refine codeAny_loop rfl I (fun n s hI=>?_) n h;show wpAny _ A ((compTurn (.ListComp elt [⟨target,iter,ifs,0⟩] scope pos) 0 it acc env).onRaise (fun x=>do noteFrame x env;theTreesLotGoes x)) _ _ s
 refine wpAny_noted ?_;rw [compTurn_list];refine n1_ (wpAny_standAt (n1_ (n56_ (turn n s hI) (fun r s₁ h₁=>?_) fun _ _ h'=>h'.elim)));cases r with
 | none=>exact n6_ h₁
 | some v =>
   refine n1_ (n56_ h₁ (fun _ s₀ h₀=>?_) fun _ _ h'=>h'.elim);refine n1_ (n56_ h₀ (fun _ s₂ h₂=>n1_ (n56_ h₂ (fun ok s₃ h₃=>?_) fun _ _ h'=>h'.elim)) fun _ _ h'=>h'.elim);cases ok with
   | false=>exact n6_ ⟨rfl,h₃⟩
   | true =>
     exact n1_ (n1_ (n56_ h₃ (fun x s₄ h₄=>n1_ (n56_ h₄ (fun _ s₅ h₅=>n6_ (n6_ ⟨rfl,h₅⟩)) fun _ _ h'=>h'.elim)) fun _ _ h'=>h'.elim))
theorem Yd:∀ (names:List (Str×NameKind)) (n:Nat) (acc:List (Str×Addr)),cellsFrom n names acc=cellsFrom n names []++acc
 | [],_,_=>rfl
 | (x,k) :: r,n,acc=>by
   unfold cellsFrom;split
   · rw [Yd r (n+1) ((x,n) :: acc),Yd r (n+1) [(x,n)],List.append_assoc];rfl
   · exact Yd r n acc
theorem Zao {c:Addr}:∀ (names:List (Str×NameKind)) (n:Nat),(x,c)∈cellsFrom n names []→(x,NameKind.cell)∈names
 | [],_,h=>by simp [cellsFrom] at h
 | (y,k) :: r,n,h=>by
   unfold cellsFrom at h;split at h
   · rename_i hk
     rw [Yd] at h
     rcases n36_.mp h with h|h
     · exact n15_ _ (Zao r _ h)
     · cases n18_.mp h
       rw [show k=.cell by simpa using hk];exact n20_
   · exact n15_ _ (Zao r _ h)
theorem Zcg {names:List (Str×NameKind)} {c:Addr} (h:(cellsFrom n names cl).lookup x=some c):(cellsFrom n names []).lookup x=some c∨cl.lookup x=some c:=by
 rw [Yd,List.lookup_append] at h;cases e:(cellsFrom n names []).lookup x with
 | none=>rw [e] at h;exact .inr h
 | some c'=>rw [e] at h;exact .inl h
theorem Zl3 {globals:Addr} {Q:Env→?j}
 (hQ:∀ h',h'.Ns s.z (fun _=>none)→(∀ b o,?ag)→CellsOk h' (s.z+1) (cellsFrom (s.z+1) scope.names []) →
   Q (newEnv scope s.z globals (cellsFrom (s.z+1) scope.names cl) qual none .none (some env) builtinsNs) ?T) :
 wpAny M A (newFunctionEnv scope globals cl [] qual none .none (some env)) Q E s:=by
 simp only [newFunctionEnv,Option.isSome_some,if_true];refine n1_ (wpAny_alloc ?_);refine n1_ (wpAny_layCells _ (fun name kind cells=>by cases hkc:kind == NameKind.cell<;>simp [hkc]) _ _ _ _ ?_);have ok:=cellsFrom_ok scope.names (s.heap.push ?aj) (s.z+1) [] ⟨fun _ _ hm=>(nomatch hm),List.Pairwise.nil⟩ (by rw [n48_];exact n7_ _);rw [n48_] at ok;rw [show ({ s with heap:=s.heap.push ?aj }:Shared).heap.objs.size=s.z+1 from n48_ ..];rw [List.forIn_nil];exact n1_ (n6_ (n6_ (hQ _ ((Heap.Ns.new s.heap (.type "dict")).keeps (pushCells_keeps _ _)) (fun b o e=>pushCells_keeps _ _ b o (n2_ _ e)) ok)))
noncomputable def blk (X:Cx) (scope:Scope) (cl:List (Str×Addr)) (C:Addr) (N:List Str) (s3:Shared) (H3:Hp) (fp:List Addr):Cx where
 prog:=X.prog
 w:=X.w
 K:=X.K
 mg:=X.mg
 base:=X.base
 A:=X.A
 N:=N
 s₀:=s3
 H₀:=H3
 env:=compEnvC scope (cellsFrom (C+1) scope.names cl) C X.env
 outer:=X.stack
 stack:=X.stack
 ex:=fp
 fn:=fun x=>scope.names.lookup x == some .cell
 calm:=X.calm
 pn:=[]
 xe:=fun _ _=>False
structure LcO (X:Cx) (scope:Scope) (cl:List (Str×Addr)) (N:List Str) (fr:List (Option Nat)):Prop where
 clos:closureFor scope X.env=pure cl
 sub:∀ x c,cl.lookup x=some c→X.env.cells.lookup x=some c
 has:∀ x,((relabel scope X.env).names.lookup x=some .cell∨(relabel scope X.env).names.lookup x=some .free)→scope.names.lookup x=some .cell∨∃ c,cl.lookup x=some c
 kind:scope.kind=.function
 names:∀ y∈scope.names,y.2=.local→scope.names.lookup y.1=some .local
 len:fr.length=N.length
 from':∀ (i j:Nat),fr[i]? = some (some j)→∃ x,N[i]? = some x∧X.N[j]? = some x∧(X.env.scope.names.lookup x=some .cell∨X.env.scope.names.lookup x=some .free)∧((relabel scope X.env).names.lookup x=some .cell∨(relabel scope X.env).names.lookup x=some .free)∧(∃ c,cl.lookup x=some c)∧(x,NameKind.cell)∉scope.names
noncomputable def Zbx (fr:List (Option Nat)) (σ:St):St:=fr.map fun o=>match o with
 | some j=>match σ[j]? with
   | some v=>v
   | none=>none
 | none=>none
theorem pgB {H3:Hp} (i:Nat) (hN:N.Nodup:=by decide) (hi:N[i]? = some x:=by rfl) (hf:(blk X scope cl C N s3 H3 fp).env.scope.names.lookup x=some .local:=by rfl):PG ?ab (.Name x pos) (Xb i):=Zk hN hi (.inl hf) (.inr hf)
theorem Ztl (ok:HOk P w H h) (hfree:H a=none) (hs:Heap.SameBut a h h'):HOk P w H h':=fun b ob e=>by
 refine (ok b ob e).stay (fun c w' hc q=>(hs.2 c ?_).trans q) (fun _ q=>q) fun _ _ q=>q;rintro rfl
 rcases hc with rfl|hc
 · rw [hfree] at e;cases e
 · rw [hfree] at hc;cases hc
theorem Zms {h1:Heap} (L:LcO X scope cl N fr) (I:Inv X pins σ H s3) (co:CellsOk h1 (s3.z+1) (cellsFrom (s3.z+1) scope.names []))
 (hf:∀ b∈fp,FpOk X pins H b) (hlt:∀ b∈fp,b<s3.z):(blk X scope cl s3.z N s3 H fp).Ok where
 mod:=I.ok.mod
 kind:=L.kind
 glob:=I.ok.glob
 blt:=I.ok.blt
 above:=n7_ _
 inj:=fun x y c h1 h2=>by
  have old:∀ z,cl.lookup z=some c→c<s3.z:=fun z e=>let ⟨_,k⟩:=I.cell z c (L.sub z c e);k.lt;have new:∀ z,(cellsFrom (s3.z+1) scope.names []).lookup z=some c→s3.z+1≤c:=fun z e=>(co.empty z c (n40_ e)).2
  rcases Zcg h1 with a|a<;>rcases Zcg h2 with b|b
  · exact name_of_addr co.apart (n40_ a) (n40_ b)
  · exact absurd (n9_ (old y b) (Nat.le_of_succ_le (new x a))) (n93_ _)
  · exact absurd (n9_ (old x a) (Nat.le_of_succ_le (new y b))) (n93_ _)
  · exact I.ok.inj x y c (L.sub x c a) (L.sub y c b)
 has:=fun x h=>by
  refine Option.isSome_iff_exists.mp (PySem.W.cellsFrom_some scope.names (s3.z+1) cl ?_)
  rcases L.has x h with z|⟨c,z⟩
  · exact .inl z
  · exact .inr (by rw [z];rfl)
 cab:=fun x c h e=>by
  obtain ⟨c',e'⟩:=Zx (sc:=scope) (n:=s3.z+1) (beq_iff_eq.mp (show (scope.names.lookup x == some .cell)=true from h));have e2:(cellsFrom (s3.z+1) scope.names cl).lookup x=some c:=e;rw [Yd,List.lookup_append,e'] at e2;have e3:c'=c:=Option.some.inj e2;subst e3;exact Nat.le_of_succ_le (co.empty x c' (n40_ e')).2
 hd:=I.ok.hd
 frames:=I.ok.frames
 stk:=.inl rfl
 exf:=fun b hb=>⟨n23_ (hlt b hb),fun x c h=>by
  rcases Zcg h with a|a
  · exact n75_ (n9_ (hlt b hb) (Nat.le_of_succ_le (co.empty x c (n40_ a)).2))
  · exact (hf b hb).2.2.2.2.1 x c (L.sub x c a)⟩
 bs:=I.bs
 bsz:=n31_ I.ok.bsz I.sz
 noex:=fun b o e hb=>by
  rcases (hf b hb).2.2.2.1 with z|z
  · exact I.ok.noex b o e z
  · exact absurd (n9_ (n13_ e) (n31_ I.ok.bsz z)) (n93_ _)
 exfs:=fun b hb z=>by
  rcases n12_.mp (I.stkSub b z) with e|e
  · exact (hf b hb).2.1 e
  · exact (hf b hb).2.2.1 e
 funs:=I.stack
 frf:=I.stkFree
theorem Zmn {h1:Heap} {t:Nat} (L:LcO X scope cl N fr) (I:Inv X pins σ H s3) (co:CellsOk h1 (s3.z+1) (cellsFrom (s3.z+1) scope.names []))
 (hf:∀ b∈fp,FpOk X pins H b) (hlt:∀ b∈fp,b<s3.z) {m0:Str→?C} (hns:h1.Ns s3.z m0) (hk:∀ b o,s3.heap.get? b=some o→h1.get? b=some o) :
 Inv (blk X scope cl s3.z N s3 H fp) [] (Zbx fr σ) H { s3 with heap:=h1,toks:=t } where
 ok:=Zms L I co hf hlt
 os:=rfl
 bare:=I.bare
 base:=Un.kept hk
 loc:=⟨m0,hns,fun i x v e1 e2 e3=>by
  unfold Zbx at e2;rw [n5_] at e2;cases q:fr[i]? with
  | none=>rw [q] at e2;cases e2
  | some o =>
    rw [q] at e2;cases o with
    | none=>cases e2
    | some j =>
      obtain ⟨y,n1,n2,n3,n4,⟨c,hc⟩,n6⟩:=L.from' i j q;have e1':N[i]? = some x:=e1;rw [n1] at e1';cases e1'
      have e2':(match σ[j]? with|some v=>v|none=>none)=some v:=Option.some.inj e2
      have e2'':σ[j]? = some (some v):=by
       cases z:σ[j]? with
       | none=>rw [z] at e2';cases e2'
       | some w'=>rw [z] at e2';rw [show w'=some v from e2']
      obtain ⟨m,_,hl⟩:=I.loc;obtain ⟨u,r,lk⟩:=hl j x v n2 e2'' (.inr n3);refine ⟨u,r,.inr ⟨n4,c,?_,?_⟩⟩
      · show (cellsFrom (s3.z+1) scope.names cl).lookup x=some c
        rw [Yd,List.lookup_append];cases z:(cellsFrom (s3.z+1) scope.names []).lookup x with
        | none=>exact hc
        | some c'=>exact absurd (Zao _ _ (n40_ z)) n6
      rcases lk with ⟨k,_⟩|⟨k,c',hc',z⟩
      · exfalso
        have k':X.env.scope.names.lookup x=some .local:=k
        rcases n3 with z|z<;>rw [k'] at z<;>cases z
      · rw [L.sub x c hc] at hc';cases hc'
        obtain ⟨o,ho,hd⟩:=z;exact ⟨o,hk _ _ ho,hd⟩⟩
 cell:=fun x c e=>by
  rcases Zcg e with a|a
  · exact ⟨none,(co.empty x c (n40_ a)).1⟩
  · obtain ⟨v,o,ho,hd⟩:=I.cell x c (L.sub x c a);exact ⟨v,o,hk _ _ ho,hd⟩
 free:=I.hok.fresh (n7_ _)
 freeC:=fun x c e=>by
  rcases Zcg e with a|a
  · exact .inl (I.hok.fresh (Nat.le_of_succ_le (co.empty x c (n40_ a)).2))
  · refine (I.freeC x c (L.sub x c a)).imp id fun ⟨_,z⟩=>⟨Bool.eq_false_iff.mpr fun q=>?_,z⟩;obtain ⟨v,oc,hoc,_⟩:=I.cell x c (L.sub x c a);obtain ⟨c',e'⟩:=Zx (sc:=scope) (n:=s3.z+1) (beq_iff_eq.mp (show (scope.names.lookup x == some .cell)=true from q));have e2:(cellsFrom (s3.z+1) scope.names cl).lookup x=some c:=e;rw [Yd,List.lookup_append,e'] at e2;cases e2
    exact absurd (n9_ (n13_ hoc) (Nat.le_of_succ_le (co.empty x c (n40_ e')).2)) (n93_ _)
 pin:=fun p hp=>absurd (show p∈([]:?B) from hp) ?f
 hok:=I.hok.kept hk
 len:=by
  unfold Zbx;rw [n3_];exact L.len
def PIfs (X:Cx) (ifs:List Expr) (t:TT):Prop :=
 ∀ (pins:?B) (s:Shared) (σ:St) (H:Hp) (Q:Bool→?w),?s→t σ H Q →
   wpAny ?A X.A (forIn ifs true fun c r=>if r=true then do let ok ← isTrue c X.env (eval c X.env);pure (ForInStep.yield ok) else pure (ForInStep.yield r)) (TP X pins σ Q) X.xe s
def tYes:TT:=fun _ H Q=>Q true H
theorem Zu:PIfs X [] tYes:=fun _ _ _ H _ I h=>wpAny_tests_nil ⟨H,I,h⟩
theorem Zdp {c:Expr} {t:TT} (h:PT X c t):PIfs X [c] t:=fun pins s σ H Q I hw=>wpAny_tests_one (h pins s σ H Q I hw)
def LcGo (J:It) (g:TG) (tt:TT) (te:TE) (σ0:St) (H1:Hp) (D:Addr) (Q:VK):Prop:=∃ W:Nat→Nat→St→?w,(∃ m,W 0 m σ0 (upd H1 D (.lst []))) ∧
 ∀ i m σ2 H2,W i m σ2 H2→(J.stop i H2∧Q (.ref D) H2)∨(J.go i H2∧∀ x H3,J.yld i H2 x H3→g x σ2 H3 fun σ4 H4=>tt σ4 H4 fun b H5=>if b=true then te σ4 H5 fun y H6=>∃ ys,H6 D=some (.lst ys)∧ys.length<sizeLine ∧
   ∃ m',m'<m∧W (i+1) m' σ4 (upd H6 D (.lst (ys++[y]))) else ∃ m',m'<m∧W (i+1) m' σ4 H5)
def tLC (wi:TI) (g:TG) (tt:TT) (te:TE) (fr:List (Option Nat)):TE:=fun σ H Q=>wi σ H fun J H1=>∀ D,H1 D=none→LcGo J g tt te (Zbx fr σ) H1 D Q
abbrev NoX:Value→?j:=fun _ _=>False
theorem Zny {σ7:St} {H3 H7:Hp} {s7:Shared} (I3:Inv X pins σ H3 s3) (f3:∀ b∈fp,FpOk X pins H3 b) (I7:Inv (blk X scope cl s3.z N s3 H3 fp) [] σ7 H7 s7) :
 ∃ m7,s7.heap.Ns s3.z m7∧∀ h8,Heap.SameBut s3.z s7.heap h8→Inv X pins σ H7 { s7 with heap:=h8 }:=by
 obtain ⟨m7,hn7,_⟩:=I7.loc;refine ⟨m7,hn7,fun h8 sb8=>?_⟩;have un:=I7.base;have neC:∀ b o,s3.heap.get? b=some o→b≠s3.z:=fun b o e=>n23_ (n13_ e);refine I3.call' (s':={ s7 with heap:=h8 }) (ch:=fp) I7.os ?_ (Ztl I7.hok I7.free sb8) I7.bare (fun b hb=>⟨(f3 b hb).2.2.2.1,(f3 b hb).2.1,(f3 b hb).2.2.2.2.1,(f3 b hb).2.2.2.2.2⟩);refine ⟨fun b o e n' hb hx=>?_,fun b o e n' hb hx=>?_,un.free,fun b o e hx=>?_,un.tups,un.frzs,un.tbls⟩
 · exact sb8.extBut b o (neC b o e) (un.keep b o e n' hb hx)
 · obtain ⟨sl,q⟩:=un.slot b o e n' hb hx;exact ⟨sl,sb8.extBut b _ (neC b o e) q⟩
 · obtain ⟨o',q⟩:=un.there b o e hx;exact ⟨o',sb8.extBut b _ (neC b o e) q⟩
def Zoh (M:Model) (A:Around) (tg:Expr) (it:Value) (env:Env) (R:Result→?j) (B:Nat→?j) (n:Nat) (s:Shared):Prop :=
 wpAny M A (pyNext it) (fun r s1=>match r with
  | none=>R (.ok .next) s1
  | some v=>wpAny M A (letOwnedTupleGo tg it v) (fun _ s0=>wpAny M A (assign tg env v) (fun _ s2=>B n s2) NoX s0) NoX s1) NoX s
theorem Zge {s2:Shared} {J:It} {tn:Nat→Heap→Prop} {ac:HO} {o0:Obj} {W:Nat→Nat→St→?w} {m0:Nat} {Qn:?w} {Kn:Nat→Nat→St→?w} {c:Expr} {R:Addr→Result→?j} {B:(Nat→?j)→Nat→?j}
 (hs3:s3={ s2 with heap:=s2.heap.push o0 }) (hc:X.calm=true) (L:LcO X scope cl N fr) (hg:∀ C s3 H3 fp,PG ?ab tg g)
 (I2:Inv X pins σ H2 s2) (T:Turn X.prog X.w X.K tg J fp it tn) (st2:tn 0 s2.heap) (f2:∀ b∈fp,FpOk X pins H2 b)
 (ok0:ObjOk X.prog X.w (upd H2 s2.z ac) (s2.heap.push o0) s2.z ac) (w0:W 0 m0 (Zbx fr σ) (upd H2 s2.z ac))
 (turn:∀ i m σ2 H2,W i m σ2 H2→(J.stop i H2∧Qn H2)∨(J.go i H2∧∀ x H3,J.yld i H2 x H3→g x σ2 H3 (Kn i m)))
 (Za4:∀ env s4,codeAny ?A X.A (.compLoop c 0 (.ref it) (.ref s2.z) env) (R s3.z) s4→(∀ E,wpAny ?A X.A (pyIter (.ref it)) (fun it' s'=>codeAny ?A X.A (.compLoop c 0 it' (.ref s2.z) env) (R s3.z) s') E s4)→codeAny ?A X.A (.compStart c 0 (.ref it) (.ref s2.z) env) (R s3.z) s4)
 (loop:∀ (LI:Nat→?j) s4,(∀ n s,LI n s→Zoh ?A X.A tg (.ref it) (blk X scope cl s3.z N s3 (upd H2 s2.z ac) fp).env (R s3.z) (B LI) n s)→∀ n,LI n s4→codeAny ?A X.A (.compLoop c 0 (.ref it) (.ref s2.z) (blk X scope cl s3.z N s3 (upd H2 s2.z ac) fp).env) (R s3.z) s4)
 (stop:∀ H7 s7,Qn H7→Inv X pins σ (upd H2 s2.z ac) s3→H7 s3.z=none→(∃ m7,s7.heap.Ns s3.z m7∧∀ h8,Heap.SameBut s3.z s7.heap h8→Inv X pins σ H7 { s7 with heap:=h8 })→R s3.z (.ok .next) s7)
 (body:∀ (LI:Nat→?j) n i σ9 H9 s9 ps,Inv (blk X scope cl s3.z N s3 (upd H2 s2.z ac) fp) ps σ9 H9 s9→Kn i n σ9 H9→(∀ {s11:Shared} {σ11:St} {H11:Hp} {m':Nat},Inv (blk X scope cl s3.z N s3 (upd H2 s2.z ac) fp) ps σ11 H11 s11→m'<n→W (i+1) m' σ11 H11→∃ m,m<n∧LI m s11)→B LI n s9) :
 wpAny ?A X.A (newFunctionEnv scope X.env.globals cl [] X.env.qual none .none (some X.env)) (fun cenv s4=>codeAny ?A X.A (.compStart c 0 (.ref it) (.ref s2.z) { cenv with scope:=relabel scope X.env }) (R cenv.locals) s4) X.xe s3:=by
 have fplt:∀ b∈fp,b<s2.z:=fun b hb=>by
  obtain ⟨o,q,_⟩:=T.obj _ _ st2 b hb;exact n13_ q
 have k3:∀ b o,s2.heap.get? b=some o→s3.heap.get? b=some o:=fun b o e=>by rw [hs3];exact n2_ _ e
 have I3:Inv X pins σ (upd H2 s2.z ac) s3:=by rw [hs3];exact I2.laid (t':=s2.toks) (fun b o e=>n2_ _ e) (n7_ _) ok0
 have f3:∀ b∈fp,FpOk X pins (upd H2 s2.z ac) b:=fun b hb=>⟨by rw [Zl (n23_ (fplt b hb))];exact (f2 b hb).1,(f2 b hb).2⟩;have st3:tn 0 s3.heap:=T.keep _ _ _ st2 fun b hb o e=>k3 b o e
 have fplt3:∀ b∈fp,b<s3.z:=fun b hb=>by
  obtain ⟨o,q,_⟩:=T.obj _ _ st2 b hb;exact n13_ (k3 _ _ q)
 generalize upd H2 s2.z ac=H3 at *;refine Zl3 fun h1 hns1 k4 ok3=>?_;have I4:=Zmn (t:=s3.toks) L I3 ok3 f3 fplt3 hns1 k4;have st4:tn 0 h1:=T.keep _ _ _ st3 fun b hb o e=>k4 b o e
 have fpB:∀ {H':Hp} (b:Addr),b∈fp→H' b=none→FpOk (blk X scope cl s3.z N s3 H3 fp) [] H' b:=fun b hb hn =>
  ⟨hn,n23_ (fplt3 b hb),fun z=>(Zms L I3 ok3 f3 fplt3).exfs b hb z,.inl hb,fun x c e=>((Zms L I3 ok3 f3 fplt3).exf b hb).2 x c e,fun p hp=>absurd (show p∈([]:?B) from hp) ?f⟩
 have lp:=loop (fun n s'=>∃ i σ' H',Inv (blk X scope cl s3.z N s3 H3 fp) [] σ' H' s'∧tn i s'.heap∧(∀ b∈fp,H' b=none)∧W i n σ' H') { s3 with heap:=h1 } (fun n s6=>?_) m0 ⟨0,_,_,I4,st4,fun b hb=>(f3 b hb).1,w0⟩
 · exact Za4 _ _ lp fun E=>T.self _ 0 _ _ _ st4 lp
 · rintro ⟨i,σ6,H6,I6,st6,fr6,w6⟩
   unfold Zoh
   rcases turn i n σ6 H6 w6 with ⟨sp,qn⟩|⟨go,step⟩
   · refine thn (T.done (blk X scope cl s3.z N s3 H3 fp) rfl rfl rfl hc i [] s6 σ6 H6 (fun _ _=>False) I6 (fun b hb=>fpB b hb (fr6 b hb)) st6 sp) fun r s7 ⟨hr,I7⟩=>?_;subst hr;exact stop _ _ qn I3 I7.free (Zny I3 f3 I7)
   · refine thn (T.item (blk X scope cl s3.z N s3 H3 fp) rfl rfl rfl hc i [] s6 σ6 H6 (fun _ _=>False) I6 (fun b hb=>fpB b hb (fr6 b hb)) st6 go) fun r s7 ⟨u,hr,h7⟩=>?_;subst hr;refine thn h7 fun _ s8 ⟨x,H8,I8,r8,y8,st8,fr8⟩=>?_;have I8':=I8.pinned (fun b hb=>fpB b hb (fr8 b hb)) (T.obj _ _ st8);refine thn (hg _ _ _ _ _ s8 σ6 H8 x u _ I8' r8 (step x H8 y8)) fun _ s9 ⟨σ9,H9,I9,q9⟩=>?_;refine body _ n i σ9 H9 s9 _ I9 q9 fun {s11 σ11 H11 m'} I11 hm w11=>?_;refine ⟨m',hm,i+1,σ11,H11,I11.unpinned,T.keep _ _ _ st8 fun b hb o e=>(I11.pin (b,o) (n26_ _ (n26_ _ (Y4 hb e)))).1,fun b hb=>?_,w11⟩;obtain ⟨o,e,d⟩:=T.obj _ _ st8 b hb;exact (I11.pin (b,o) (n26_ _ (n26_ _ (Y4 hb e)))).2.1
theorem Zn3 {ifs:List Expr} {elt:Expr} {tt:TT} {W:Nat→Nat→St→?w} {C0:Addr} {s30:Shared} {H30:Hp} {fp0:List Addr}
 (ht:∀ C s3 H3 fp,PIfs ?ab ifs tt) (he:∀ C s3 H3 fp,PE ?ab elt te) (LI:Nat→?j) (n i:Nat) (σ9:St) (H9:Hp) (s9:Shared) (ps:?B) (I9:Inv (blk X scope cl C0 N s30 H30 fp0) ps σ9 H9 s9)
 (q9:tt σ9 H9 fun b H5=>if b=true then te σ9 H5 fun y H6=>∃ ys,H6 D=some (.lst ys)∧ys.length<sizeLine∧∃ m',m'<n∧W (i+1) m' σ9 (upd H6 D (.lst (ys++[y]))) else ∃ m',m'<n∧W (i+1) m' σ9 H5)
 (again:∀ {s11:Shared} {σ11:St} {H11:Hp} {m':Nat},Inv (blk X scope cl C0 N s30 H30 fp0) ps σ11 H11 s11→m'<n→W (i+1) m' σ11 H11→∃ m,m<n∧LI m s11) :
 wpAny ?A X.A (forIn ifs true fun c r=>if r=true then do let ok ← isTrue c (blk X scope cl C0 N s30 H30 fp0).env (eval c (blk X scope cl C0 N s30 H30 fp0).env);pure (ForInStep.yield ok) else pure (ForInStep.yield r)) (fun ok s₃ =>
  if ok=true then wpAny ?A X.A (eval elt (blk X scope cl C0 N s30 H30 fp0).env) (fun x s₄ =>
   wpAny ?A X.A (call (.builtin "list.append") [.ref D,x]) (fun _ s₅=>∃ m,m<n∧LI m s₅) (fun _ _=>False) s₄) (fun _ _=>False) s₃
  else ∃ m,m<n∧LI m s₃) (fun _ _=>False) s9:=by
 refine thn (ht _ _ _ _ ps s9 σ9 H9 _ I9 q9) fun b s10 ⟨H10,I10,q10⟩=>?_;cases b with
 | false =>
   obtain ⟨m',hm,w11⟩:=q10;exact again I10 hm w11
 | true =>
   refine thn (he _ _ _ _ ps s10 σ9 H10 _ I10 q10) fun y s11 zq=>?_;obtain ⟨yv,H11,I11,r11,ys,hys,hz,m',hm,w11⟩:=zq
   have ap:=Xi (X:=blk X scope cl C0 N s30 H30 fp0) _ s11 σ9 H11 (.ref D) [yv] (.ref D) [y] (fun _ H'=>W (i+1) m' σ9 H') I11 rfl (.cons r11 .nil)
    ⟨_,ys,yv,rfl,rfl,hys,hz,w11⟩
   exact thn ap fun _ s12 ⟨_,H12,I12,_,q12⟩=>again I12 hm q12
theorem Zob {Q:VK} {H7:Hp} {s7:Shared} (qn:Q (.ref D) H7) (c:∃ m7,s7.heap.Ns C m7∧∀ h8,Heap.SameBut C s7.heap h8→Inv X pins σ H7 { s7 with heap:=h8 }):compPost ?A X.A X.xe none (EP X pins σ Q) (.ref D) C (.ok .next) s7 :=
 let ⟨m7,hn7,c7⟩:=c
 ⟨m7,hn7,fun h8 sb8=>⟨.ref _,H7,c7 h8 sb8,rfl,qn⟩⟩
theorem Y6 {X:Cx} {tg elt iter:Expr} {ifs:List Expr} {scope:Scope} {cl:List (Str×Addr)} {N:List Str} {fr:List (Option Nat)} {pos:Pos} {wi:TI} {g:TG} {tt:TT} {te:TE}
 (hc:X.calm=true) (L:LcO X scope cl N fr) (hi:PI X tg iter wi) (hg:∀ C s3 H3 fp,PG ?ab tg g)
 (ht:∀ C s3 H3 fp,PIfs ?ab ifs tt) (he:∀ C s3 H3 fp,PE ?ab elt te)
 (hs:∀ x,foldedSetIterable iter X.env x=pure x:=by intro _;rfl):PE X (.ListComp elt [⟨tg,iter,ifs,0⟩] scope pos) (tLC wi g tt te fr):=by
 intro pins s σ H Q I h;rw [eval_ListComp];refine wpAny_comprehension_free (use:=none) rfl hs L.clos L.kind L.names (thn (hi pins s σ H _ I h) fun v s1 h1=>thn h1 fun itv s2 h2=>?_);obtain ⟨it,fp,tn,J,H2,e,I2,T,st2,f2,h⟩:=h2;subst e;obtain ⟨W,⟨m0,w0⟩,turn⟩:=h s2.z (I2.hok.fresh (n7_ _));refine wpAny_newObj_type ?_;refine Zge (ac:=.lst []) rfl hc L hg I2 T st2 f2 ⟨n47_ _,[],_,.nil,n8_ _ rfl⟩ w0 turn (fun _ _ a b=>codeAny_compStart_list a (b _)) (fun LI s4 t n h=>Zc0 LI t n h) (fun H7 s7 qn _ _ c=>Zob qn c) (Zn3 ht he)
def LcN (n:Nat) (Pv:Nat→St→?w) (i m:Nat) (σ:St) (H:Hp):Prop:=i≤n∧m=n-i∧Pv i σ H
section
variable {X:Cx}
def Zwj (i j:Int):Prop:=j≠0∧j.natAbs<2^8999
theorem Zra {a:Nat} (h:a<2^n) (hn:0<n):a.log2<n:=by
 rcases Nat.eq_zero_or_pos a with rfl|hp
 · simpa using hn
 · exact (Nat.log2_lt (n75_ hp)).mpr h
theorem Xj:OpR X (binaryOp .FloorDiv) (rI Zwj fun i j=>.int (i.fdiv j)):=opI fun _ _ _ _ _ _ _ hc q=>floordiv_int hc.1 q (.inl (PyProof.noPylong_of_log2 (Nat.lt_trans (Zra hc.2 ?e) ?e)))
def CMulB (i j:Int):Prop:=i.natAbs<2^1000000∧j.natAbs<2^1000000
theorem Zjf {i:Int} (h:i.natAbs<2^n) (hn:0<n):Builtin.Int.intBits i≤n:=by
 unfold Builtin.Int.intBits;split
 · exact n47_ _
 · exact Zra h hn
theorem CMulB.ok {i j:Int} (h:CMulB i j):IntMulOk i j:=by
 unfold IntMulOk;have h1:=Zjf h.1 ?e;have h2:=Zjf h.2 ?e
 have:Builtin.Int.intTooBig (Builtin.Int.intBits i+Builtin.Int.intBits j:Nat)=false:=by
  unfold Builtin.Int.intTooBig bitsLine;refine n35_ ?_;omega
 intro z;rw [n37_] at z;rw [show ((Builtin.Int.intBits i:Int)+(Builtin.Int.intBits j:Int))=((Builtin.Int.intBits i+Builtin.Int.intBits j:Nat):Int) by omega,this] at z;exact absurd z.2 ?e
theorem Zy:OpR X (binaryOp .Mult) (rI CMulB fun i j=>.int (i*j)):=opI fun _ _ _ _ _ _ _ hc q=>mul_int q hc.ok
inductive BxRc_isi (K:PySem.W.Frag) (xs:List V) (H:Hp) (Q:VK):Prop
 | mk (x:_) (T:_) (t:_) (b:_) (q1:xs=[x,.ty T]) (q2:TyOf K H x t) (q3:PySem.W.kitOne K t (.type T)=some b) (q4:Q (.bl b) H):BxRc_isi K xs H Q
def Zu3 (K:PySem.W.Frag):?W:=fun xs H Q=>BxRc_isi K xs H Q
theorem X8:Xl X (.builtin "isinstance") (Zu3 X.K):=by
 intro pins s σ H xs us Q I r h;obtain ⟨x,T,t,b,rfl,ty,e,q⟩:=h;cases r with
 | cons rx r =>
   cases r with
   | cons ry r =>
     cases r
     cases (show _=Value.type T from ry)
     exact Zma I rx ty e fun tk=>⟨.bl b,H,I.tok _,rfl,q⟩
theorem Zlf {bs:List Bool}:∀ {us:?t} {i:Nat} {v:Value},Vals (bs.map V.bl) us→us[i]? = some v→∃ b,bs[i]? = some b∧v=Value.bool b:=by
 induction bs with
 | nil=>intro us i v h e;cases h;cases e
 | cons b bs ih =>
   intro us i v h e;cases h with
   | cons r t =>
     cases i with
     | zero=>cases e;exact ⟨b,rfl,r⟩
     | succ i=>obtain ⟨c,h1,h2⟩:=ih t e;exact ⟨c,h1,h2⟩
theorem Zfa:∀ (bs:List Bool),((List.range bs.length).all fun i=>(bs[i]?).getD true)=bs.all id
 | []=>rfl
 | b :: bs=>by
   rw [n29_,List.range_succ_eq_map,List.all_cons,List.all_map,List.all_cons,← Zfa bs];rfl
theorem Znz (hk:∀ b x,b∉[s.z]→(s.heap.push o).get? b=some x→h'.get? b=some x):∀ b x,s.heap.get? b=some x→h'.get? b=some x :=
 fun b x e=>hk b x (fun hm=>by rw [n18_.mp hm] at e;exact n93_ _ (n13_ e)) (n2_ _ e)
inductive BxRc_allB (K:PySem.W.Frag) (xs:List V) (H:Hp) (Q:VK):Prop
 | mk (p:Addr) (bs:List Bool) (q1:xs=[.ref p]) (q2:SqL K H p (bs.map V.bl)) (q3:Q (.bl (bs.all id)) H):BxRc_allB K xs H Q
def Zr0 (K:PySem.W.Frag):?W:=fun xs H Q=>BxRc_allB K xs H Q
theorem Zag (hc:X.calm=true):Xl X (.builtin "all") (Zr0 X.K):=by
 intro pins s σ H xs us Q I r h;obtain ⟨p,bs,rfl,hq,q⟩:=h;cases r with
 | cons rx r =>
   cases r
   cases (show _=Value.ref p from rx)
   obtain ⟨its,rv,pl,hz⟩:=I.list hq;have hl:=pl.isList;have hlt:p<s.z:=by obtain ⟨_,e,_⟩:=hl;exact n13_ e
   have hh:X.A.handled=none:=I.ok.hd hc;refine call_all_walk (wpAny_pyIter_list hl ?_)
   refine ⟨s.z,[s.z,p],[s.z],its.toArray.size,_,_,fun i=>(bs[i]?).getD true,rfl,Walks.list (A:=X.A.in1) hh _ p (n23_ hlt) its.toArray,
    ⟨⟨_,n8_ _ rfl,rfl,rfl⟩,hl.push _⟩,fun i v s' Q' E' hP hQ=>?_,fun h' tk hk=>?_⟩
   · obtain ⟨b,e,rfl⟩:=Zlf rv (show its[i]? = some v by simpa using hP);simp only [e,Option.getD_some] at hQ;exact wpAny_truthy_bool hQ
   · have e:((List.range its.toArray.size).all fun i=>(bs[i]?).getD true)=bs.all id:=by
      rw [n11_,← rv.length,n3_];exact Zfa bs
     rw [e];exact ⟨.bl _,H,I.kept (Znz hk),rfl,q⟩
end
structure Cal (P:Program) (w:World) (K:PySem.W.Frag) (mg:Str→?C) (base:Heap) (x:Str) (k:Nat) (ps:List Str) (sp:Sp):Prop where
 ex:∃ (f:Addr) (fd:FuncData),FnOk P w K mg base CX0 k f fd ps sp∧mg x=some (.ref f)∧PySem.W.keepIn K (.ref f)=true∧Binds K fd ps []
theorem Zh {j:Nat} {sp:Sp} {es:List Expr} {t:TA} (C:Cal X.prog X.w X.K X.mg X.base x k ps sp) (hr:Room j X.A) (hj:k≤j) (hg:Gl X x) (ha:PA X (e :: es) t)
 (hdb:?af=false:=by decide) (he:starEach (e :: es) X.env=(false,eval e X.env) :: starEach es X.env:=by rfl) (hpl:(backTo pos (starEach es X.env)).any (·.1)=false:=by rfl) :
 PE X (.Call (.Name x p) (e :: es) [] pos) (fun σ H Q=>t σ H fun vs H1=>sp vs H1 Q E0):=by
 obtain ⟨f,fd,F,hm,hk,hb⟩:=C.ex;have h:=Znw (dvs:=[]) (E:=E0) (p:=p) F (hr.mono hj) hg hm hk hb .nil Zsn ha hdb he hpl;intro pins s σ H Q I hw;refine h pins s σ H Q I ?_;unfold Zse
 simpa only [List.append_nil] using hw
structure FunD (K:PySem.W.Frag) (x qual:Str) (st:Stmt) (f:Addr) (fd:FuncData):Prop where
 ex:∃ (oc:Value) (od:Option Addr) (dV kV doc pm:Value) (an:Option Addr) (cdv ct:Value) (osl:Array (?C)),
  fd=PySem.W.fnOf x qual (Xa st) (Yv st) (Zf st) dV kV doc pm an cdv ct∧K.lookup f=some ⟨oc,od,.func fd,osl⟩∧PySem.W.codeIn K cdv qual=true
 kp:PySem.W.keepIn K (.ref f)=true
section
variable {P:Program} {w:World} {K:PySem.W.Frag} {mg:Str→?C} {base:Heap}
theorem FunD.ok {sp:Sp} (F:FunD K x qual st f fd) (S:FnScope N ps (Zf st)) (len:∀ vs H Q E,sp vs H Q E→vs.length=ps.length)
 (hbody:∀ (cdv:Value) (A:Around) (outer:List Env) (s:Shared) (H:Hp) (vs:List V) (Q:VK) (E:XK),Room k (A.deeper (envOfC qual (Zf st) s.z f cdv))→sp vs H Q E →
   ∃ t,PSs (cxOf CX0 P w K mg base N qual (Zf st) f cdv A outer s H E).nox (Yv st) t∧t { nx:=fun _ H'=>Q .non H',rt:=Q } (Za4 N vs) H):FnOk P w K mg base CX0 (k+1) f fd ps sp:=by
 obtain ⟨oc,od,dV,kV,doc,pm,an,cdv,ct,osl,rfl,lk,hcd⟩:=F.ex;refine Zur lk hcd S len fun A outer s H vs Q E hr hsp=>?_;obtain ⟨t,h,q⟩:=hbody cdv A outer s H vs Q E hr hsp;exact ⟨t,h.nox,q⟩
theorem Zry {oc:Value} {od an:Option Addr} {osl:Array (?C)} {dV kV doc pm cdv ct:Value} (l:K.lookup f=some ⟨oc,od,.func (PySem.W.fnOf x qual (Xa st) (Yv st) (Zf st) dV kV doc pm an cdv ct),osl⟩)
 (c:PySem.W.codeIn K cdv qual=true) (k:PySem.W.keepIn K (.ref f)=true):FunD K x qual st f (PySem.W.fnOf x qual (Xa st) (Yv st) (Zf st) dV kV doc pm an cdv ct):=⟨⟨oc,od,dV,kV,doc,pm,an,cdv,ct,osl,rfl,l,c⟩,k⟩
end
structure CalD (P:Program) (w:World) (K:PySem.W.Frag) (mg:Str→?C) (base:Heap) (x:Str) (k:Nat) (ps:List Str) (dvs:List V) (sp:Sp):Prop where
 ex:∃ (f:Addr) (fd:FuncData) (ds:?t),FnOk P w K mg base CX0 k f fd ps sp∧mg x=some (.ref f)∧PySem.W.keepIn K (.ref f)=true∧Binds K fd ps ds∧Vals dvs ds
theorem Zsw {j:Nat} {dvs:List V} {sp:Sp} {es:List Expr} {t:TA} (C:CalD X.prog X.w X.K X.mg X.base x k ps dvs sp) (hr:Room j X.A) (hj:k≤j) (hg:Gl X x) (ha:PA X (e :: es) t)
 (hdb:?af=false:=by decide) (he:starEach (e :: es) X.env=(false,eval e X.env) :: starEach es X.env:=by rfl) (hpl:(backTo pos (starEach es X.env)).any (·.1)=false:=by rfl) :
 PE X (.Call (.Name x p) (e :: es) [] pos) (fun σ H Q=>t σ H fun vs H1=>sp (vs++dvs) H1 Q E0):=by
 obtain ⟨f,fd,ds,F,hm,hk,hb,hd⟩:=C.ex;exact Znw (dvs:=dvs) (E:=E0) (p:=p) F (hr.mono hj) hg hm hk hb hd Zsn ha hdb he hpl
def Keep (l:Addr) (H H':Hp):Prop:=∀ b o,b≠l→H b=some o→H' b=some o
theorem Keep.refl (l:Addr) (H:Hp):Keep l H H:=fun _ _ _ h=>h
theorem Keep.trans (a:Keep l H H1) (b:Keep l H1 H2):Keep l H H2:=fun c o n h=>b c o n (a c o n h)
theorem Keep.new {p:Addr} {o:HO} (h:H p=none):Keep l H (upd H p o):=fun b u _ e=>by rw [Zl (Zj e h)];exact e
theorem Keep.upd {o:HO}:Keep l H (upd H l o):=fun b u n e=>by rw [Zl n];exact e
theorem Same.new {p:Addr} {o:HO} (h:H p=none):Same H (upd H p o):=fun b u e=>by rw [Zl (Zj e h)];exact e
theorem Same.keep (s:?H):Keep l H H':=fun b o _ e=>s b o e
inductive BxTPar3 (i j k:Nat) (D:Ends) (σ:St) (vs:List V) (H1:Hp):Prop
 | mk (v:_) (w:_) (x:_) (q1:vs=[v,w,x]) (q2:D.nx (((σ.set i (some v)).set j (some w)).set k (some x)) H1):BxTPar3 i j k D σ vs H1
def Zw3 (i j k:Nat) (ta:TA):TS:=fun D σ H=>ta σ H fun vs H1=>BxTPar3 i j k D σ vs H1
theorem Zjt {j:Nat} {y z:Str} {a b c:Expr} {px py pz pt:Pos} {kt k2 pt2} (hc:X.calm=true) (hN:X.N.Nodup) (hi:X.N[i]? = some x) (hj:X.N[j]? = some y) (hk:X.N[k]? = some z) (hij:i≠j) (hik:i≠k) (hjk:j≠k)
 (hx:X.env.scope.names.lookup x=some .local) (hy:X.env.scope.names.lookup y=some .local) (hz:X.env.scope.names.lookup z=some .local) (ha:PA X [a,b,c] ta)
 (hw:swappedStores [.Tuple [.Name x px,.Name y py,.Name z pz] kt pt] (.Tuple [a,b,c] k2 pt2) X.env=pure (some [x,y,z]))
 (hs:swapsWithSole [.Tuple [.Name x px,.Name y py,.Name z pz] kt pt] (.Tuple [a,b,c] k2 pt2) pos.line X.env=pure false:=by rfl) :
 PS X (.Assign [.Tuple [.Name x px,.Name y py,.Name z pz] kt pt] (.Tuple [a,b,c] k2 pt2) pos) (Zw3 i j k ta):=by
 intro pins s σ H D I h;rw [exec_Assign_arm];refine n1_ (wpAny_standAt ?_);rw [hs];refine n1_ (n6_ ?_);rw [if_neg ?e];refine n1_ (Tuple_ (thn (ha _ pins s σ H _ I h) fun us s1 ⟨vs,H1,I1,r1,q1⟩=>?_));obtain ⟨v,w,x',e1,q1⟩:=q1;subst e1
 obtain ⟨u1,u2,u3,rfl,rv,rw',rx⟩:∃ u1 u2 u3,us=[u1,u2,u3]∧RelV v u1∧RelV w u2∧RelV x' u3:=by
  cases r1 with
  | cons p q =>
    cases q with
    | cons p' q' =>
      cases q' with
      | cons p'' q'' =>
        cases q''
        exact ⟨_,_,_,rfl,p,p',p''⟩
 refine wpAny_newObj_type ?_ (z3_);have I2:Inv X pins σ H1 { s1 with heap:=s1.heap.push { cls:=?M,data:=.seq [u1,u2,u3].toArray } }:=I1.kept (t':=s1.toks) fun b o e=>n2_ _ e;rw [hw];refine n1_ (n6_ ?_);show wpAny ?A X.A (do rule "assign.swapped-stores";let items ← unpackItems (.ref s1.z) 3 none;assignInOrder [fun v=>bindName X.env z v,fun v=>bindName X.env y v,fun v=>bindName X.env x v] items.reverse;pure Flow.next) _ _ _
 refine n1_ (wpAny_rule (n1_ (unpackItems_tuple (items:=#[u1,u2,u3]) (I.ok.hd hc) (IsTup.new s1.heap _) fun h' hx'=>?_)));have I3:=I2.kept (h':=h') (t':=s1.toks) fun b o e=>hx' b o (n23_ (n13_ e)) e;show wpAny _ _ (assignInOrder [fun v=>bindName X.env z v,fun v=>bindName X.env y v,fun v=>bindName X.env x v] [u3,u2,u1] >>= fun _=>pure Flow.next) _ _ _
 refine n1_ (assignInOrder_cons (wpAny_bindName (Zal I3 hN hk (.inl hz) rx (fun s2 I4=>?_) (.inr hz))));refine assignInOrder_cons (wpAny_bindName (Zal I4 hN hj (.inl hy) rw' (fun s3 I5=>?_) (.inr hy)));refine assignInOrder_cons (wpAny_bindName (Zal I5 hN hi (.inl hx) rv (fun s4 I6=>assignInOrder_nil (n6_ ?_)) (.inr hx)))
 have e:(((σ.set k (some x')).set j (some w)).set i (some v))=(((σ.set i (some v)).set j (some w)).set k (some x')):=by
  rw [List.set_comm _ _ (Ne.symm hij),List.set_comm _ _ (Ne.symm hik),List.set_comm _ _ (Ne.symm hjk)]
 rw [e] at I6;exact ⟨_,H1,I6,q1⟩
theorem Zec:∀ (xs:List PyData),(PyData.shownAll xs).length=xs.length
 | []=>rfl
 | _ :: xs=>by simp only [PyData.shownAll,n29_,Zec xs]
section
variable {X:Cx}
end
mutual
inductive Dt (N:Addr→Prop) (H:Hp) (k:Nat):V→PyData→Prop
 | non:Dt N H k .non .none
 | bl (b:Bool):Dt N H k (.bl b) (.bool b)
 | int {i:Int}:i.natAbs<2^k→Dt N H k (.int i) (.int i)
 | str (x:Str):Dt N H k (.str x) (.str x)
 | tup {a:Addr} {xs:List V} {ds:List PyData}:H a=some (.tup xs)→Dts N H k xs ds→Dt N H k (.ref a) (.tuple ds)
 | lst {a:Addr} {xs:List V} {ds:List PyData}:H a=some (.lst xs)→¬ N a→a≠sysModules→Dts N H k xs ds→Dt N H k (.ref a) (.list ds)
 | dic {a:Addr}:H a=some (.dK [])→Dt N H k (.ref a) (.dict [])
inductive Dts (N:Addr→Prop) (H:Hp) (k:Nat):List V→List PyData→Prop
 | nil:Dts N H k [] []
 | cons {x:V} {xs:List V} {d:PyData} {ds:List PyData}:Dt N H k x d→Dts N H k xs ds→Dts N H k (x :: xs) (d :: ds)
end
variable {N:Addr→Prop} {k:Nat}
mutual
theorem Dt.reads {X:Cx} {pins:?B} {σ:St} {H:Hp} {s:Shared} (I:?s):∀ {v:V} {d:PyData} {u:Value},Dt N H k v d→RelV v u→∃ as,Reads s.heap u d as∧sysModules∉as
 | _,_,_,.non,r=>by cases r;exact ⟨_,.none,by simp⟩
 | _,_,_,.bl b,r=>by cases r;exact ⟨_,.bool b,by simp⟩
 | _,_,_,.int (i:=i) _,r=>by obtain ⟨t,rfl⟩:=r;exact ⟨_,.int i t,by simp⟩
 | _,_,_,.str x,r=>by obtain ⟨t,rfl⟩:=r;exact ⟨_,.str x t,by simp⟩
 | _,_,_,.tup (a:=a) (xs:=xs) h rs,r=>by
   cases r
   obtain ⟨_,its,rv,o,e,⟨hc,_⟩,n,hd⟩:=(show ObjOk X.prog X.w H s.heap a (.tup xs) from I.hok a _ h);obtain ⟨as,ra,na⟩:=Dts.reads I rs rv;exact ⟨_,.tuple e hc hd (by simpa using ra),na⟩
 | _,_,_,.lst (a:=a) (xs:=xs) h _ ns rs,r=>by
   cases r
   obtain ⟨_,its,n,rv,e⟩:=(show ObjOk X.prog X.w H s.heap a (.lst xs) from I.hok a _ h);obtain ⟨as,ra,na⟩:=Dts.reads I rs rv
   exact ⟨_,.list e rfl rfl (by simpa using ra),by
    intro hm
    rcases n12_.mp hm with e|e
    · exact ns e.symm
    · exact na e⟩
 | _,_,_,.dic (a:=a) h,r=>by
   cases r
   obtain ⟨_,hS,vs,rel,o,es,ep,e,ex,hd,_,he,_⟩:=(show ObjOk X.prog X.w H s.heap a (.dK []) from I.hok a _ h);cases rel
   have hes:es.toList=[]:=by
    generalize es.toList=z at he;cases he
    rfl
   refine ⟨_,.dict (kvs:=[]) (as:=[]) (bs:=[]) e ex.1 hd (by rw [hes];exact .nil) (by rw [hes];exact .nil),?_⟩;intro hm
   have:sysModules=a:=by simpa using hm
   rw [this] at hS;simp at hS
theorem Dts.reads {X:Cx} {pins:?B} {σ:St} {H:Hp} {s:Shared} (I:?s):∀ {vs:List V} {ds:List PyData} {us:?t},Dts N H k vs ds→Vals vs us→∃ as,ReadsAll s.heap us ds as∧sysModules∉as
 | _,_,_,.nil,.nil=>⟨_,.nil,by simp⟩
 | _,_,_,.cons r rs,.cons q qs=>by
   obtain ⟨as,ra,na⟩:=Dt.reads I r q;obtain ⟨bs,rb,nb⟩:=Dts.reads I rs qs
   exact ⟨_,.cons ra rb,by
    intro hm
    rcases n36_.mp hm with e|e
    · exact na e
    · exact nb e⟩
end
mutual
def nz:PyData→Nat
 | .none=>1
 | .bool _=>1
 | .int _=>1
 | .str x=>(reprText x).length
 | .list xs=>1+Zda xs
 | .tuple xs=>1+Zda xs
 | .dict _=>1
def Zda:List PyData→Nat
 | []=>0
 | x :: xs=>nz x+1+Zda xs
end
theorem Zci {i:Int} (h:i.natAbs<2^n) (hn:n<1920):i.natAbs.log2<1920:=by
 rcases Nat.eq_zero_or_pos n with rfl|hp
 · have:i.natAbs=0:=by simpa using h
   rw [this];decide
 · by_cases h0:i.natAbs=0
   · rw [h0];decide
   · exact Nat.lt_trans ((Nat.log2_lt h0).mpr h) hn
mutual
theorem Dt.showable {H:Hp} (hk:k<1920):∀ {v:V} {d:PyData},Dt N H k v d→d.showable=true
 | _,_,.non=>rfl
 | _,_,.bl b=>rfl
 | _,_,.int h=>n44_ (Zci h hk)
 | _,_,.str x=>rfl
 | _,_,.tup h r=>Dts.showable hk r
 | _,_,.lst h n m r=>Dts.showable hk r
 | _,_,.dic h=>rfl
theorem Dts.showable {H:Hp} (hk:k<1920):∀ {vs:List V} {ds:List PyData},Dts N H k vs ds→PyData.showableAll ds=true
 | _,_,.nil=>rfl
 | _,_,.cons r rs=>by
   show (_&&_)=true
   rw [Dt.showable hk r,Dts.showable hk rs];rfl
end
mutual
theorem Dt.shownLen {H:Hp} (hk:k<1920):∀ {v:V} {d:PyData},Dt N H k v d→d.shown.length≤2000*nz d
 | _,_,.non=>?i
 | _,_,.bl true=>?i
 | _,_,.bl false=>?i
 | _,_,.int (i:=i) h=>by
   have:=int_text_length_le ?e (Zci h hk)
   show (Str.ofString (toString i)).length≤2000*1
   rw [PySem.ofString_length];omega
 | _,_,.str x=>by
   show (reprText x).length≤2000*(reprText x).length
   omega
 | _,_,.tup (ds:=ds) h r=>by
   have:=Dts.shownLen hk r
   have z:=tupleText_len_le (PyData.shownAll ds);rw [Zec] at z;show (tupleText (PyData.shownAll ds)).length≤2000*(1+Zda ds)
   omega
 | _,_,.lst (ds:=ds) h n m r=>by
   have:=Dts.shownLen hk r
   have z:=listText_len_le (PyData.shownAll ds);rw [Zec] at z;show (listText (PyData.shownAll ds)).length≤2000*(1+Zda ds)
   omega
 | _,_,.dic h=>?i
theorem Dts.shownLen {H:Hp} (hk:k<1920):∀ {vs:List V} {ds:List PyData},Dts N H k vs ds→((PyData.shownAll ds).map (·.length)).sum+2*ds.length≤2000*Zda ds
 | _,_,.nil=>by simp [PyData.shownAll,Zda]
 | _,_,.cons r rs=>by
   have a:=Dt.shownLen hk r;have b:=Dts.shownLen hk rs;simp only [PyData.shownAll,Zda,n19_,n46_,n29_];omega
end
section
variable {X:Cx}
inductive BxRc_reprD  (xs:List V) (H:Hp) (Q:VK):Prop
 | mk (N:_) (k:_) (v:_) (d:_) (q1:xs=[v]) (q2:Dt N H k v d) (q3:k<1920) (q4:d.depth≤20) (q5:nz d≤8000) (q6:Q (.str d.shown) H):BxRc_reprD xs H Q
def Zpv  : ?W:=fun xs H Q=>BxRc_reprD xs H Q
theorem Zbl {j:Nat} (hr:Room j X.A):Xl X (.builtin "repr") (Zpv):=by
 intro pins s σ H xs us Q I r h;obtain ⟨N,k,v,d,rfl,rd,hk,h3,h4,q⟩:=h;have h1:=rd.showable hk
 have hz:d.shown.length≤sizeLine:=by
  have:=rd.shownLen hk
  have e:sizeLine=16777216:=sizeLine_eq;omega
 cases r with
 | cons rx r =>
   cases r
   have hu:=hr.un;have R:=Dt.reads I rd rx
   have go:∀ a,RelV v (Value.ref a)→wpAny ?A X.A (call (.builtin "repr") [Value.ref a]) (EP X pins σ Q) X.xe s:=fun a rx=>by
    obtain ⟨as,ra,na⟩:=Dt.reads I rd rx;exact repr_of_reads' ra h1 (fun _=>na) hr.gd (?d) (fun _ _ e=>e) (fun h' u tk hk=>⟨.str _,H,I.kept hk,?K,q⟩) hz
   cases rd with
   | non=>cases (show _=Value.none from rx);exact PySem.P.repr_of_none ⟨.str _,H,I.tok _,?K,q⟩
   | bl b=>cases (show _=Value.bool b from rx);exact PySem.P.repr_of_bool ⟨.str _,H,I.tok _,?K,q⟩
   | int hi=>obtain ⟨t,rfl⟩:=(show ∃ t,_=Value.int _ t from rx);exact PySem.P.repr_of_int (Zci hi hk) ⟨.str _,H,I.tok _,?K,q⟩
   | str x=>obtain ⟨t,rfl⟩:=(show ∃ t,_=Value.str x t from rx);exact PySem.P.repr_of_str ⟨.str _,H,I.tok _,?K,q⟩ hz
   | tup h rs=>cases (show _=Value.ref _ from rx);exact go _ rx
   | lst h n m rs=>cases (show _=Value.ref _ from rx);exact go _ rx
   | dic h=>cases (show _=Value.ref _ from rx);exact go _ rx
end
end L2
namespace HT
open PySem PyProof.Rows
section
variable {prog:Program} {w:World} {A:Around} {E:Value→?j} {s:Shared}
theorem getItem_tuple_whole {t sl:Addr} {items:?L} {vl vu:Value} {lo hi:Option Int} {Q:Value→?j} (ht:IsTup s.heap t items) (hs:s.heap.IsSliceOf sl vl vu .none) (pl:IsPart vl lo) (pu:IsPart vu hi)
 (hw:sIx items.size 0 lo=0∧sIx items.size items.size hi=items.size)
 (h:Q (.ref t) s):wpAny ?D A (getItem (.ref t) (.ref sl)) Q E s:=by
 obtain ⟨os,hos,hcs,hds⟩:=id hs;have hTs:s.TypeIs (.ref sl) "slice" := ⟨os,hos,hcs⟩;unfold getItem
 try with_reducible refine n38_ ?_
 first|refine n1_ (n6_ ?_)|skip
 refine n1_ (wpAny_sequenceKey ht.typeIs ?e ?_)
 refine n1_ (wpAny_callSpecial?_slot (name:=Str.ofString "__getitem__") ht.typeIs PyProof.Rows.slot_tuple_getitem
  (wpAny_call_entry PyProof.Rows.slot_tuple_getitem ht.typeIs entry_tuple_getitem ?_ (args_tuple_getitem _ _)))
 show wpAny _ _ (Builtin.Tuple.tupleItemsOf (.ref t) >>= _) _ _ s
 refine n1_ (tupleItemsOf_ ht ?_);refine n1_ (wpAny_typeOf hTs ?_);rw [if_pos ?e];refine n1_ (Zay hs pl pu ?_);rw [hw.1,hw.2];have hyes:(((0:Nat):Int) == 0&&(1:Int) == 1&&(items.size-0) == items.size)=true:=by simp
 show wpAny _ _ (if (((0:Nat):Int) == 0&&(1:Int) == 1&&(items.size-0) == items.size)=true then _ else _) _ _ s
 rw [if_pos hyes];have hx:(Builtin.Tuple.tupleIsExact (.ref t))=(do pure ((← typeOf (.ref t)) == ?M)):=by first|rfl|(unfold Builtin.Tuple.tupleIsExact;rfl)
 rw [hx];refine n1_ (n1_ (wpAny_typeOf ht.typeIs (n6_ ?_)));rw [if_pos ?e];exact n1_ (wpAny_rule (n6_ ⟨_,rfl,n6_ h⟩))
end
end HT
namespace L2
open PySem PySem.Spec PyProof.Rows
section
variable {X:Cx} {e:Expr} {es:List Expr} {te:TE} {t:TA} {pos p2:Pos}
inductive BxRCatU (x y:V) (H:Hp) (Q:VK):Prop
 | mk (a:_) (b:_) (xs:_) (ys:_) (q1:x=.ref a) (q2:y=.ref b) (q3:H a=some (.tup xs)) (q4:H b=some (.tup ys)) (q5:xs.length+ys.length≤sizeLine) (q6:∀ p H',?H→H' p=some (.tup (xs++ys))→Q (.ref p) H'):BxRCatU x y H Q
def Zw1:R2:=fun x y H Q=>BxRCatU x y H Q
theorem Zm7:OpR X (binaryOp .Add) Zw1:=by
 intro pins s σ H x y v u Q I rx ry h;obtain ⟨a,b,xs,ys,rfl,rfl,ha,hb,hz,q⟩:=h;cases rx
 cases ry
 obtain ⟨its,r1,p1,_⟩:=I.tuple (SqT.of ha);obtain ⟨its2,r2,p2,_⟩:=I.tuple (SqT.of hb)
 by_cases hx:xs=[]
 · subst hx;have e:its=[]:=r1.nil_iff.mpr rfl;subst e;obtain ⟨⟨cls,dd,data,sl⟩,ho,hc,n,hd⟩:=id p1;obtain ⟨⟨cls2,dd2,data2,sl2⟩,ho2,hc2,n2,hd2⟩:=id p2;simp only at hc hd hc2 hd2;subst hc hd hc2 hd2
   exact concat_meets ⟨_,ho,rfl⟩ ⟨_,ho2,rfl⟩ noFill_tuple_add seq_tuple_add PySem.F.slot_tuple_add PySem.F.entry_tuple_add (PySem.F.args_tuple_add_2 _ _)
    (tuple_addW0 a b _ its2.toArray n n2 dd dd2 sl sl2 ?f) ⟨ho,ho2,⟨.ref b,H,I,rfl,q b H (Same.refl H) hb⟩⟩
 · refine Zr9 pins s σ H (.ref a) (.ref b) _ _ Q I rfl rfl ⟨a,b,xs,ys,rfl,rfl,SqT.of ha,SqT.of hb,hx,hz,?_,?_⟩
   · rintro rfl
     exact q a H (Same.refl H) (by rw [List.append_nil];exact ha)
   · intro _ p hp;exact q p _ (Same.new hp) Zc
inductive BxRSlU (x:V) (lo hi:Option Int) (H:Hp) (Q:VK):Prop
 | mk (a:_) (xs:_) (q1:x=.ref a) (q2:H a=some (.tup xs)) (q3:∀ p H',?H→H' p=some (.tup (cutV xs lo hi))→Q (.ref p) H'):BxRSlU x lo hi H Q
def rSlU:V→Option Int→Option Int→Hp→VK→Prop:=fun x lo hi H Q=>BxRSlU x lo hi H Q
theorem Zoi:SlR X rSlU:=by
 intro pins s σ H x v vl vu lo hi sl Q I rx hs pl pu h;obtain ⟨a,xs,rfl,hx,q⟩:=h
 by_cases hw:HT.sIx xs.length 0 lo=0∧HT.sIx xs.length xs.length hi=xs.length
 · cases rx
   obtain ⟨its,r,ht,hz⟩:=I.tuple (SqT.of hx);have hlen:its.toArray.size=xs.length:=by rw [n11_];exact r.length.symm
   refine ⟨"tuple",_,PyProof.Rows.slot_tuple_getitem.lookup,ht.typeIs,?_⟩;refine HT.getItem_tuple_whole ht hs pl pu (by rw [hlen];exact hw) ⟨.ref a,H,I,rfl,q a H (Same.refl H) ?_⟩;unfold cutV;rw [hw.1,hw.2,n86_,Nat.sub_zero,List.take_length];exact hx
 · exact Ztw pins s σ H _ _ vl vu lo hi sl Q I rx hs pl pu ⟨a,xs,rfl,SqT.of hx,hw,fun p hp=>q p _ (Same.new hp) Zc⟩
end
noncomputable def Yz (cells:List (Str×Addr)) (names:List (Str×NameKind)):List (Str×Addr):=((names.filter (fun y=>y.2 == .free)).map fun y=>(y.1,(cells.lookup y.1).getD 0)).reverse
variable {D a b it j t z:Addr} {A:Around} {ys:?L} {X:Cx} {env:Env} {h h':Heap} {H:Hp} {pins:?B} {ch fp:List Addr} {xs:List V} {i m n t' x1:Nat} {p pos tp:Pos} {P:Program} {scope:Scope} {s:Shared} {σ:St} {x:Str} {ta:TA} {te:TE} {g:TG} {c d:Value} {Q:Value→?j} {w:World}
theorem Zc4:∀ (names:List (Str×NameKind)) (acc:List (Str×Addr)),(∀ y∈names,y.2=.free→∃ c,env.cells.lookup y.1=some c) →
 (forIn names acc (fun (x:Str×NameKind) (r:List (Str×Addr))=>do
   if x.2 == .free then do
    let a ← cellOf env x.1
    pure (ForInStep.yield ((x.1,a) :: r))
   else pure (ForInStep.yield r)):Sem (List (Str×Addr)))=pure (Yz env.cells names++acc)
 | [],acc,_=>rfl
 | (n,k) :: rest,acc,h=>by
   have ih:=fun acc=>Zc4 rest acc fun y hy=>h y (n15_ _ hy);rw [List.forIn_cons]
   by_cases hk:k=.free
   · subst hk;obtain ⟨c,hc⟩:=h (n,.free) n20_ rfl;have e:cellOf env n=pure c:=by unfold cellOf;rw [hc]
     have e2:Yz env.cells ((n,.free) :: rest)=Yz env.cells rest++[(n,c)]:=by
      unfold Yz;rw [List.filter_cons_of_pos (by rfl),n19_,List.reverse_cons,hc];rfl
     simp only [beq_self_eq_true,if_true,e,pure_bind];rw [ih,e2,List.append_assoc];rfl
   · have b:(k == NameKind.free)=false:=by simpa using hk
     have e2:Yz env.cells ((n,k) :: rest)=Yz env.cells rest:=by
      unfold Yz;rw [List.filter_cons_of_neg (by simpa using hk)]
     simp only [b,n39_,if_false,pure_bind];rw [ih,e2]
theorem Zdf (h:∀ y∈scope.names,y.2=.free→∃ c,env.cells.lookup y.1=some c):closureFor scope env=pure (Yz env.cells scope.names):=by
 have e:=Zc4 scope.names [] h;rw [List.append_nil] at e;unfold closureFor
 first
  | (rw [← e];rfl)
  | (simp only [bind_pure];exact e)
  | simpa using e
section
variable {X:Cx}
theorem Zmp:MtR X "int.bit_length" (fun x vs H Q=>∃ i:Int,x=.int i∧vs=[]∧Q (.int (Builtin.Int.intBits i)) H):=by
 intro pins s σ H x vs v us Q I rx rv h;obtain ⟨i,rfl,rfl,q⟩:=h;obtain ⟨t,rfl⟩:=rx;cases rv
 exact call_int_bit_length ⟨.int _,H,I.tok _,?K,q⟩
theorem Zmv {i:Int} (h:∃ t,X.mg x=some (.int i t)) (hg:Gl X x) (hd:?af=false:=by decide):PE X (.Name x pos) (tC (.int i)):=by
 obtain ⟨t,h⟩:=h;exact Ztk hg h ⟨t,rfl⟩ hd
end
section
variable {X:Cx} {pins:?B} {σ:List (Option V)} {H:Hp} {s:Shared} {h':Heap}
theorem Inv.turnNew {o:HO} (I:?s) (k:∀ b u,b∉ch→s.heap.get? b=some u→h'.get? b=some u) (hf:∀ b∈ch,FpOk X pins H b)
 (ha:s.z≤a) (new:ObjOk X.prog X.w (upd H a o) h' a o):Inv X pins σ (upd H a o) { s with heap:=h',toks:=t' }:=by
 have fa:H a=none:=I.hok.fresh ha;have na:∀ b u,H b=some u→b≠a:=fun b u e=>Zj e fa;have nc:∀ b u,H b=some u→b∉ch:=fun b u e z=>by rw [(hf b z).1] at e;cases e
 have la:∀ b u,s.heap.get? b=some u→b≠a:=fun b u e=>n23_ (n9_ (n13_ e) ha)
 refine I.step (g':=s.gens) (d':=s.drawn) (ch:=ch) (fun b hb=>?_) (fun b u _ _ hc e _=>k b u hc e) (fun b u _ _ hc e _=>⟨u.slots,k b u hc e⟩) (fun b u _ e n=>by rw [Zl (la b u e)];exact n)
  (fun b u hc e=>⟨u,k b u hc e⟩) (fun b xs e=>by rw [Zl (na b _ e)];exact e) (fun b u v e=>by rw [Zl (na b _ e)];exact e) (fun b ps e=>⟨#[],by rw [Zl (na b _ e),e];simp⟩) (fun m hm=>?_) (fun b u e=>?_) I.bare
 · obtain ⟨f0,f1,f2,f3,f4,f5⟩:=hf b hb;exact ⟨f3,f1,f4,f5⟩
 · obtain ⟨u,es,ep,hu,r⟩:=hm;exact ⟨u,es,ep,k _ u (fun z=>(hf _ z).2.1 rfl) hu,r⟩
 · by_cases hb:b=a
   · subst hb;rw [Zc] at e;cases e;exact new
   · rw [Zl hb] at e;refine (I.hok b u e).stay (fun c v hc q=>k c v ?_ q) (fun c q=>by rw [Zl (na c _ q)];exact q) fun c xs q=>by rw [Zl (na c _ q)];exact q
     rcases hc with z|z
     · rw [z];exact nc b u e
     · exact nc c _ z
theorem Inv.turnOnly (I:?s) (k:∀ b u,b∉ch→s.heap.get? b=some u→h'.get? b=some u) (hf:∀ b∈ch,FpOk X pins H b):Inv X pins σ H { s with heap:=h',toks:=t' }:=by
 have nc:∀ b u,H b=some u→b∉ch:=fun b u e z=>by rw [(hf b z).1] at e;cases e
 refine I.step (g':=s.gens) (d':=s.drawn) (ch:=ch) (fun b hb=>?_) (fun b u _ _ hc e _=>k b u hc e) (fun b u _ _ hc e _=>⟨u.slots,k b u hc e⟩) (fun _ _ _ _ n=>n)
  (fun b u hc e=>⟨u,k b u hc e⟩) (fun _ _ e=>e) (fun _ _ _ e=>e) (fun b ps e=>⟨#[],by rw [e];simp⟩) (fun m hm=>?_) (fun b u e=>?_) I.bare
 · obtain ⟨f0,f1,f2,f3,f4,f5⟩:=hf b hb;exact ⟨f3,f1,f4,f5⟩
 · obtain ⟨u,es,ep,hu,r⟩:=hm;exact ⟨u,es,ep,k _ u (fun z=>(hf _ z).2.1 rfl) hu,r⟩
 · refine (I.hok b u e).stay (fun c v hc q=>k c v ?_ q) (fun _ q=>q) fun _ _ q=>q
   rcases hc with z|z
   · rw [z];exact nc b u e
   · exact nc c _ z
end
inductive SK where
 | l
 | t
def SK.Sq (K:PySem.W.Frag) (H:Hp) (a:Addr) (xs:List V):SK→Prop
 | .l=>SqL K H a xs
 | .t=>SqT K H a xs
def SK.Is (h:Heap) (a:Addr) (vs:?L):SK→Prop
 | .l=>h.IsList a vs
 | .t=>h.IsTuple a vs
def SK.It (h:Heap) (it a:Addr) (i:Nat):SK→Prop
 | .l=>h.IsListIter it a i
 | .t=>h.IsTupleIter it a i
noncomputable def SK.name:SK→String
 | .l => "list_iterator"
 | .t => "tuple_iterator"
abbrev SK.obj (k:SK) (a:Addr):Obj:={ cls:=.type k.name,data:=.fields #[.ref a,.int 0 0] }
theorem SK.It.ex {k:SK} (x:k.It h it a i):∃ o,h.get? it=some o∧o.cls=.type k.name∧o.data=.fields #[.ref a,.int i 0]:=by
 cases k<;>exact x
theorem SK.It.of {k:SK} (x:∃ o,h.get? it=some o∧o.cls=.type k.name∧o.data=.fields #[.ref a,.int i 0]):k.It h it a i:=by
 cases k<;>exact x
theorem SK.It.at {k:SK} (x:k.It h it a i) (f:∀ o,h.get? it=some o→h'.get? it=some o):k.It h' it a i:=by
 obtain ⟨o,e,r⟩:=x.ex;exact .of ⟨o,f o e,r⟩
theorem SK.Is.ex {k:SK} {vs:?L} (x:k.Is h a vs):∃ o n,h.get? a=some o∧o.data=.seq vs n:=by
 cases k with
 | l=>obtain ⟨o,e,_,n,d⟩:=(show h.IsList a vs from x);exact ⟨o,n,e,d⟩
 | t=>obtain ⟨o,e,_,n,d⟩:=(show h.IsTuple a vs from x);exact ⟨o,n,e,d⟩
theorem SK.Is.at {k:SK} {vs:?L} (x:k.Is h a vs) (f:∀ o,h.get? a=some o→h'.get? a=some o):k.Is h' a vs:=by
 cases k with
 | l=>obtain ⟨o,e,r⟩:=(show h.IsList a vs from x);exact (⟨o,f o e,r⟩:h'.IsList a vs)
 | t=>obtain ⟨o,e,r⟩:=(show h.IsTuple a vs from x);exact (⟨o,f o e,r⟩:h'.IsTuple a vs)
theorem SK.Sq.is {k:SK} (q:k.Sq X.K H a xs) (I:?s):∃ its,Vals xs its∧k.Is s.heap a its.toArray:=by
 cases k with
 | l=>obtain ⟨its,rv,p,_⟩:=I.list (show SqL X.K H a xs from q);exact ⟨its,rv,p.isList⟩
 | t=>obtain ⟨its,rv,p,_⟩:=I.tuple (show SqT X.K H a xs from q);exact ⟨its,rv,p⟩
theorem SK.Sq.inj {k:SK} {ys:List V} (q:k.Sq X.K H a xs) (r:k.Sq X.K H a ys) (I:?s):xs=ys:=by
 cases k with
 | l=>exact I.list_inj q r
 | t=>exact I.tuple_inj q r
section
variable {prog:Program} {w:World} {A:Around} {E:Value→?j} {s:Shared}
theorem SK.draw {k:SK} {vs:?L} {x:Value} (hi:k.It s.heap it a i) (ha:k.Is s.heap a vs) (hx:vs[i]? = some x)
 (q:∀ h1,k.It h1 it a (i+1)→Heap.SameBut it s.heap h1→Q x ?V):wpAny ?D A (n28_ (.ref it)) Q E s:=by
 cases k with
 | l=>exact wpAny_nextOf_list_item hi ha hx q
 | t =>
   have hi':s.heap.IsTupleIter it a i:=hi;obtain ⟨o,e,c,d⟩:=id hi';obtain ⟨oa,ea,_,n,da⟩:=(show s.heap.IsTuple a vs from ha);unfold n28_;refine n1_ (wpAny_callSpecial?_slot (name:=Str.ofString "__next__") hi'.typeIs F.slot_tuple_iterator_next (wpAny_call_entry F.slot_tuple_iterator_next hi'.typeIs F.entry_tuple_iterator_next ?_ (F.args_tuple_iterator_next_1 _)));refine n1_ (m:=field (.ref it) 0) (wpAny_field e d (x:=.ref a) rfl ?_);show wpAny _ _ (if (Value.ref a == Value.none)=true then _ else _) _ _ s
   rw [if_neg (show ¬ ((Value.ref a == Value.none)=true) from n27_)];refine n1_ (m:=field (.ref it) 1) (wpAny_field e d (x:=.int i 0) rfl ?_);refine n1_ (m:=seqItems? (.ref a)) (wpAny_seqItems ea da ?_);simp only [n63_,hx];refine n1_ (wpAny_setField e d ?f (n6_ ⟨x,rfl,n6_ (q _ (SK.It.of ?_) (Heap.SameBut.update ..))⟩));exact ⟨_,n65_ _ e (Obj.isFreed_of_fields (Obj.data_mapFields d _)),(Obj.cls_mapFields ..).trans c,by rw [Obj.data_mapFields d];simp [rawInt]⟩
theorem SK.dry {k:SK} {vs:?L} (hh:A.handled=none) (hi:k.It s.heap it a i) (ha:k.Is s.heap a vs) (hx:vs[i]? = none)
 (q:∀ h1 e,Heap.ExtBut it s.heap h1→(∃ o,h1.get? e=some o∧o.cls=.type "StopIteration")→E (.ref e) ?V):wpAny ?D A (n28_ (.ref it)) Q E s:=by
 cases k with
 | l=>exact wpAny_nextOf_list_end hh hi ha hx q
 | t =>
   have hi':s.heap.IsTupleIter it a i:=hi;obtain ⟨o,e,c,d⟩:=id hi';obtain ⟨oa,ea,_,n,da⟩:=(show s.heap.IsTuple a vs from ha);unfold n28_;refine n1_ (wpAny_callSpecial?_slot (name:=Str.ofString "__next__") hi'.typeIs F.slot_tuple_iterator_next (wpAny_call_entry F.slot_tuple_iterator_next hi'.typeIs F.entry_tuple_iterator_next ?_ (F.args_tuple_iterator_next_1 _)));refine n1_ (m:=field (.ref it) 0) (wpAny_field e d (x:=.ref a) rfl ?_);show wpAny _ _ (if (Value.ref a == Value.none)=true then _ else _) _ _ s
   rw [if_neg (show ¬ ((Value.ref a == Value.none)=true) from n27_)];refine n1_ (m:=field (.ref it) 1) (wpAny_field e d (x:=.int i 0) rfl ?_);refine n1_ (m:=seqItems? (.ref a)) (wpAny_seqItems ea da ?_);simp only [n63_,hx];refine n1_ (wpAny_rule (n1_ (wpAny_setField e d ?f ?_)));refine n1_ (m:=newExc (.type "StopIteration") []) ?_;simp only [newExc,newTuple];refine n1_ (wpAny_newObj_type (n1_ (m:=firstArgMember _ _) (wpAny_of_eq (a:=Value.none) (by first|rfl|(simp only [firstArgMember];rfl)) (wpAny_newObj_type ?_ (by size_fits)))) (by size_fits));simp only [raiseNew];refine n1_ (wpAny_handled ?_)
   first|rw [show A.in1.handled=none from hh]|rw [hh]
   refine n1_ (n6_ (wpAny_throw (q _ _ (((Heap.SameBut.update ..).extBut.push _).push _) ⟨_,n8_ _ rfl,rfl⟩)))
theorem SK.iter {k:SK} {vs:?L} (ha:k.Is s.heap a vs) (q:Q (.ref s.z) { s with heap:=s.heap.push (k.obj a) }):wpAny ?D A (pyIter (.ref a)) Q E s:=by
 cases k with
 | l=>exact wpAny_pyIter_list ha q
 | t=>exact wpAny_pyIter_tuple ha q
end
structure ZP (z t o i j a b:Addr):Prop where
 tz:t≠z
 oz:o≠z
 iz:i≠z
 jz:j≠z
 to:t≠o
 ti:t≠i
 tj:t≠j
 oi:o≠i
 oj:o≠j
 ij:i≠j
 az:a≠z
 ao:a≠o
 ai:a≠i
 aj:a≠j
 bz:b≠z
 bo:b≠o
 bi:b≠i
 bj:b≠j
section
variable {prog:Program} {w:World} {A:Around} {E:Value→?j} {s:Shared} {k l:SK}
theorem Zps {o i:Addr} {xs:?L} {x y:Value} (D:ZP z t o i j a b)
 (hz:IsZip s.heap z t o .none) (ht:IsPair s.heap t (.ref i) (.ref j)) (ho:IsPair s.heap o c d)
 (hi:k.It s.heap i a m) (hj:l.It s.heap j b n) (ha:k.Is s.heap a xs) (hb:l.Is s.heap b ys) (hx:xs[m]? = some x) (hy:ys[n]? = some y)
 (q:∀ h1,IsZip h1 z t o (rawInt s.z)→IsPair h1 o x y→k.It h1 i a (m+1)→l.It h1 j b (n+1)→IsPair h1 s.z x y→h1.objs.size=s.z+1 →
   ?al→Q (.ref s.z) ?V) :
 wpAny ?D A (Builtin.«zip.__next__» ⟨[.ref z],[]⟩) (fun fin s'=>∃ v,fin=.done (.ret v)∧Q v s') E s:=by
 refine n1_ (m:=field (.ref z) 2) (wpAny_field hz rfl (x:=.bool false) rfl ?_);refine n1_ (m:=field (.ref z) 3) (wpAny_field hz rfl (x:=.ref t) rfl (n1_ (wpAny_seqItems ht rfl ?_)));refine n1_ (m:=n45_ (.ref z)) ?_;unfold n45_;refine n1_ (wpAny_field hz rfl (x:=.none) rfl (n6_ ?_));simp only [if_true];refine n1_ (wpAny_rule (n1_ (wpAny_field hz rfl (x:=.ref o) rfl (n1_ (wpAny_setField_rec hz ?f fun h1 z1 s1=>?_)))));replace z1:IsZip h1 z t o .ellipsis:=z1;refine n1_ ?_;simp only [List.zipIdx_cons,List.zipIdx_nil,List.forIn_cons,List.forIn_nil];refine n1_ (n1_ (wpAny_onRaise (n1_ (m:=n28_ (.ref i)) ?_)));refine SK.draw (hi.at fun u e=>s1.extBut _ _ D.iz e) (ha.at fun u e=>s1.extBut _ _ D.az e) hx fun h2 i2 s2=>n6_ ?_;have o2:IsPair h2 o c d:=s2.extBut _ _ D.oi (s1.extBut _ _ D.oz ho);refine n1_ (wpAny_seqItems o2 rfl (n1_ (wpAny_updateSeq_pair o2 fun h3 o3 s3=>?_)));replace o3:IsPair h3 o x d:=o3;refine n1_ (wpAny_letGo (n6_ (n1_ (n1_ (wpAny_onRaise (n1_ (m:=n28_ (.ref j)) ?_))))));refine SK.draw (hj.at fun u e=>s3.extBut _ _ D.oj.symm (s2.extBut _ _ D.ij.symm (s1.extBut _ _ D.jz e))) (hb.at fun u e=>s3.extBut _ _ D.bo (s2.extBut _ _ D.bi (s1.extBut _ _ D.bz e))) hy fun h4 j4 s4=>n6_ ?_;have o4:IsPair h4 o x d:=s4.extBut _ _ D.oj o3;refine n1_ (wpAny_seqItems o4 rfl (n1_ (wpAny_updateSeq_pair o4 fun h5 o5 s5=>?_)));replace o5:IsPair h5 o x y:=o5;refine n1_ (wpAny_letGo (n6_ (n6_ (n1_ (wpAny_seqItems o5 rfl (n1_ (wpAny_newTuple ?_)))))));have sz:h5.objs.size=s.z:=by rw [s5.1,s4.1,s3.1,s2.1,s1.1]
 have z5:IsZip h5 z t o .ellipsis:=s5.extBut _ _ D.oz.symm (s4.extBut _ _ D.jz.symm (s3.extBut _ _ D.oz.symm (s2.extBut _ _ D.iz.symm z1)));have k5:∀ e u,e≠z→e≠o→e≠i→e≠j→s.heap.get? e=some u→h5.get? e=some u:=fun e u e1 e2 e3 e4 g=>s5.extBut _ _ e2 (s4.extBut _ _ e4 (s3.extBut _ _ e2 (s2.extBut _ _ e3 (s1.extBut _ _ e1 g))));have i5:k.It h5 i a (m+1):=i2.at fun u e=>s5.extBut _ _ D.oi.symm (s4.extBut _ _ D.ij (s3.extBut _ _ D.oi.symm e));have j5:l.It h5 j b (n+1):=j4.at fun u e=>s5.extBut _ _ D.oj.symm e;have zl:z<h5.objs.size:=n13_ z5;refine n1_ (m:=Builtin.SmallTypes.ownedTupleHandOut (.ref z) (.ref h5.objs.size)) ?_;unfold Builtin.SmallTypes.ownedTupleHandOut;have z6:IsZip (h5.push { cls:=?M,data:=.seq #[x,y] }) z t o .ellipsis:=n2_ _ z5;refine n1_ (wpAny_setField_rec z6 ?f fun h7 z7 s7=>?_);replace z7:IsZip h7 z t o (rawInt h5.objs.size):=z7;refine wpAny_setField_rec z7 ?f fun h8 z8 s8=>?_;replace z8:IsZip h8 z t o (rawInt h5.objs.size):=z8;have up:∀ e u,e≠z→h5.get? e=some u→h8.get? e=some u:=fun e u e1 g=>s8.extBut _ _ e1 (s7.extBut _ _ e1 (n2_ _ g));have T8:IsPair h8 h5.objs.size x y:=s8.extBut _ _ (n75_ zl) (s7.extBut _ _ (n75_ zl) (n8_ _ rfl));have l8:h8.objs.size=h5.objs.size+1:=by rw [s8.1,s7.1,n48_]
 rw [sz] at z8 T8 l8;refine n6_ ⟨_,rfl,?_⟩;show Q (.ref h5.objs.size) _
 rw [sz];exact q h8 z8 (up _ _ D.oz o5) (i5.at fun u e=>up _ u D.iz e) (j5.at fun u e=>up _ u D.jz e) T8 l8 fun e u e1 e2 e3 e4 g=>up e u e1 (k5 e u e1 e2 e3 e4 g)
theorem Zth {o i:Addr} {xs:?L} {Q:Fin→?j} (hh:A.handled=none) (D:ZP z t o i j a b)
 (hz:IsZip s.heap z t o .none) (ht:IsPair s.heap t (.ref i) (.ref j)) (ho:IsPair s.heap o c d)
 (hi:k.It s.heap i a m) (hj:l.It s.heap j b n) (ha:k.Is s.heap a xs) (hb:l.Is s.heap b ys) (hx:xs[m]? = none∨ys[n]? = none)
 (q:∀ h1 e,?al→(∃ u,h1.get? e=some u∧u.cls=.type "StopIteration")→E (.ref e) ?V) :
 wpAny ?D A (Builtin.«zip.__next__» ⟨[.ref z],[]⟩) Q E s:=by
 refine n1_ (m:=field (.ref z) 2) (wpAny_field hz rfl (x:=.bool false) rfl ?_);refine n1_ (m:=field (.ref z) 3) (wpAny_field hz rfl (x:=.ref t) rfl (n1_ (wpAny_seqItems ht rfl ?_)));refine n1_ (m:=n45_ (.ref z)) ?_;unfold n45_;refine n1_ (wpAny_field hz rfl (x:=.none) rfl (n6_ ?_));simp only [if_true];refine n1_ (wpAny_rule (n1_ (wpAny_field hz rfl (x:=.ref o) rfl (n1_ (wpAny_setField_rec hz ?f fun h1 z1 s1=>?_)))));replace z1:IsZip h1 z t o .ellipsis:=z1;refine n1_ ?_;simp only [List.zipIdx_cons,List.zipIdx_nil,List.forIn_cons,List.forIn_nil];refine n1_ (n1_ (wpAny_onRaise (n1_ (m:=n28_ (.ref i)) ?_)));cases hm:xs[m]? with
 | none =>
   refine SK.dry hh (hi.at fun u e=>s1.extBut _ _ D.iz e) (ha.at fun u e=>s1.extBut _ _ D.az e) hm fun h2 e s2 ⟨u,g,cu⟩=>?_;have z2:IsZip h2 z t o .ellipsis:=s2 _ _ D.iz.symm z1;have ez:e≠z:=fun r=>by subst r;rw [z2] at g;cases g;simp at cu
   exact wpAny_setField_rec z2 ?f fun h3 _ s3=>q h3 e (fun e' u' e1 _ e3 _ r=>s3.extBut _ _ e1 (s2 _ _ e3 (s1.extBut _ _ e1 r))) ⟨u,s3.extBut _ _ ez g,cu⟩
 | some x =>
   have hn:ys[n]? = none:=by rcases hx with r|r;(rw [hm] at r;cases r);exact r
   refine SK.draw (hi.at fun u e=>s1.extBut _ _ D.iz e) (ha.at fun u e=>s1.extBut _ _ D.az e) hm fun h2 i2 s2=>n6_ ?_;have o2:IsPair h2 o c d:=s2.extBut _ _ D.oi (s1.extBut _ _ D.oz ho);refine n1_ (wpAny_seqItems o2 rfl (n1_ (wpAny_updateSeq_pair o2 fun h3 o3 s3=>?_)));refine n1_ (wpAny_letGo (n6_ (n1_ (n1_ (wpAny_onRaise (n1_ (m:=n28_ (.ref j)) ?_))))));refine SK.dry hh (hj.at fun u e=>s3.extBut _ _ D.oj.symm (s2.extBut _ _ D.ij.symm (s1.extBut _ _ D.jz e))) (hb.at fun u e=>s3.extBut _ _ D.bo (s2.extBut _ _ D.bi (s1.extBut _ _ D.bz e))) hn fun h4 e s4 ⟨u,g,cu⟩=>?_;have z4:IsZip h4 z t o .ellipsis:=s4 _ _ D.jz.symm (s3.extBut _ _ D.oz.symm (s2.extBut _ _ D.iz.symm z1));have ez:e≠z:=fun r=>by subst r;rw [z4] at g;cases g;simp at cu
   exact wpAny_setField_rec z4 ?f fun h5 _ s5=>q h5 e (fun e' u' e1 e2 e3 e4 r=>s5.extBut _ _ e1 (s4 _ _ e4 (s3.extBut _ _ e2 (s2.extBut _ _ e3 (s1.extBut _ _ e1 r))))) ⟨u,s5.extBut _ _ ez g,cu⟩
theorem Zgr {o i:Addr} {xs:?L} {x y:Value} {Q:?C→?j} (D:ZP z t o i j a b)
 (hz:IsZip s.heap z t o .none) (ht:IsPair s.heap t (.ref i) (.ref j)) (ho:IsPair s.heap o c d)
 (hi:k.It s.heap i a m) (hj:l.It s.heap j b n) (ha:k.Is s.heap a xs) (hb:l.Is s.heap b ys) (hx:xs[m]? = some x) (hy:ys[n]? = some y)
 (q:∀ h1,IsZip h1 z t o (rawInt s.z)→IsPair h1 o x y→k.It h1 i a (m+1)→l.It h1 j b (n+1)→IsPair h1 s.z x y→h1.objs.size=s.z+1 →
   ?al→Q (some (.ref s.z)) ?V) :
 wpAny ?D A (pyNext (.ref z)) Q E s:=by
 have hT:s.TypeIs (.ref z) "zip" := ⟨_,hz,rfl⟩;unfold pyNext
 exact n1_ (wpAny_attempt (wpAny_callSpecial?_slot (name:=Str.ofString "__next__") hT F.slot_zip_next (wpAny_call_entry F.slot_zip_next hT F.entry_zip_next
  (Zps D hz ht ho hi hj ha hb hx hy fun h1 r1 r2 r3 r4 r5 r6 r7=>n6_ (q h1 r1 r2 r3 r4 r5 r6 r7)) (F.args_zip_next_1 _))))
theorem Zg3 {o i:Addr} {xs:?L} {Q:?C→?j} (hh:A.handled=none) (D:ZP z t o i j a b)
 (hz:IsZip s.heap z t o .none) (ht:IsPair s.heap t (.ref i) (.ref j)) (ho:IsPair s.heap o c d)
 (hi:k.It s.heap i a m) (hj:l.It s.heap j b n) (ha:k.Is s.heap a xs) (hb:l.Is s.heap b ys) (hx:xs[m]? = none∨ys[n]? = none)
 (q:∀ h1,?al→Q none ?V) :
 wpAny ?D A (pyNext (.ref z)) Q E s:=by
 have hT:s.TypeIs (.ref z) "zip" := ⟨_,hz,rfl⟩;unfold pyNext
 refine n1_ (wpAny_attempt (wpAny_callSpecial?_slot (name:=Str.ofString "__next__") hT F.slot_zip_next (wpAny_call_entry F.slot_zip_next hT F.entry_zip_next
  (Zth hh D hz ht ho hi hj ha hb hx fun h1 e r1 ⟨u,g,cu⟩=>?_) (F.args_zip_next_1 _))))
 exact n1_ (wpAny_isInstance (T := "StopIteration") (b:=true) ⟨u,g,cu⟩ isSubtype_stop (n6_ (q _ r1)))
abbrev zp1 (k:SK) (h:Heap) (a:Addr):Heap:=h.push (k.obj a)
abbrev zp2 (k l:SK) (h:Heap) (a b:Addr):Heap:=(zp1 k h a).push (l.obj b)
abbrev zp3 (k l:SK) (h:Heap) (a b:Addr):Heap:=(zp2 k l h a b).push { cls:=?M,data:=.seq #[.ref h.objs.size,.ref (zp1 k h a).objs.size] }
abbrev zp4 (k l:SK) (h:Heap) (a b:Addr):Heap:=(zp3 k l h a b).push { cls:=?M,data:=.seq #[.none,.none] }
abbrev zp5 (k l:SK) (h:Heap) (a b:Addr):Heap:=(zp4 k l h a b).push { cls:=.type "zip",data:=.fields #[.none,.bool false,.bool false,.ref (zp2 k l h a b).objs.size,.ref (zp3 k l h a b).objs.size] }
theorem Zon (k l:SK) (a b:Addr) (xs ys:?L):Meets (Builtin.«zip.__new__» ⟨[.type "zip",.ref a,.ref b],[]⟩) (fun _ R s=>k.Is s.heap a xs∧l.Is s.heap b ys∧R (.ok (.ret (.ref (zp4 k l s.heap a b).objs.size))) { s with heap:=zp5 k l s.heap a b }) :=
 .of_wp fun prog w A R s h=>by
  obtain ⟨hp,g,d,tk,os⟩:=s;obtain ⟨h1,h2,h⟩:=h;have hsub:=sub_zip;have r1:k.Is (Shared.heap ⟨hp,g,d,tk,os⟩) a xs:=h1;have r2:l.Is (Shared.heap ⟨hp.push (k.obj a),g,d,tk,os⟩) b ys:=SK.Is.at h2 fun o e=>n2_ _ e
  wp_walk using SK.iter r1,SK.iter r2
  exact ⟨_,rfl,h⟩
theorem Zjv {xs:?L} (ha:k.Is s.heap a xs) (hb:l.Is s.heap b ys)
 (q:∀ h1,IsZip h1 (s.z+4) (s.z+2) (s.z+3) .none→IsPair h1 (s.z+2) (.ref s.z) (.ref (s.z+1)) →
   IsPair h1 (s.z+3) .none .none→k.It h1 s.z a 0→l.It h1 (s.z+1) b 0→h1.objs.size=s.z+5 →
   (∀ c o,s.heap.get? c=some o→h1.get? c=some o)→Q (.ref (s.z+4)) ?V) :
 wpAny ?D A (call (.type "zip") [.ref a,.ref b]) Q E s:=by
 refine callType_new F.called_zip ?e (F.typeCall_zip_2 _ _) (F.newCall_zip_2 _ _) (fun obj=>F.args_object_init_3 obj _ _) F.entry_zip_new (Zon k l a b xs ys) ⟨ha,hb,?_⟩;have n1:(zp1 k s.heap a).objs.size=s.z+1:=n48_ ..;have n2:(zp2 k l s.heap a b).objs.size=s.z+2:=by rw [n48_,n1]
 have n3:(zp3 k l s.heap a b).objs.size=s.z+3:=by rw [n48_,n2]
 have n4:(zp4 k l s.heap a b).objs.size=s.z+4:=by rw [n48_,n3]
 have n5:(zp5 k l s.heap a b).objs.size=s.z+5:=by rw [n48_,n4]
 have m5:(zp5 k l s.heap a b).get? (zp4 k l s.heap a b).objs.size=some _:=n8_ _ rfl;have m4:(zp5 k l s.heap a b).get? (zp3 k l s.heap a b).objs.size=some _:=n2_ _ (n8_ _ rfl);have m3:(zp5 k l s.heap a b).get? (zp2 k l s.heap a b).objs.size=some _:=n2_ _ (n2_ _ (n8_ _ rfl));have m2:(zp5 k l s.heap a b).get? (zp1 k s.heap a).objs.size=some _:=n2_ _ (n2_ _ (n2_ _ (n8_ _ rfl)));have m1:(zp5 k l s.heap a b).get? s.z=some _:=n2_ _ (n2_ _ (n2_ _ (n2_ _ (n8_ _ rfl))));show _∧_
 rw [n2,n3,n4] at m5;rw [n1,n2] at m3;rw [n3] at m4;rw [n1] at m2;rw [n4];exact ⟨⟨_,m5,rfl⟩,q _ m5 m3 m4 (.of ⟨_,m1,rfl,rfl⟩) (.of ⟨_,m2,rfl,rfl⟩) n5 fun c o e=>n2_ _ (n2_ _ (n2_ _ (n2_ _ (n2_ _ e))))⟩
end
noncomputable def Itz (k l:SK) (K:PySem.W.Frag) (a b:Addr):It :=
 ⟨fun i H=>∃ xs ys x y,k.Sq K H a xs∧l.Sq K H b ys∧xs[i]? = some x∧ys[i]? = some y,
  fun i H v H'=>∃ p x y,v=.ref p∧H p=none∧H'=upd H p (.tup [x,y])∧(∀ xs,k.Sq K H a xs→xs[i]? = some x)∧∀ ys,l.Sq K H b ys→ys[i]? = some y,
  fun i H=>∃ xs ys,k.Sq K H a xs∧l.Sq K H b ys∧(xs.length≤i∨ys.length≤i)⟩
theorem Zpq {K:PySem.W.Frag} {es:List Expr} {k l:SK} {o i:Addr} (D:ZP z t o i j a b) :
 Turn P w K (.Tuple es x1 tp) (Itz k l K a b) [z,t,o,i,j] z (fun n h=>IsZip h z t o .none∧IsPair h t (.ref i) (.ref j)∧(∃ c d,IsPair h o c d)∧k.It h i a n∧l.It h j b n) where
 mem:=by simp
 obj:=fun n h st e he=>by
  obtain ⟨h1,h2,⟨c,d,h3⟩,h4,h5⟩:=st;simp only [n12_,n16_,or_false] at he
  rcases he with rfl|rfl|rfl|rfl|rfl
  · exact ⟨_,h1,fun v q=>by cases (show Data.fields _=Data.cell v from q)⟩
  · exact ⟨_,h2,fun v q=>by cases (show Data.seq _ _=Data.cell v from q)⟩
  · exact ⟨_,h3,fun v q=>by cases (show Data.seq _ _=Data.cell v from q)⟩
  · obtain ⟨u,e,_,q⟩:=h4.ex;exact ⟨u,e,fun v r=>by rw [q] at r;cases r⟩
  · obtain ⟨u,e,_,q⟩:=h5.ex;exact ⟨u,e,fun v r=>by rw [q] at r;cases r⟩
 keep:=fun n h h' st f=>by
  obtain ⟨h1,h2,⟨c,d,h3⟩,h4,h5⟩:=st;exact ⟨f z ?f _ h1,f t ?f _ h2,⟨c,d,f o ?f _ h3⟩,h4.at fun u e=>f i ?f u e,h5.at fun u e=>f j ?f u e⟩
 item:=by
  intro X hP hw hK hc n pins s σ H E I hf st hg;subst hP hw hK;obtain ⟨h1,h2,⟨c,d,h3⟩,h4,h5⟩:=st;obtain ⟨xs,ys,x,y,q1,q2,hx,hy⟩:=hg;obtain ⟨us,ru,pu⟩:=q1.is I;obtain ⟨vs,rv,pv⟩:=q2.is I;obtain ⟨u,hu,ux⟩:=ru.get hx;obtain ⟨v,hv,vy⟩:=rv.get hy;have lt:∀ {e o'},s.heap.get? e=some o'→e≠s.z:=fun e=>n23_ (n13_ e);refine Zgr D h1 h2 h3 h4 h5 pu pv (x:=u) (y:=v) (by simpa using hu) (by simpa using hv) fun g r1 r2 r3 r4 r5 r6 r7=>?_;refine ⟨_,rfl,wpAny_letOwnedTupleGo_zip r1 fun g2 z2 s2=>?_⟩;have hp:H s.z=none:=I.hok.fresh (n7_ _);have T2:IsPair g2 s.z u v:=s2.extBut _ _ (Ne.symm (lt h1)) r5
  have I2:Inv X pins σ (upd H s.z (.tup [x,y])) { s with heap:=g2,toks:=s.toks }:=by
   refine I.turnNew (ch:=[z,o,i,j]) (fun e o' ne q=>?_) (fun e he=>hf e ?_) (n7_ _) ⟨z2_,[u,v],.cons ux (.cons vy .nil),⟨_,T2,⟨rfl,rfl⟩,_,rfl⟩⟩
   · simp only [n12_,n16_,or_false,not_or] at ne;exact s2.extBut _ _ ne.1 (r7 e o' ne.1 ne.2.1 ne.2.2.1 ne.2.2.2 q)
   · simp only [n12_,n16_,or_false] at he ⊢
     rcases he with q|q|q|q<;>simp [q]
  refine ⟨.ref s.z,_,I2,rfl,⟨_,x,y,rfl,hp,rfl,fun xs' q=>by rw [q.inj q1 I];exact hx,fun ys' q=>by rw [q.inj q2 I];exact hy⟩,⟨z2,?_,⟨u,v,s2.extBut _ _ D.oz r2⟩,r3.at fun u' e=>s2.extBut _ _ D.iz e,r4.at fun u' e=>s2.extBut _ _ D.jz e⟩,fun e he=>?_⟩
  · exact s2.extBut _ _ D.tz (r7 _ _ D.tz D.to D.ti D.tj h2)
  · have ne:e≠s.z:=by
     simp only [n12_,n16_,or_false] at he
     rcases he with rfl|rfl|rfl|rfl|rfl
     · exact lt h1
     · exact lt h2
     · exact lt h3
     · obtain ⟨_,q,_⟩:=h4.ex;exact lt q
     · obtain ⟨_,q,_⟩:=h5.ex;exact lt q
    rw [Zl ne];exact (hf e he).1
 done:=by
  intro X hP hw hK hc n pins s σ H E I hf st hg;subst hP hw hK;obtain ⟨h1,h2,⟨c,d,h3⟩,h4,h5⟩:=st;obtain ⟨xs,ys,q1,q2,hl⟩:=hg;obtain ⟨us,ru,pu⟩:=q1.is I;obtain ⟨vs,rv,pv⟩:=q2.is I;have e1:=ru.length;have e2:=rv.length;refine Zg3 (I.ok.hd hc) D h1 h2 h3 h4 h5 pu pv ?_ fun g r=>⟨rfl,?_⟩
  · rcases hl with q|q
    · left;simp;omega
    · right;simp;omega
  · refine I.turnOnly (t':=s.toks) (ch:=[z,o,i,j]) (fun e o' ne q=>?_) (fun e he=>hf e ?_)
    · simp only [n12_,n16_,or_false,not_or] at ne;exact r e o' ne.1 ne.2.1 ne.2.2.1 ne.2.2.2 q
    · simp only [n12_,n16_,or_false] at he ⊢
      rcases he with q|q|q|q<;>simp [q]
 self:=fun _ _ _ _ _ st h=>wpAny_pyIter_zip st.1 h
theorem Zqr {n:Addr} (la:a<n) (lb:b<n):ZP (n+4) (n+2) (n+3) n (n+1) a b:=by
 constructor<;>(intro h;have h':@Eq Nat _ _:=h;have la':@LT.lt Nat _ _ _:=la;have lb':@LT.lt Nat _ _ _:=lb;clear h la lb;omega)
theorem Zgy:bootBuiltins "zip" = some (.type "zip"):=?i
section
variable {X:Cx} {es:List Expr} {x1:Nat} {tp:Pos}
inductive BxIZip (k l:SK) (K:PySem.W.Frag) (R:It→?w) (vs:List V) (H1:Hp):Prop
 | mk (a:_) (b:_) (q1:vs=[.ref a,.ref b]) (q2:(∃ xs,k.Sq K H1 a xs)) (q3:(∃ ys,l.Sq K H1 b ys)) (q4:R (Itz k l K a b) H1):BxIZip k l K R vs H1
def iZip (k l:SK) (K:PySem.W.Frag) (ta:TA):TI:=fun σ H R=>ta σ H fun vs H1=>BxIZip k l K R vs H1
theorem Inv.fps (I:?s) (h:∀ b∈fp,s.z≤b):∀ b∈fp,FpOk X pins H b:=fun b hb=>I.fpOk (h b hb) (I.hok.fresh (h b hb))
theorem Zif (k l:SK) {a b:Expr} (hg:Gl X "zip") (hm:X.mg "zip" = none) (ha:PA X [a,b] ta) (hs:starEach [a,b] X.env=[(false,eval a X.env),(false,eval b X.env)]:=by rfl) (hs2:starEach [b] X.env=[(false,eval b X.env)]:=by rfl) :
 PI X (.Tuple es x1 tp) (.Call (.Name "zip" p) [a,b] [] pos) (iZip k l X.K ta):=by
 intro pins s σ H R I h;refine Call_ (Zcd I hg hm Zgy (n64_ (thn (ha pos pins s σ H _ I h) fun us s1 ⟨vs,H1,I1,r1,q1⟩=>?_) (by rw [hs,hs2]) (by rw [hs2];rfl)));obtain ⟨a,b,e,⟨xs,hx⟩,⟨ys,hy⟩,q⟩:=q1;subst e;cases r1 with
 | cons r rr =>
   cases rr with
   | cons r' rr =>
     cases rr
     cases r
     cases r'
     obtain ⟨us,ru,pu⟩:=hx.is I1;obtain ⟨ws,rw',pw⟩:=hy.is I1;have la:a<s1.z:=by obtain ⟨_,_,e,_⟩:=pu.ex;exact n13_ e
     have lb:b<s1.z:=by obtain ⟨_,_,e,_⟩:=pw.ex;exact n13_ e
     refine Zjv pu pw fun h1 m1 m2 m3 m4 m5 m6 m7=>wpAny_pyIter_zip m1 ?_;have I2:Inv X pins σ H1 { s1 with heap:=h1,toks:=s1.toks }:=I1.kept m7;refine ⟨_,_,_,_,H1,rfl,I2,Zpq (z:=s1.z+4) (t:=s1.z+2) (o:=s1.z+3) (i:=s1.z) (j:=s1.z+1) (k:=k) (l:=l) (a:=a) (b:=b) ?_,⟨m1,m2,⟨_,_,m3⟩,m4,m5⟩,?_,q⟩
     · exact Zqr la lb
     · have f1:=I1.fps (fp:=[s1.z+4,s1.z+2,s1.z+3,s1.z,s1.z+1]) (by
        intro e he;simp only [n12_,n16_,or_false] at he
        rcases he with rfl|rfl|rfl|rfl|rfl<;>omega)
       exact f1
end
def Ite (k:SK) (K:PySem.W.Frag) (a:Addr):It :=
 ⟨fun i H=>∃ xs x,k.Sq K H a xs∧xs[i]? = some x,
  fun i H v H'=>∃ p x,v=.ref p∧H p=none∧H'=upd H p (.tup [.int i,x])∧∀ xs,k.Sq K H a xs→xs[i]? = some x,
  fun i H=>∃ xs,k.Sq K H a xs∧xs.length=i⟩
theorem SK.draws {prog:Program} {k:SK} (hh:A.handled=none) (it a:Addr) (ne:a≠it) (vs:?L):Draws prog w A it [it,a] vs.size (fun i v=>vs[i]? = some v) (fun i h=>k.It h it a i∧k.Is h a vs) where
 live:=fun _ _ st=>let ⟨o,e,_⟩:=st.1.ex;⟨o,e⟩
 frame:=fun _ _ _ st f=>⟨st.1.at fun o e=>f it ?f o e,st.2.at fun o e=>f a ?f o e⟩
 item:=fun i s Q E hi st q=>SK.draw st.1 st.2 (x:=vs[i]) (by simp [hi]) fun h1 r1 r2=>q _ h1 s.toks (by simp [hi]) ⟨r1,st.2.at fun o e=>r2.extBut _ _ ne e⟩ r2
 done:=fun s Q E st q=>SK.dry hh st.1 st.2 ?f q
theorem Zoj {K:PySem.W.Frag} {es:List Expr} {k:SK} {e:Addr} (n1:e≠it) (n2:a≠e) (n3:a≠it) :
 Turn P w K (.Tuple es x1 tp) (Ite k K a) [e,it] e (fun n h=>(∃ old,IsEnum h e it n old)∧k.It h it a n) where
 mem:=by simp
 obj:=fun n h st b hb=>by
  obtain ⟨⟨old,h1⟩,h2⟩:=st;simp only [n12_,n16_,or_false] at hb
  rcases hb with rfl|rfl
  · exact ⟨_,h1,fun v q=>by cases (show Data.fields _=Data.cell v from q)⟩
  · obtain ⟨u,e,_,q⟩:=h2.ex;exact ⟨u,e,fun v r=>by rw [q] at r;cases r⟩
 keep:=fun n h h' st f=>by
  obtain ⟨⟨old,h1⟩,h2⟩:=st;exact ⟨⟨old,f e ?f _ h1⟩,h2.at fun u q=>f it ?f u q⟩
 item:=by
  intro X hP hw hK hc n pins s σ H E I hf st hg;subst hP hw hK;obtain ⟨⟨old,h1⟩,h2⟩:=st;obtain ⟨xs,x,q1,hx⟩:=hg;obtain ⟨us,ru,pu⟩:=q1.is I;obtain ⟨u,hu,ux⟩:=ru.get hx;have lt:∀ {b o'},s.heap.get? b=some o'→b≠s.z:=fun e=>n23_ (n13_ e);have hlen:n<us.toArray.size:=by have:=(n22_.mp hu).1;simpa using this
  refine wpAny_pyNext_enum_itemD (SK.draws (k:=k) (show X.A.in1.handled=none from I.ok.hd hc) it a n3 us.toArray) h1 ⟨h2,pu⟩ hlen n1 (by simp [n1,n2.symm]) fun v g tk hv r1 r2 r3 r4 r5=>?_
  have ev:v=u:=by
   have:us[n]? = some v:=by simpa using hv
   rw [hu] at this;exact (Option.some.inj this).symm
  subst ev;refine ⟨_,rfl,wpAny_letOwnedTupleGo_enum r1 fun g2 z2 s2=>?_⟩;have hp:H s.z=none:=I.hok.fresh (n7_ _);have T2:g2.get? s.z=some { cls:=?M,data:=.seq #[.int n tk,v] }:=s2.extBut _ _ (Ne.symm (lt h1)) r3
  have I2:Inv X pins σ (upd H s.z (.tup [.int n,x])) { s with heap:=g2,toks:=tk+1 }:=by
   refine I.turnNew (ch:=[e,it]) (fun b o' ne q=>?_) (fun b hb=>hf b hb) (n7_ _) ⟨z2_,[.int n tk,v],.cons ⟨tk,rfl⟩ (.cons ux .nil),⟨_,T2,⟨rfl,rfl⟩,_,rfl⟩⟩;simp only [n12_,n16_,or_false,not_or] at ne;exact s2.extBut _ _ ne.1 (r5 b o' ne.1 ne.2 q)
  refine ⟨.ref s.z,_,I2,rfl,⟨_,x,rfl,hp,rfl,fun xs' q=>by rw [q.inj q1 I];exact hx⟩,⟨⟨v,by simpa using z2⟩,r2.1.at fun u' q=>s2.extBut _ _ n1.symm q⟩,fun b hb=>?_⟩
  have ne:b≠s.z:=by
   simp only [n12_,n16_,or_false] at hb
   rcases hb with rfl|rfl
   · exact lt h1
   · obtain ⟨_,q,_⟩:=h2.ex;exact lt q
  rw [Zl ne];exact (hf b hb).1
 done:=by
  intro X hP hw hK hc n pins s σ H E I hf st hg;subst hP hw hK;obtain ⟨⟨old,h1⟩,h2⟩:=st;obtain ⟨xs,q1,hl⟩:=hg;obtain ⟨us,ru,pu⟩:=q1.is I;have e1:=ru.length;have en:us.toArray.size=n:=by rw [n11_];omega
  subst en;have D:=SK.draws (prog:=X.prog) (w:=X.w) (k:=k) (show X.A.in1.handled=none from I.ok.hd hc) it a n3 us.toArray;refine wpAny_pyNext_enum_endD D h1 ⟨h2,pu⟩ fun g r=>⟨rfl,?_⟩;exact I.turnOnly (t':=s.toks) (ch:=[it]) (fun b o' ne q=>r b o' (by simpa using ne) q) (fun b hb=>hf b (by simp at hb;simp [hb]))
 self:=fun _ _ _ _ _ st h=>by obtain ⟨⟨old,h1⟩,_⟩:=st;exact wpAny_pyIter_enum h1 h
open AutoSeq1 (wpAny_loadPart')
abbrev Zgi (it:Addr):Obj:={ cls:=.type "enumerate",data:=.fields #[.none,.bool false,.ref it,rawInt 0,.none,.none] }
theorem Zlw (k:SK) (a:Addr) (vs:?L) (o:Obj):Meets (Builtin.«enumerate.__new__» ⟨[.type "enumerate",.ref a],[]⟩) (fun _ R s=>s.heap.get? a=some o∧k.Is s.heap a vs ∧
 R (.ok (.ret (.ref (s.heap.push (k.obj a)).objs.size))) { s with heap:=(s.heap.push (k.obj a)).push (Zgi s.z) }) :=
 .of_wp fun prog w A R s h=>by
  obtain ⟨hp,g,d,tk,os⟩:=s;obtain ⟨ho,hk,h⟩:=h;have hsub:=sub_enumerate;have r1:k.Is (Shared.heap ⟨hp,g,d,tk,os⟩) a vs:=hk
  wp_walk using wpAny_loadPart' ho
  refine wpAny_stack_any fun st=>n6_ ?_;split
  · rename_i c _ _ _ _ _
    cases (c == Value.type "enumerate")
    · (wp_walk using wpAny_loadPart' ho,SK.iter r1);exact ⟨_,rfl,h⟩
    · (wp_walk using wpAny_loadPart' ho,SK.iter r1);exact ⟨_,rfl,h⟩
  · (wp_walk using wpAny_loadPart' ho,SK.iter r1);exact ⟨_,rfl,h⟩
section
variable {prog:Program} {w:World} {A:Around} {E:Value→?j} {s:Shared} {k:SK}
theorem Zoe {vs:?L} (ha:k.Is s.heap a vs)
 (q:∀ h1,IsEnum h1 (s.z+1) s.z 0 .none→k.It h1 s.z a 0→(∀ b o,s.heap.get? b=some o→h1.get? b=some o)→Q (.ref (s.z+1)) ?V) :
 wpAny ?D A (call (.type "enumerate") [.ref a]) Q E s:=by
 obtain ⟨o,n,e,d⟩:=ha.ex;refine callType_new F.called_enumerate ?e (F.typeCall_enumerate_1 _) (F.newCall_enumerate_1 _) (fun obj=>F.args_object_init_2 obj _) F.entry_enumerate_new (Zlw k a vs o) ⟨e,ha,?_⟩;have n1:(s.heap.push (k.obj a)).objs.size=s.z+1:=n48_ ..;have m2:((s.heap.push (k.obj a)).push (Zgi s.z)).get? (s.heap.push (k.obj a)).objs.size=some (Zgi s.z):=n8_ _ rfl;have m1:((s.heap.push (k.obj a)).push (Zgi s.z)).get? s.z=some (k.obj a):=n2_ _ (n8_ _ rfl);show _∧_
 rw [n1] at m2;rw [n1];exact ⟨⟨_,m2,rfl⟩,q _ m2 (.of ⟨_,m1,rfl,rfl⟩) fun b o' r=>n2_ _ (n2_ _ r)⟩
end
theorem Zli:bootBuiltins "enumerate" = some (.type "enumerate"):=?i
section
variable {X:Cx} {es:List Expr} {x1:Nat} {tp:Pos}
inductive BxIEnum (k:SK) (K:PySem.W.Frag) (R:It→?w) (vs:List V) (H1:Hp):Prop
 | mk (a:_) (q1:vs=[.ref a]) (q2:(∃ xs,k.Sq K H1 a xs)) (q3:R (Ite k K a) H1):BxIEnum k K R vs H1
def Zwu (k:SK) (K:PySem.W.Frag) (ta:TA):TI:=fun σ H R=>ta σ H fun vs H1=>BxIEnum k K R vs H1
theorem ne3 {n:Addr} (la:a<n):n+1≠n∧a≠n+1∧a≠n:=by
 have la':@LT.lt Nat _ a n:=la;refine ⟨fun h=>?_,fun h=>?_,fun h=>?_⟩<;>(have h':@Eq Nat _ _:=h;clear h la;omega)
theorem Zei (k:SK) {a:Expr} (hg:Gl X "enumerate") (hm:X.mg "enumerate" = none) (ha:PA X [a] ta) (hs:starEach [a] X.env=[(false,eval a X.env)]:=by rfl) :
 PI X (.Tuple es x1 tp) (.Call (.Name "enumerate" p) [a] [] pos) (Zwu k X.K ta):=by
 intro pins s σ H R I h;refine Call_ (Zcd I hg hm Zli (n64_ (thn (ha pos pins s σ H _ I h) fun us s1 ⟨vs,H1,I1,r1,q1⟩=>?_) hs rfl));obtain ⟨a,e,⟨xs,hx⟩,q⟩:=q1;subst e;cases r1 with
 | cons r rr =>
   cases rr
   cases r
   obtain ⟨us,ru,pu⟩:=hx.is I1;have la:a<s1.z:=by obtain ⟨_,_,e,_⟩:=pu.ex;exact n13_ e
   refine Zoe pu fun h1 m1 m4 m7=>wpAny_pyIter_enum m1 ?_;have I2:Inv X pins σ H1 { s1 with heap:=h1,toks:=s1.toks }:=I1.kept m7;obtain ⟨z1,z2,z3⟩:=ne3 la;refine ⟨_,_,_,_,H1,rfl,I2,Zoj (e:=s1.z+1) (it:=s1.z) (k:=k) (a:=a) z1 z2 z3,⟨⟨_,m1⟩,m4⟩,?_,q⟩
   exact I1.fps (fp:=[s1.z+1,s1.z]) (by
    intro e he;simp only [n12_,n16_,or_false] at he
    rcases he with rfl|rfl
    · exact Nat.le_succ _
    · exact n7_ _)
end
theorem Zcz {J:It} {tt:TT} {σ0:St} {Q:VK} (Pv:Nat→St→?w) (h0:Pv 0 σ0 (upd H D (.lst [])))
 (hx:∀ i σ H,i<n→Pv i σ H→J.go i H) (hz:∀ σ H,Pv n σ H→J.stop n H)
 (hs:∀ i x σ2 H2 H3,i<n→J.yld i H2 x H3→Pv i σ2 H2→g x σ2 H3 fun σ4 H4=>tt σ4 H4 fun b H5=>if b=true then te σ4 H5 fun y H6=>∃ ys,H6 D=some (.lst ys)∧ys.length<sizeLine ∧
   ∃ m',m'<n-i∧LcN n Pv (i+1) m' σ4 (upd H6 D (.lst (ys++[y]))) else ∃ m',m'<n-i∧LcN n Pv (i+1) m' σ4 H5)
 (hd:∀ σ2 H2,Pv n σ2 H2→Q (.ref D) H2):LcGo J g tt te σ0 H D Q:=by
 refine ⟨LcN n Pv,⟨_,n47_ _,rfl,h0⟩,?_⟩;rintro i m σ2 H2 ⟨hi,rfl,p⟩
 by_cases hlt:i<n
 · exact .inr ⟨hx i σ2 H2 hlt p,fun x H3 y=>hs i x σ2 H2 H3 hlt y p⟩
 · have e:i=n:=?d
   subst e;exact .inl ⟨hz σ2 H2 p,hd σ2 H2 p⟩
theorem Yu {J:It} {tb:TS} {D:Ends} (Pv:Nat→St→?w) (h0:Pv 0 σ H)
 (hx:∀ i σ H,i<n→Pv i σ H→J.go i H) (hz:∀ σ H,Pv n σ H→J.stop n H)
 (hs:∀ i x σ H H',i<n→J.yld i H x H'→Pv i σ H→g x σ H' fun σ2 H2=>tb { D with nx:=Pv (i+1),ct:=Pv (i+1),bk:=D.nx } σ2 H2) (hd:∀ σ H,Pv n σ H→D.nx σ H) :
 ∃ W:Nat→Nat→St→?w,(∃ m,W 0 m σ H)∧∀ i m σ H,W i m σ H →
   (J.stop i H∧D.nx σ H)∨(J.go i H∧∃ N:St→?w,(∀ σ' H',N σ' H'→∃ m',m'<m∧W (i+1) m' σ' H')∧∀ x H',J.yld i H x H'→g x σ H' fun σ2 H2=>tb { D with nx:=N,ct:=N,bk:=D.nx } σ2 H2):=by
 refine ⟨fun i m σ H=>m=n-i∧i≤n∧Pv i σ H,⟨n,by simp,n47_ _,h0⟩,?_⟩;rintro i m σ H ⟨rfl,hi,p⟩
 by_cases hlt:i<n
 · exact .inr ⟨hx i σ H hlt p,Pv (i+1),fun σ' H' p'=>⟨n-(i+1),?d,rfl,hlt,p'⟩,fun x H' y=>hs i x σ H H' hlt y p⟩
 · have e:i=n:=?d
   subst e;exact .inl ⟨hz σ H p,hd σ H p⟩
end L2
namespace STb
open PySem
noncomputable def step (M:Nat) (q:Nat×Nat):Nat×Nat:=SetTable.leap M q.1 q.2
def nth (M:Nat):Nat→Nat×Nat→Nat×Nat
 | 0,q=>q
 | n+1,q=>nth M n (step M q)
theorem Zqk (M n:Nat) (q:Nat×Nat):nth M (n+1) q=step M (nth M n q):=by
 induction n generalizing q with
 | zero=>rfl
 | succ n ih=>exact ih (step M q)
theorem Zr2 (M a b:Nat) (q:Nat×Nat):nth M (a+b) q=nth M b (nth M a q):=by
 induction a generalizing q with
 | zero=>rw [Nat.zero_add];rfl
 | succ a ih=>rw [Nat.succ_add];exact ih (step M q)
theorem Zsb (M n:Nat) (q:Nat×Nat):(nth M n q).2=q.2/32^n:=by
 induction n generalizing q with
 | zero=>simp [nth]
 | succ n ih =>
   show (nth M n (step M q)).2=_
   rw [ih];show q.2/32/32^n=_
   rw [Nat.div_div_eq_div_mul,Nat.pow_succ,Nat.mul_comm]
noncomputable def fz (M:Nat) (i:Nat):Nat:=(i*5+1) % (M+1)
def fzn (M:Nat):Nat→Nat→Nat
 | 0,i=>i
 | n+1,i=>fzn M n (fz M i)
theorem Zu6 (M n:Nat) (i:Nat):nth M n (i,0)=(fzn M n i,0):=by
 induction n generalizing i with
 | zero=>rfl
 | succ n ih =>
   show nth M n (step M (i,0))=_
   have e:step M (i,0)=(fz M i,0):=by
    unfold step SetTable.leap fz
    simp
   rw [e,ih];rfl
def masks (M:Nat):Prop:=M=7∨M=31∨M=127∨M=15∨M=63∨M=255
def orb (M:Nat):?p:=(List.range (M+1)).map fun n=>fzn M n 0
theorem Ziq (M a b i:Nat):fzn M (a+b) i=fzn M b (fzn M a i):=by
 induction a generalizing i with
 | zero=>rw [Nat.zero_add];rfl
 | succ a ih=>rw [Nat.succ_add];exact ih (fz M i)
def good (M:Nat):Bool:=(List.range (M+1)).all (fun j=>(orb M).contains j)&&fzn M (M+1) 0 == 0
theorem Ztg {M:Nat} (h:masks M):good M=true:=by
 rcases h with rfl|rfl|rfl|rfl|rfl|rfl<;>decide +kernel
theorem Zwn {M i j:Nat} (h:masks M) (hi:i≤M) (hj:j≤M):∃ n,n≤M∧fzn M n i=j:=by
 have g:=Ztg h;unfold good at g;rw [n37_,n52_] at g;obtain ⟨g1,g2⟩:=g;have g2':fzn M (M+1) 0=0:=by simpa using g2
 have mem:∀ j,j≤M→∃ a,a≤M∧fzn M a 0=j:=fun j hj=>by
  have:=g1 j (by simpa using Nat.lt_succ_of_le hj)
  have:j∈orb M:=by simpa using this
  unfold orb at this;obtain ⟨a,ha,e⟩:=n21_.mp this;exact ⟨a,Nat.le_of_lt_succ (n32_.mp ha),e⟩
 obtain ⟨a,ha,ea⟩:=mem i hi;obtain ⟨b,hb,eb⟩:=mem j hj
 by_cases hab:a≤b
 · refine ⟨b-a,?d,?_⟩;rw [← ea,← Ziq,show a+(b-a)=b by omega];exact eb
 · refine ⟨M+1-a+b,?d,?_⟩;rw [← ea,← Ziq,show a+(M+1-a+b)=(M+1)+b by omega,Ziq,g2'];exact eb
theorem Zsc (M:Nat) (q:Nat×Nat):(step M q).1≤M:=Nat.le_of_lt_succ (Nat.mod_lt _ (Nat.succ_pos _))
theorem Zvw {M n:Nat} {q:Nat×Nat} (h:q.1≤M):(nth M n q).1≤M:=by
 cases n with
 | zero=>exact h
 | succ n=>rw [Zqk];exact Zsc M _
theorem Zuy {M i p j:Nat} (h:masks M) (hi:i≤M) (hp:p<2^64) (hj:j≤M):∃ n,n≤M+13∧(nth M n (i,p)).1=j:=by
 have z:(nth M 13 (i,p)).2=0:=by
  rw [Zsb];refine Nat.div_eq_of_lt (n9_ hp ?_);decide
 have e:nth M 13 (i,p)=((nth M 13 (i,p)).1,0):=by rw [← z]
 obtain ⟨n,hn,en⟩:=Zwn h (Zvw (n:=13) (q:=(i,p)) hi) hj;refine ⟨13+n,?d,?_⟩;rw [Zr2,e,Zu6];exact en
theorem Zot (h:Int):SetTable.bits h<2^64:=by
 unfold SetTable.bits;have h1:(0:Int)≤h % 2^64:=Int.emod_nonneg _ ?e;have h2:h % 2^64<2^64:=Int.emod_lt_of_pos _ ?e;omega
theorem Zlr {t:SetTable} {j:Nat} (hd:t.dummies=#[]) (hj:j∉t.place.toList):t.slot j=.empty:=by
 unfold SetTable.slot
 have h1:(t.place[SetTable.below t.place j]? == some j)=false:=by
  rw [beq_eq_false_iff_ne];intro e;exact hj (by simpa using Array.mem_of_getElem? e)
 have h2:SetTable.has t.dummies j=false:=by
  rw [hd];unfold SetTable.has
  simp
 simp only [h1,h2];rfl
theorem Zfq {t:SetTable} {j:Nat} (hd:t.dummies=#[]):t.slot j=.empty∨∃ i,t.slot j=.live i∧t.place[i]? = some j:=by
 by_cases h:t.place[SetTable.below t.place j]? = some j
 · refine .inr ⟨_,?_,h⟩;unfold SetTable.slot;simp only [h,beq_self_eq_true,if_true]
 · left
   have h1:(t.place[SetTable.below t.place j]? == some j)=false:=beq_eq_false_iff_ne.mpr h
   have h2:SetTable.has t.dummies j=false:=by
    rw [hd];unfold SetTable.has
    simp
   unfold SetTable.slot;simp only [h1,h2];rfl
theorem Zjs (l:?p) (n:Nat) (h:l.length<n):∃ j,j<n∧j∉l:=by
 induction n generalizing l with
 | zero=>omega
 | succ n ih =>
   by_cases hm:n∈l
   · obtain ⟨j,hj,hl⟩:=ih (l.filter (·≠n)) (by
      have:(l.filter (·≠n)).length<l.length:=by
       refine List.length_filter_lt_length_iff_exists.mpr ⟨n,hm,by simp⟩
      omega)
     refine ⟨j,?d,fun z=>hl ?_⟩;rw [List.mem_filter];exact ⟨z,by simp;omega⟩
   · exact ⟨n,n87_ n,hm⟩
noncomputable def adv (t:SetTable):Nat→SetTable.Probe→SetTable.Probe
 | 0,p=>p
 | n+1,p=>adv t n (t.advance p)
theorem Zst (t:SetTable) (a b:Nat) (p:SetTable.Probe):adv t (a+b) p=adv t b (adv t a p):=by
 induction a generalizing p with
 | zero=>rw [Nat.zero_add];rfl
 | succ a ih=>rw [Nat.succ_add];exact ih (t.advance p)
noncomputable def Za4 (t:SetTable) (q:Nat×Nat) (d:Option Nat):SetTable.Probe:={ j:=q.1,more:=SetTable.runEnd t.mask q.1-q.1,i:=q.1,perturb:=q.2,dummy:=d }
theorem Zvk (M i:Nat):SetTable.runEnd M i-i≤9:=by
 unfold SetTable.runEnd;split<;>omega
theorem Zmj (t:SetTable):∀ (k:Nat) (p:SetTable.Probe),p.more=k→adv t (k+1) p=Za4 t (step t.mask (p.i,p.perturb)) p.dummy
 | 0,p,h=>by
   show t.advance p=_
   unfold SetTable.advance;rw [if_neg (?d)];rfl
 | k+1,p,h=>by
   show adv t (k+1) (t.advance p)=_
   have e:t.advance p={ p with j:=p.j+1,more:=p.more-1 }:=by
    unfold SetTable.advance;rw [if_pos (?d)]
   rw [e]
   have:=Zmj t k { p with j:=p.j+1,more:=p.more-1 } (by show p.more-1=k;omega)
   rw [this]
theorem Zox (t:SetTable) (n:Nat) (q:Nat×Nat) (d:Option Nat):∃ m,m≤10*n∧adv t m (Za4 t q d)=Za4 t (nth t.mask n q) d:=by
 induction n generalizing q with
 | zero=>exact ⟨0,n7_ _,rfl⟩
 | succ n ih =>
   obtain ⟨m,hm,e⟩:=ih (step t.mask q);refine ⟨(SetTable.runEnd t.mask q.1-q.1)+1+m,?_,?_⟩
   · have:=Zvk t.mask q.1;omega
   · rw [Zst,Zmj t (SetTable.runEnd t.mask q.1-q.1) (Za4 t q d) rfl];exact e
def Near (t:SetTable) (n:Nat) (p:SetTable.Probe):Prop:=∃ m,m≤n∧t.slot (adv t m p).j=.empty
theorem Zls {t:SetTable} {h:Int} (hm:masks t.mask) (hd:t.dummies=#[]) (hl:t.place.size<t.mask+1):Near t (10*(t.mask+13)) (t.probeStart h):=by
 obtain ⟨j,hj,hn⟩:=Zjs t.place.toList (t.mask+1) (by simpa using hl);have hi:SetTable.bits h % (t.mask+1)≤t.mask:=Nat.le_of_lt_succ (Nat.mod_lt _ (Nat.succ_pos _));obtain ⟨n,hn2,e⟩:=Zuy hm hi (Zot h) (Nat.le_of_lt_succ hj);obtain ⟨m,hm2,e2⟩:=Zox t n (SetTable.bits h % (t.mask+1),SetTable.bits h) none;refine ⟨m,?d,?_⟩
 have:t.probeStart h=Za4 t (SetTable.bits h % (t.mask+1),SetTable.bits h) none:=rfl
 rw [this,e2];show t.slot (nth t.mask n _).1=.empty
 rw [e];exact Zlr hd hn
theorem Zib (t:SetTable):∀ (n:Nat) (p:SetTable.Probe),(adv t n p).dummy=p.dummy
 | 0,_=>rfl
 | n+1,p=>by
   show (adv t n (t.advance p)).dummy=_
   rw [Zib t n];unfold SetTable.advance;split<;>rfl
theorem Znq {t:SetTable} {f:Nat→Int} {h:Int} (hd:t.dummies=#[]):∀ (n:Nat) (fuel:Nat) (p:SetTable.Probe),p.dummy=none→Near t n p→n<fuel →
 (∃ j,SetTable.probe.go t f h fuel p=some (.empty j none)∧t.slot j=.empty) ∨
 (∃ j i q,SetTable.probe.go t f h fuel p=some (.candidate j i q)∧t.slot j=.live i∧t.place[i]? = some j∧q.dummy=none∧∃ n',n'<n∧Near t n' q)
 | n,0,p,_,_,hf=>?d
 | n,fuel+1,p,hp,⟨m,hm,e⟩,hf=>by
   rcases Zfq (j:=p.j) hd with hs|⟨i,hs,hi⟩
   · left
     refine ⟨p.j,?_,hs⟩;unfold SetTable.probe.go;rw [hs,hp]
   · have hm0:m≠0:=by
      rintro rfl
      have:t.slot p.j=.empty:=e
      rw [hs] at this;cases this
     obtain ⟨k,rfl⟩:∃ k,m=k+1:=⟨m-1,?d⟩;have e':t.slot (adv t k (t.advance p)).j=.empty:=e
     have hp':(t.advance p).dummy=none:=by
      have:=Zib t 1 p
      exact this.trans hp
     by_cases hc:(f i == h)=true
     · right
       refine ⟨p.j,i,t.advance p,?_,hs,hi,hp',n-1,?d,k,?d,e'⟩;unfold SetTable.probe.go;rw [hs];simp only [hc,if_true]
     · have:=Znq (f:=f) (h:=h) hd (n-1) fuel (t.advance p) hp' ⟨k,?d,e'⟩ (?d)
       have eq:SetTable.probe.go t f h (fuel+1) p=SetTable.probe.go t f h fuel (t.advance p):=by
        conv=>lhs;unfold SetTable.probe.go
        rw [hs];simp only [hc,if_false];rfl
       rw [eq]
       rcases this with r|⟨j,i',q,r1,r2,r3,r4,n',r5,r6⟩
       · exact .inl r
       · exact .inr ⟨j,i',q,r1,r2,r3,r4,n',?d,r6⟩
theorem Zhv {M:Nat} {owner:Array (Option Nat)}:∀ (n fuel:Nat) (q:Nat×Nat),(∃ m,m≤n∧(owner.getD (nth M m q).1 (some 0)).isNone=true)→n<fuel →
 ∃ j,SetTable.layClean.free M owner fuel q.1 q.2=some j∧(owner.getD j (some 0)).isNone=true
 | n,0,_,_,hf=>?d
 | n,fuel+1,q,⟨m,hm,e⟩,hf=>by
   unfold SetTable.layClean.free;cases hfi:(List.range (SetTable.runEnd M q.1+1-q.1)).find? fun k=>(owner.getD (q.1+k) (some 0)).isNone with
   | some k =>
     refine ⟨q.1+k,rfl,?_⟩;exact (List.find?_some (p:=fun k=>(owner.getD (q.1+k) (some 0)).isNone) hfi)
   | none =>
     have hm0:m≠0:=by
      rintro rfl
      have e0:(owner.getD q.1 (some 0)).isNone=true:=e
      have:=List.find?_eq_none.mp hfi 0 (by
       rw [n32_];unfold SetTable.runEnd;split<;>omega)
      rw [Nat.add_zero] at this;exact this e0
     obtain ⟨k,rfl⟩:∃ k,m=k+1:=⟨m-1,?d⟩;exact Zhv (n-1) fuel (step M q) ⟨k,?d,e⟩ (?d)
noncomputable def cnt (owner:Array (Option Nat)):Nat:=owner.toList.countP (·.isSome)
structure Own (M n:Nat) (owner:Array (Option Nat)):Prop where
 size:owner.size=M+1
 cnt:cnt owner=n
 lt:∀ (j k:Nat),owner[j]? = some (some k)→k<n
theorem Zaz {α:Type} (p:α→Bool):∀ (l:List α),l.countP p<l.length→∃ (j:Nat) (x:α),l[j]? = some x∧p x=false
 | [],h=>by simp at h
 | x :: l,h=>by
   by_cases hx:p x=true
   · rw [List.countP_cons,if_pos hx,n29_] at h;obtain ⟨j,y,e,hy⟩:=Zaz p l (?d);exact ⟨j+1,y,by simpa using e,hy⟩
   · exact ⟨0,x,rfl,by simpa using hx⟩
theorem Zfk {α:Type} (p:α→Bool):∀ (l:List α) (j:Nat) (x y:α),l[j]? = some x→p x=false→p y=true→(l.set j y).countP p=l.countP p+1
 | [],j,x,y,h,_,_=>by simp at h
 | z :: l,0,x,y,h,hx,hy=>by
   have:z=x:=by simpa using h
   subst this;simp [List.countP_cons,hx,hy]
 | z :: l,j+1,x,y,h,hx,hy=>by
   have:=Zfk p l j x y (by simpa using h) hx hy
   simp only [List.set_cons_succ,List.countP_cons,this];omega
theorem Own.free {M n:Nat} {owner:Array (Option Nat)} (o:Own M n owner) (hm:masks M) (hn:n<M+1) (h:Int):∃ j,SetTable.layClean.free M owner (SetTable.turns M) (SetTable.bits h % (M+1)) (SetTable.bits h)=some j∧owner[j]? = some none:=by
 obtain ⟨j,x,e,hx⟩:=Zaz (fun x:Option Nat=>x.isSome) owner.toList (by
  have:owner.toList.countP (fun x:Option Nat=>x.isSome)=n:=o.cnt
  rw [this,Array.length_toList,o.size];exact hn)
 have hj:j≤M:=by
  have:=(n22_.mp e).1
  rw [Array.length_toList,o.size] at this;omega
 have e':owner[j]? = some x:=by simpa using e
 obtain ⟨m,hm2,em⟩:=Zuy hm (Nat.le_of_lt_succ (Nat.mod_lt (SetTable.bits h) (Nat.succ_pos M))) (Zot h) hj
 obtain ⟨j',r1,r2⟩:=Zhv (M:=M) (owner:=owner) (M+13) (SetTable.turns M) (SetTable.bits h % (M+1),SetTable.bits h) ⟨m,hm2,by
  rw [em,Array.getD_eq_getD_getElem?,e'];cases x with
  | none=>rfl
  | some _=>cases hx⟩ (by unfold SetTable.turns;omega)
 refine ⟨j',r1,?_⟩;rw [Array.getD_eq_getD_getElem?] at r2;cases q:owner[j']? with
 | none=>rw [q] at r2;cases r2
 | some y =>
   rw [q] at r2;cases y with
   | none=>rfl
   | some _=>cases r2
theorem Own.put {M n:Nat} {owner:Array (Option Nat)} (o:Own M n owner) {j:Nat} (hj:owner[j]? = some none):Own M (n+1) (owner.setIfInBounds j (some n)) where
 size:=by rw [Array.size_setIfInBounds];exact o.size
 cnt:=by
  unfold STb.cnt;rw [Array.toList_setIfInBounds];rw [Zfk (fun x:Option Nat=>x.isSome) owner.toList j none (some n) (by simpa using hj) rfl rfl]
  have:owner.toList.countP (fun x:Option Nat=>x.isSome)=n:=o.cnt
  rw [this]
 lt:=fun i k e=>by
  rw [Array.getElem?_setIfInBounds] at e;split at e
  · split at e
    · have:n=k:=by simpa using e
      omega
    · cases e
  · have:=o.lt i k e;omega
noncomputable def Zek (M:Nat) (acc:Option (Array (Option Nat)×Nat)) (h:Int):Option (Array (Option Nat)×Nat):=do
 let (owner,k) ← acc
 let j ← SetTable.layClean.free M owner (SetTable.turns M) (SetTable.bits h % (M+1)) (SetTable.bits h)
 pure (owner.setIfInBounds j (some k),k+1)
theorem own0 (M:Nat):Own M 0 (Array.replicate (M+1) none) where
 size:=by simp
 cnt:=by
  unfold STb.cnt;rw [Array.toList_replicate,List.countP_replicate];rfl
 lt:=fun j k e=>by
  rw [Array.getElem?_replicate] at e;split at e<;>cases e
theorem Xm {α β:Type} (f:α→Option β):∀ l:List α,(l.filterMap f).length=l.countP (fun x=>(f x).isSome)
 | []=>rfl
 | x :: l=>by
   rw [List.countP_cons];cases h:f x with
   | none=>rw [List.filterMap_cons_none h,Xm f l];simp
   | some y=>rw [List.filterMap_cons_some h,n29_,Xm f l];simp
theorem Zkd {M n:Nat} {owner:Array (Option Nat)} (o:Own M n owner):(?ao).length=n:=by
 rw [Xm]
 have e:(List.range (M+1)).countP (fun j=>((owner.getD j none).map (j,·)).isSome)=(List.range owner.size).countP (fun j=>(owner.getD j none).isSome):=by
  rw [o.size];refine List.countP_congr fun j _=>?_;cases owner.getD j none<;>simp
 rw [e]
 have e2:owner.toList=(List.range owner.size).map (fun j=>owner.getD j none):=by
  refine n91_ ?f fun i h1 h2=>?_;have hi:i<owner.size:=by simpa using h1
  simp [Array.getD,hi]
 have:=o.cnt
 unfold STb.cnt at this;rw [e2,List.countP_map] at this;exact this
theorem pick_size {α:Type} {es:Array α} {order:Array Nat} (h1:order.size=es.size) (h2:∀ k∈order.toList,k<es.size):(order.filterMap (es[·]?)).size=es.size∧∀ x∈(order.filterMap (es[·]?)).toList,x∈es.toList:=by
 constructor
 · rw [← Array.length_toList,Array.toList_filterMap,Xm,← h1,← Array.length_toList];rw [List.countP_eq_length];intro k hk
   have:k<es.size:=h2 k hk
   simp [this]
 · intro x hx;rw [Array.toList_filterMap] at hx;obtain ⟨k,_,e⟩:=List.mem_filterMap.mp hx;exact by simpa using Array.mem_of_getElem? e
theorem insertAt_size {α:Type} (xs:Array α) (p:Nat) (x:α):(SetTable.insertAt xs p x).size=xs.size+1:=by
 unfold SetTable.insertAt;simp only [Array.size_append,Array.size_push,Array.size_extract];omega
end STb
namespace L2
open PySem PySem.Spec PyProof.Rows
variable {it l:Addr} {items:?L} {env:Env} {k n:Nat} {pos:Pos} {ta:TA}
section
variable {prog:Program} {w:World} {A:Around} {E:Value→?j} {s:Shared} {K:Type} [DecidableEq K] {knd:KeyKind prog w K}
theorem Zte {M:Nat} (hn:n≤30) (hm:STb.masks M) (h:n*5 ≥ M*3) (h2:(n-1)*5<M*3):STb.masks (SetTable.sizeAbove (SetTable.grown n)-1)∧n<SetTable.sizeAbove (SetTable.grown n)-1+1∧n*5<(SetTable.sizeAbove (SetTable.grown n)-1)*3∧¬ SetTable.sizeAbove (SetTable.grown n)>sizeLine:=by
 rcases hm with rfl|rfl|rfl|rfl|rfl|rfl
 · have:n=5:=?d
   subst this;exact ⟨.inr (.inl (?i)),?i,?i,?i⟩
 · have:n=19:=?d
   subst this;exact ⟨.inr (.inr (.inl (?i))),?i,?i,?i⟩
 · omega
 · have:n=9:=?d
   subst this;exact ⟨.inr (.inr (.inr (.inr (.inl (?i))))),?i,?i,?i⟩
 · omega
 · omega
theorem Zmo (t:SetTable) (j:Nat):(t.put j).1.place.size=t.place.size+1∧(t.dummies=#[]→(t.put j).1.dummies=#[])∧(t.put j).1.mask=t.mask:=by
 unfold SetTable.put;refine ⟨STb.insertAt_size _ _ _,fun hd=>?_,rfl⟩
 have h2:SetTable.has t.dummies j=false:=by
  rw [hd];unfold SetTable.has
  simp
 simp only [h2];exact hd
end
section
variable {prog:Program} {w:World} {A:Around} {s:Shared} {K:Type} [DecidableEq K] {knd:KeyKind prog w K}
theorem Zf1:isSubtype (?M) (.type "set")=pure false:=by rw [isSubtype_type];kernel_rfl
theorem Zbt:isSubtype (?M) (.type "frozenset")=pure false:=by rw [isSubtype_type];kernel_rfl
set_option maxHeartbeats 3200000 in
end
section
variable {X:Cx}
theorem Zg8:∀ {ns:?g} {us:?t} {i:Nat} {v:Value},Vals ?U us→us[i]? = some v→∃ t,v=.int (ns.getD i 0) t
 | [],_,i,v,.nil,e=>by simp at e
 | n :: ns,_,0,v,.cons r t,e=>by
   obtain ⟨k,rfl⟩:=r
   have:v=.int n k:=by simpa using e.symm
   exact ⟨k,this⟩
 | n :: ns,_,i+1,v,.cons r t,e=>by
   obtain ⟨k,h⟩:=Zg8 t (by simpa using e);exact ⟨k,by simpa using h⟩
theorem Zfj:∀ (ns:?g) (acc:?g),preSum (fun i=>(acc++ns).getD i 0) (acc.length+ns.length)=preSum (fun i=>(acc++ns).getD i 0) acc.length+ns.sum
 | [],acc=>by simp
 | n :: ns,acc=>by
   have:=Zfj ns (acc++[n])
   rw [List.append_assoc] at this;simp only [n33_,n29_,List.length_nil,List.singleton_append] at this ⊢;rw [show acc.length+(ns.length+1)=acc.length+(0+1)+ns.length by omega,this]
   have e:preSum (fun i=>(acc++n :: ns).getD i 0) (acc.length+(0+1))=preSum (fun i=>(acc++n :: ns).getD i 0) acc.length+n:=by
    show preSum (fun i=>(acc++n :: ns).getD i 0) acc.length+(acc++n :: ns).getD acc.length 0=_
    congr 1
    simp
   rw [e,n46_,Int.add_assoc]
inductive BxRc_sumI (K:PySem.W.Frag) (xs:List V) (H:Hp) (Q:VK):Prop
 | mk (p:Addr) (ns:?g) (q1:xs=[.ref p]) (q2:SqL K H p ?U) (q3:Q (.int ns.sum) H):BxRc_sumI K xs H Q
def Ztq (K:PySem.W.Frag):?W:=fun xs H Q=>BxRc_sumI K xs H Q
theorem Zn0 (hc:X.calm=true):Xl X (.builtin "sum") (Ztq X.K):=by
 intro pins s σ H xs us Q I r h;obtain ⟨p,ns,rfl,hq,q⟩:=h;cases r with
 | cons rx r =>
   cases r
   cases (show _=Value.ref p from rx)
   obtain ⟨its,rv,pl,hz⟩:=I.list hq;have hl:=pl.isList;have hlt:p<s.z:=by obtain ⟨_,e,_⟩:=hl;exact n13_ e
   have hh:X.A.handled=none:=I.ok.hd hc;refine call_sum_walkG (wpAny_pyIter_list hl ⟨s.z,[s.z,p],[s.z],its.toArray.size,_,_,fun i=>ns.getD i 0,rfl,Walks.list (A:=X.A.in1) hh _ p (n23_ hlt) its.toArray,⟨⟨_,n8_ _ rfl,rfl,rfl⟩,hl.push _⟩,fun b hb=>?_,fun i v hP=>Zg8 rv (by simpa using hP),fun h' tk t' hk=>?_⟩)
   · simp only [n12_,n16_,or_false] at hb;show b<(s.heap.push _).objs.size
     rw [n48_]
     rcases hb with rfl|rfl
     · exact n87_ _
     · exact n55_ hlt
   · have e:preSum (fun i=>ns.getD i 0) its.toArray.size=ns.sum:=by
      have:=Zfj ns []
      simp only [n61_,List.length_nil,Nat.zero_add] at this;rw [n11_,← rv.length,n3_,this];show preSum _ 0+_=_
      simp [preSum]
     rw [e];exact ⟨.int _,H,I.kept (Znz hk),?K,q⟩
end
section
variable {prog:Program} {w:World} {A:Around} {E:Value→?j} {s:Shared}
theorem Zrr (ne:l≠it):∀ (n i:Nat) (s:Shared) (Q:?t→?j),s.heap.IsListIter it l i→s.heap.IsList l items→i+n≤items.size →
 (∀ h',h'.IsListIter it l (i+n)→Heap.SameBut it s.heap h'→Q ((items.toList.drop i).take n) ?T)→wpAny ?D A (draw (.ref it) n) Q E s
 | 0,i,s,Q,hit,_,_,q=>by
   show wpAny _ _ (pure []) Q E s
   exact n6_ (by simpa using q s.heap hit (Heap.SameBut.refl ..))
 | n+1,i,s,Q,hit,hl,hle,q=>by
   have hlt:i<items.size:=?d
   refine n1_ (m:=pyNext (.ref it)) (wpAny_pyNext_list_item hit hl (x:=items[i]) (by simp [hlt]) fun h1 it1 s1=>?_);refine n1_ (n38_ (Zrr ne n (i+1) _ _ it1 (hl.extBut s1.extBut ne) (?d) fun h2 it2 s2=>n6_ ?_));have e:items.toList.drop i=items[i] :: items.toList.drop (i+1):=by simp [List.drop_eq_getElem_cons,hlt]
   have z:=q h2 (by rw [show i+(n+1)=i+1+n by omega];exact it2) (s1.trans s2);rw [e,n76_] at z;exact z
theorem Zf6 {Q:?t→?j} (hh:A.handled=none) (hl:s.heap.IsList l items)
 (q:∀ h',Heap.ExtBut s.z s.heap h'→Q items.toList ?T):wpAny ?D A (unpackItems (.ref l) items.size none) Q E s:=by
 have ne:l≠s.z:=by obtain ⟨o,ho,_⟩:=hl;exact n23_ (n13_ ho)
 unfold unpackItems;refine n1_ ?_
 · unfold notIterableAtAll;refine n1_ (wpAny_specialOf hl.typeIs F.slot_list_iter.lookup (n6_ ?_));simp only [n39_,if_false];refine n1_ (n38_ (wpAny_pyIter_list hl ?_));refine n1_ (n38_ (Zrr ne items.size 0 _ _ ⟨_,n8_ _ rfl,rfl,rfl⟩ (hl.push _) (?d) fun h1 it1 s1=>?_));rw [show List.take items.size (List.drop 0 items.toList)=items.toList by rw [n86_];exact n34_ ?f,if_neg ?f];refine n1_ (n38_ (wpAny_pyNext_list_end hh it1 ((hl.push _).extBut s1.extBut ne) ?f fun h2 e2=>?_));simp only [Option.isSome_none,n39_,if_false];refine n6_ (q h2 fun b o hb e=>e2 b o hb (s1.extBut b o hb (n2_ _ e)))
theorem Zqb {elts:List Expr} {x1} {Q:Unit→?j} (hh:A.handled=none) (hl:s.heap.IsList l items)
 (hn:(assignEach elts env).length=items.size) (hs:(assignEach elts env).findIdx? (·.1)=none)
 (h:∀ h',Heap.ExtBut s.z s.heap h'→wpAny ?D A (assignInOrder ((assignEach elts env).map (·.2)) items.toList) Q E ?T) :
 wpAny ?D A (assign (.Tuple elts x1 pos) env (.ref l)) Q E s:=by
 rw [assign_Tuple];refine n1_ (wpAny_standAt ?_);unfold unpack;rw [hn,hs];exact n1_ (n38_ (Zf6 hh hl h))
end
section
variable {X:Cx} {pos:Pos}
inductive BxGLst (K:PySem.W.Frag) (n:Nat) (t:TGs) (v:V) (σ:St) (H:Hp) (Q:St→?w):Prop
 | mk (a:_) (xs:_) (q1:v=.ref a) (q2:SqL K H a xs) (q3:xs.length=n) (q4:t xs σ H Q):BxGLst K n t v σ H Q
def gLst (K:PySem.W.Frag) (n:Nat) (t:TGs):TG:=fun v σ H Q=>BxGLst K n t v σ H Q
theorem Zvc {es:List Expr} {t:TGs} (hc:X.calm=true) (h:PGs X es t) (hn:(assignEach es X.env).length=n:=by rfl) (hst:(assignEach es X.env).findIdx? (·.1)=none:=by rfl):PG X (.Tuple es k pos) (gLst X.K n t):=by
 intro pins s σ H v u Q I r hw;obtain ⟨a,xs,e1,hq,hl,hw⟩:=hw;subst e1;cases r
 obtain ⟨its,rv,pl,hz⟩:=I.list hq;refine Zqb (I.ok.hd hc) pl.isList (by simp [hn,← hl,rv.length]) hst fun h' hx=>?_;have I1:Inv X pins σ H ?T:=I.kept (t':=s.toks) fun b o e=>hx b o (n23_ (n13_ e)) e;exact h pins _ σ H xs _ Q I1 (by simpa using rv) hw
inductive BxRc_sortedI (K:PySem.W.Frag) (xs:List V) (H:Hp) (Q:VK):Prop
 | mk (p:Addr) (ns:?g) (q1:xs=[.ref p]) (q2:SqL K H p ?U) (q3:ns.length<64) (q4:∀ (l:Addr) (ns':?g),H l=none→ns'.Perm ns→ns'.Pairwise (·≤·)→Q (.ref l) (upd H l (.lst (ns'.map V.int)))):BxRc_sortedI K xs H Q
def Zfy (K:PySem.W.Frag):?W:=fun xs H Q=>BxRc_sortedI K xs H Q
theorem Zg0:Xl X (.builtin "sorted") (Zfy X.K):=by
 intro pins s σ H xs us Q I r h;obtain ⟨p,ns,rfl,hq,h64,q⟩:=h;cases r with
 | cons rx r =>
   cases r
   cases (show _=Value.ref p from rx)
   obtain ⟨its,rv,pl,hz⟩:=I.list hq;have hlen:=rv.length;rw [n3_] at hlen;refine sorted_ints pl.isList (Zbg rv) (?d) fun out ns' a1 a2 a3=>?_;obtain ⟨e,he⟩:=sortedAll_at s.heap its out;have fr:H (s.z+1)=none:=I.hok.fresh (Nat.le_succ _);refine ⟨.ref (s.z+1),_,I.laid (o:=.lst (ns'.map V.int)) (t':=s.toks) (fun b u e=>sortedAll_old e) (Nat.le_succ _) ⟨?_,out.toList,e,Zdu a1,by simpa using he⟩,rfl,q _ ns' fr a2 a3⟩;rw [n3_,a2.length_eq,sizeLine_eq];omega
theorem Zip:∀ {l:?t} (k:Nat),l.length=n→(∀ (j:Nat) (v:Value),l[j]? = some v→∃ t,v=.int ((k:Int)+j) t)→Vals ((List.range' k n).map fun i:Nat=>V.int i) l:=by
 induction n with
 | zero=>intro l k hl _;cases l with
   | nil=>exact .nil
   | cons _ _=>simp at hl
 | succ n ih =>
   intro l k hl h;cases l with
   | nil=>simp at hl
   | cons x l =>
     obtain ⟨t,rfl⟩:=h 0 x rfl;refine .cons ⟨t,by simp⟩ (ih (k+1) (by simpa using hl) fun j v e=>?_);obtain ⟨t',e'⟩:=h (j+1) v (by simpa using e);exact ⟨t',by rw [e'];congr 1;omega⟩
theorem Zq2 {a:Expr} {p2 q2:Pos} (hg2:Gl X "range") (hm2:X.mg "range" = none) (ha:PA X [a] ta) (he:starEach [a] X.env=[(false,eval a X.env)]:=by rfl) :
 PE X (.Call (.Name "range" p2) [a] [] q2) (fun σ H Q=>ta σ H fun vs H1=>∃ n:Nat,vs=[.int n]∧∀ r,H1 r=none→Q (.ref r) (upd H1 r (.rng 0 n))):=by
 intro pins s σ H Q I h;refine Call_ (Zcd I hg2 hm2 boot_range (n64_ (thn (ha q2 pins s σ H _ I h) fun us s1 ⟨vs,H1,I1,r1,q1⟩=>?_) he rfl));obtain ⟨n,rfl,q⟩:=q1;cases r1 with
 | cons r rr =>
   cases rr
   obtain ⟨t,rfl⟩:=r;refine call_range_1 ?_;have fr:H1 s1.z=none:=I1.hok.fresh (n7_ _);exact ⟨.ref s1.z,_,I1.laid (o:=.rng 0 n) (fun b o e=>n2_ _ e) (n7_ _) ⟨_,_,_,n8_ _ rfl⟩,rfl,q _ fr⟩
inductive BxRc_listR  (xs:List V) (H:Hp) (Q:VK):Prop
 | mk (r:Addr) (n:Nat) (q1:xs=[.ref r]) (q2:H r=some (.rng 0 n)) (q3:n≤1000) (q4:∀ l,H l=none→Q (.ref l) (upd H l (.lst ((List.range n).map fun i:Nat=>V.int i)))):BxRc_listR xs H Q
def Zp8  : ?W:=fun xs H Q=>BxRc_listR xs H Q
theorem Zfh (hc:X.calm=true):Xl X (.type "list") (Zp8):=by
 intro pins s σ H xs us Q I r h;obtain ⟨a,n,rfl,hr,hn,q⟩:=h;cases r with
 | cons rx r =>
   cases r
   cases (show _=Value.ref a from rx)
   obtain ⟨t,u,v,e⟩:=(show ObjOk X.prog X.w H s.heap a (.rng 0 n) from I.hok a _ hr);have fr:H s.z=none:=I.hok.fresh (n7_ _);refine call_list_range (n:=n) (I.ok.hd hc) e (small_one (?d) (?d) (?d) (?d)) (by rw [rangeSize_one];split<;>omega) (?d) fun h' tk acc c k hS it=>?_;refine ⟨.ref s.z,_,I.laid (o:=.lst ((List.range n).map fun i:Nat=>V.int i)) (t':=tk) k (n7_ _) ⟨?_,acc.toList,c,?_,by simpa using hS⟩,rfl,q _ fr⟩
   · rw [n3_,n69_,sizeLine_eq];omega
   · rw [List.range_eq_range'];refine Zip 0 (by rw [Array.length_toList];exact it.1) fun j v e=>?_;obtain ⟨t',e'⟩:=it.2 j v (by simpa using e);exact ⟨t',by rw [e'];congr 1;omega⟩
end
noncomputable def Zuw (c t0 i0 i1:Expr) (it acc:Value) (env:Env):Sem Fin:=do
 standAt i0.pos
 match ← pyNext it with
 | none=>pure (.done .next)
 | some v =>
   letOwnedTupleGo t0 it v
   assign t0 env v
   let mut ok:=true
   for c in ([]:List Expr) do
    if ok then ok ← isTrue c env (eval c env)
   if ok then do
    let x ← eval i1 env
    standAt i1.pos
    let x ← foldedSetIterable i1 env x
    let _ ← runOwn (.compStart c 1 (← holding [x] (pyIter x)) acc env) env
    again (.compLoop c 0 it acc env)
   else again (.compLoop c 0 it acc env)
end L2
namespace L2
open PySem PySem.Spec PyProof.Rows PySem.W
noncomputable def krun {α:Type} (f:Nat→Nat→Bool):KasT α→α
 | .ret a=>a
 | .ask i j k=>krun f (k (f i j))
noncomputable def kin {α:Type} (n:Nat) (f:Nat→Nat→Bool):KasT α→Bool
 | .ret _=>true
 | .ask i j k=>decide (i<n)&&decide (j<n)&&kin n f (k (f i j))
variable {α:Type} {a l:Addr} {n:Nat} {s:Shared} {Q:Value→?j}
theorem Zn1 {f:Nat→Nat→Bool} {cmp:Nat→Nat→(Bool→?j)→?j} {Q:α→?j} (hc:∀ i j C,i<n→j<n→C (f i j) s→cmp i j C s) :
 ∀ (t:KasT α),kin n f t=true→Q (krun f t) s→t.kasWp cmp Q s
 | .ret a,_,h=>h
 | .ask i j k,hk,h=>by
   unfold kin at hk;rw [n37_,n37_] at hk;exact hc i j _ (n49_ hk.1.1) (n49_ hk.1.2) (Zn1 hc (k (f i j)) hk.2 h)
noncomputable def fB (b:Nat→Nat→Bool) (i j:Nat):Bool:=if i<j then b i j else if j<i then !b j i else false
noncomputable def tot (n:Nat) (f:Nat→Nat→Bool):Bool:=(List.range n).all fun i=>(List.range n).all fun j=>(List.range n).all fun k=>!(f i j&&f j k)||f i k
noncomputable def srt (f:Nat→Nat→Bool):?p→Bool
 | []=>true
 | [_]=>true
 | i :: j :: r=>f i j&&srt f (j :: r)
def fine (n:Nat) (f:Nat→Nat→Bool):Bool:=!tot n f||(kin n f (kas_sort n)&&(krun f (kas_sort n)).toList.isPerm (List.range n)&&srt f (krun f (kas_sort n)).toList)
noncomputable def g2 (a:Bool):Nat→Nat→Bool:=fun _ _=>a
noncomputable def g3 (a b c:Bool):Nat→Nat→Bool:=fun i j=>if i=0 then (if j=1 then a else b) else c
noncomputable def g4 (a b c d e g:Bool):Nat→Nat→Bool:=fun i j=>if i=0 then (if j=1 then a else if j=2 then b else c) else if i=1 then (if j=2 then d else e) else g
theorem Zwh:∀ a,fine 2 (fB (g2 a))=true:=?i
theorem Zwl:∀ a b c,fine 3 (fB (g3 a b c))=true:=?i
theorem Zwf:∀ a b c d e g,fine 4 (fB (g4 a b c d e g))=true:=?i
theorem Zow {f f':Nat→Nat→Bool} (h:∀ i j,i<n→j<n→f i j=f' i j):∀ (t:KasT α),kin n f' t=true→kin n f t=true∧krun f t=krun f' t
 | .ret a,_=>⟨rfl,rfl⟩
 | .ask i j k,hk=>by
   unfold kin at hk;rw [n37_,n37_] at hk;obtain ⟨⟨h1,h2⟩,h3⟩:=hk;have e:=h i j (n49_ h1) (n49_ h2);obtain ⟨r1,r2⟩:=Zow h (k (f' i j)) h3;refine ⟨?_,?_⟩
   · unfold kin;rw [e,h1,h2,r1];rfl
   · show krun f (k (f i j))=krun f' (k (f' i j))
     rw [e];exact r2
structure Ord (n:Nat) (f:Nat→Nat→Bool):Prop where
 irr:∀ i,i<n→f i i=false
 ant:∀ i j,i<n→j<n→i≠j→f j i = !f i j
 tr:∀ i j k,i<n→j<n→k<n→f i j=true→f j k=true→f i k=true
theorem Zg1 {f f':Nat→Nat→Bool} (h:∀ i j,i<n→j<n→f i j=f' i j):∀ (l:?p),(∀ i∈l,i<n)→srt f l=srt f' l
 | [],_=>rfl
 | [_],_=>rfl
 | i :: j :: r,hl=>by
   show (f i j&&srt f (j :: r))=(f' i j&&srt f' (j :: r))
   rw [h i j (hl i ?f) (hl j ?f),Zg1 h (j :: r) fun k hk=>hl k (n15_ _ hk)]
theorem Zgk {f f':Nat→Nat→Bool} (o:Ord n f) (h:∀ i j,i<n→j<n→f i j=f' i j) (hf:fine n f'=true):kin n f (kas_sort n)=true∧(krun f (kas_sort n)).toList.Perm (List.range n)∧srt f (krun f (kas_sort n)).toList=true:=by
 have ht:tot n f'=true:=by
  unfold tot;simp only [n52_,n32_];intro i hi j hj k hk;rw [← h i j hi hj,← h j k hj hk,← h i k hi hk];cases a:f i j<;>cases b:f j k<;>simp
  exact o.tr i j k hi hj hk a b
 unfold fine at hf;rw [ht] at hf;simp only [Bool.not_true,Bool.false_or,n37_] at hf;obtain ⟨⟨h1,h2⟩,h3⟩:=hf;obtain ⟨r1,r2⟩:=Zow h (kas_sort n) h1;have hp:(krun f' (kas_sort n)).toList.Perm (List.range n):=List.isPerm_iff.mp h2;refine ⟨r1,by rw [r2];exact hp,?_⟩;rw [r2,Zg1 h _ fun i hi=>n32_.mp (hp.mem_iff.mp hi)];exact h3
theorem Zp7 {f:Nat→Nat→Bool} (o:Ord n f) (h1:2≤n) (h2:n≤4):kin n f (kas_sort n)=true∧(krun f (kas_sort n)).toList.Perm (List.range n)∧srt f (krun f (kas_sort n)).toList=true:=by
 have cases3:n=2∨n=3∨n=4:=?d
 have key:∀ (g:Nat→Nat→Bool),(∀ i j,i<j→j<n→f i j=g i j)→∀ i j,i<n→j<n→f i j=fB g i j:=fun g hg i j hi hj=>by
  unfold fB
  by_cases a:i<j
  · rw [if_pos a];exact hg i j a hj
  · rw [if_neg a]
    by_cases b:j<i
    · rw [if_pos b,← hg j i b hi];exact o.ant j i hj hi (?d)
    · rw [if_neg b]
      have:i=j:=?d
      subst this;exact o.irr i hi
 rcases cases3 with rfl|rfl|rfl
 · refine Zgk o (key (g2 (f 0 1)) fun i j a b=>?_) (Zwh _)
   have:i=0∧j=1:=?d
   obtain ⟨rfl,rfl⟩:=this;rfl
 · refine Zgk o (key (g3 (f 0 1) (f 0 2) (f 1 2)) fun i j a b=>?_) (Zwl _ _ _)
   have:(i=0∧j=1)∨(i=0∧j=2)∨(i=1∧j=2):=?d
   rcases this with ⟨rfl,rfl⟩|⟨rfl,rfl⟩|⟨rfl,rfl⟩<;>rfl
 · refine Zgk o (key (g4 (f 0 1) (f 0 2) (f 0 3) (f 1 2) (f 1 3) (f 2 3)) fun i j a b=>?_) (Zwf _ _ _ _ _ _)
   have:(i=0∧j=1)∨(i=0∧j=2)∨(i=0∧j=3)∨(i=1∧j=2)∨(i=1∧j=3)∨(i=2∧j=3):=?d
   rcases this with ⟨rfl,rfl⟩|⟨rfl,rfl⟩|⟨rfl,rfl⟩|⟨rfl,rfl⟩|⟨rfl,rfl⟩|⟨rfl,rfl⟩<;>rfl
section
variable {prog:Program} {w:World} {A:Around} {E:Value→?j} {s:Shared}
theorem Zr3 {vs:?t} {P:PySem.Fin→?j} (good:?p→Prop) (g1:vs.length<2→good (List.range vs.length)) (ho:s.heap.get? a=some (seqObj "list" vs.toArray n)) (h64:vs.length<64)
 (ask:2≤vs.length→∀ h1,(∀ b u,b≠a→s.heap.get? b=some u→h1.get? b=some u)→wpAny ?D A (keyKind' vs.toArray) (fun κ s1=>s1=?V∧(kas_sort vs.length).kasWp (kas_ask prog w A κ vs) (fun p s2=>s2=?V∧good p.toList) s1) (fun _ _=>False) ?V)
 (h:∀ p:?p,good p→P (.done (.ret .none)) { s with heap:=sortedHeap s.heap a vs (p.map fun i=>vs.getD i Value.none).toArray }) :
 wpAny ?D A (Builtin.«list.sort» ⟨[.ref a],[]⟩) P E s:=by
 have ha:a<s.z:=n13_ ho;obtain ⟨e1,o1⟩:∃ e1,(s.heap.update a (Obj.mapSeq fun _=>(#[]:?L))).get? a=some (seqObj "list" #[] e1):=⟨_,get?_update_seq ho fun _=>#[]⟩;have s1:=Heap.SameBut.update s.heap a (Obj.mapSeq fun _=>(#[]:?L));have k6:∀ b u,b≠a→s.heap.get? b=some u→(?ap).get? b=some u:=fun b u nb e=>n2_ _ (n2_ _ ((s1.2 b nb).trans e));have o6:(?ap).get? a=some (seqObj "list" #[] e1):=n2_ _ (n2_ _ o1);rw [list_sort_plain];refine n1_ (listItems_at ho rfl (n1_ (listUpdate_at ho rfl (n1_ (seqEpoch_at o1 rfl (n1_ (wpAny_newTuple (n1_ (wpAny_newList (n38_ ?_) (n47_ _))) (by show vs.length≤_;rw [sizeLine_eq];omega))))) (by rw [n11_,sizeLine_eq];omega) (n47_ _))));show wpAny ?D A _ P E { s with heap:=?ap }
 dsimp only
 by_cases h2:vs.toArray.size<2
 · rw [if_pos h2,if_pos h2];refine n1_ (n6_ ?_);rw [StateT.run_pure];refine n1_ (n6_ ?_);dsimp only;have z:=h _ (g1 (by simpa using h2))
   have ev:((List.range vs.length).map fun i=>vs.getD i Value.none)=vs:=by
    refine n91_ ?f fun i a1 a2=>?_;simp [n4_,a2]
   rw [ev] at z;refine n1_ (seqEpoch_at o6 rfl (n1_ (listUpdate_at o6 rfl ?_ (hsz2:=by rw [Array.size_map];show (vs.toArray.zip vs.toArray).size≤_;rw [Array.size_zip,n11_,sizeLine_eq];omega))));simp only [bne_self_eq_false,n39_,if_false];refine n6_ ?_
   have em:((vs.toArray.zip vs.toArray).map (·.2))=vs.toArray:=by
    apply Array.ext ?f
    intro i a1 a2
    simp
   unfold sortedHeap at z;show P _ { s with heap:=(?ap).update a (Obj.mapSeq fun _=>(vs.toArray.zip vs.toArray).map (·.2)) }
   rw [em];exact z
 · have hn:2≤vs.length:=by simp at h2;omega
   rw [if_neg h2,if_neg h2];refine n1_ (n56_ (ask hn _ k6) (fun κ s0 hk=>?_) fun _ _ x=>x.elim);obtain ⟨rfl,hk⟩:=hk
   refine n1_ (n56_ (kat_run (Q:=fun st' s2=>∃ p:Array Nat,arrOf st'=p.map (kas_item (vs.toArray.zip vs.toArray))∧failedOf st'=none∧p.size=vs.length∧s2={ s with heap:=?ap }∧good p.toList)
    rfl hn h64 (fun p st' s2 a1 a2 a3 a4=>⟨p,a2,a3,a1,a4.1,a4.2⟩) hk) ?_ fun _ _ e=>e)
   rintro ⟨⟨⟩,st'⟩ s2 ⟨p,har,hf,hp,rfl,gp⟩
   dsimp only;rw [kat_snds rfl har];refine n1_ (seqEpoch_at o6 rfl (n1_ (listUpdate_at o6 rfl ?_ (n47_ _) (by rw [n11_,n3_,Array.length_toList,hp,sizeLine_eq];omega))));rw [hf];simp only [bne_self_eq_false,n39_,if_false];exact n6_ (h p.toList gp)
theorem Znt {vs:?t} (good:?p→Prop) (g1:vs.length<2→good (List.range vs.length)) (hl:s.heap.IsList l vs.toArray) (h64:vs.length<64)
 (ask:2≤vs.length→∀ h1,(∀ b u,s.heap.get? b=some u→h1.get? b=some u)→wpAny ?D A.in1.in1 (keyKind' vs.toArray) (fun κ s1=>s1=?V∧(kas_sort vs.length).kasWp (kas_ask prog w A.in1.in1 κ vs) (fun p s2=>s2=?V∧good p.toList) s1) (fun _ _=>False) ?V)
 (h:∀ p:?p,good p→Q (.ref (s.z+1)) { s with heap:=sortedAll s.heap vs (p.map fun i=>vs.getD i Value.none).toArray }) :
 wpAny ?D A (call (.builtin "sorted") [.ref l]) Q E s:=by
 refine Calls.call_function_entry kind_sorted plain_sorted entry_sorted (args_sorted1 _) ?_;unfold Builtin.«sorted»;refine n1_ (m:=checkCount "sorted" 1 1 _) (n6_ (n1_ (collect_list hl (n1_ (wpAny_newList ?_ (by rw [sizeLine_eq];omega))) (by rw [sizeLine_eq];omega))));have n1:((s.heap.push (seqObj "list" #[] 0)).update s.z (Obj.mapSeq (·++vs.toArray))).objs.size=s.z+1:=by rw [Heap.size_update,size_push']
 have oL:(?aq).get? (s.z+1)=some (seqObj "list" vs.toArray 0):=by rw [← n1];exact n8_ _ rfl
 have kL:∀ b u,s.heap.get? b=some u→(?aq).get? b=some u:=fun b u e=>by
  have lt:b<s.z:=n13_ e;refine n2_ _ ?_;rw [Heap.get?_update_ne _ _ _ _ (n23_ lt)];exact n2_ _ e
 show wpAny _ _ _ _ _ { s with heap:=?aq }
 rw [n1];refine n1_ (n38_ (wpAny_call_entry slot_list_sort ⟨_,oL,rfl⟩ entry_list_sort (Zr3 (s:={ s with heap:=?aq }) good g1 oL h64 (fun h2 h1 k1=>ask h2 h1 fun b u e=>k1 b u (n23_ (n55_ (n13_ e))) (kL b u e)) fun p gp=>⟨_,rfl,?_⟩) (args_list_sort _)));exact n6_ ⟨_,rfl,h p gp⟩
end
end L2
namespace L2
open PySem PySem.Spec PyProof.Rows PySem.W
variable {h:Heap} {ns:?g} {n:Nat}
section
variable {prog:Program} {w:World} {A:Around} {E:Value→?j} {s:Shared}
theorem Zub {b:Bool} {x y:Int} {t u:Tok} {Q:Bool→?j} (h:Q (decide (x<y)) s):wpAny ?D A (oneLt' b (.int x t) (.int y u)) Q E s:=by
 cases b
 · refine kat_one _ _ (lt_int ?_);exact h
 · exact kat_lt_int h
theorem Zpn {b:Bool} {Q:Bool→?j}:∀ {ms:?g} {us ws:?t} (i:Nat),IntsAre us ns→IntsAre ws ms→ns.length=ms.length→Q (HT.lexLt ns ms) s→KatLex prog w A b false Q (us.zip ws) i s:=by
 induction ns with
 | nil =>
   intro ms us ws i hu hw hl h;cases ms with
   | nil=>cases hu;cases hw;exact kat_nil h
   | cons=>cases hl
 | cons x ns ih =>
   intro ms us ws i hu hw hl h;cases ms with
   | nil=>cases hl
   | cons y ms =>
     cases hu with
     | cons _ t hu =>
       cases hw with
       | cons _ u hw =>
         refine kat_cons (wpAny_eqBool_int ?_);rw [HT.lexLt_cons] at h
         by_cases e:x=y
         · subst e;rw [if_pos rfl] at h;rw [beq_self_eq_true];exact kat_yes (ih (i+1) hu hw (Nat.succ.inj hl) h)
         · rw [if_neg e] at h;rw [show (x == y)=false by simpa using e];exact kat_no (Zub h)
end
theorem Zmk:∀ (a:?g),HT.lexLt a a=false
 | []=>rfl
 | x :: a=>by rw [HT.lexLt_cons,if_pos rfl];exact Zmk a
theorem Zme:∀ (a b:?g),a.length=b.length→a≠b→HT.lexLt b a = !HT.lexLt a b
 | [],[],_,h=>absurd rfl h
 | [],_ :: _,h,_=>by simp at h
 | _ :: _,[],h,_=>by simp at h
 | x :: a,y :: b,hl,hn=>by
   rw [HT.lexLt_cons,HT.lexLt_cons]
   by_cases e:x=y
   · subst e;rw [if_pos rfl,if_pos rfl];exact Zme a b (by simpa using hl) (fun z=>hn (by rw [z]))
   · rw [if_neg e,if_neg (Ne.symm e)]
     by_cases h:x<y
     · rw [n44_ h,n35_ (?d)];rfl
     · rw [n35_ h,n44_ (?d)];rfl
theorem Zq0:∀ (a b c:?g),a.length=b.length→b.length=c.length→HT.lexLt a b=true→HT.lexLt b c=true→HT.lexLt a c=true
 | [],[],_,_,_,h,_=>by cases h
 | [],_ :: _,_,h,_,_,_=>by simp at h
 | _ :: _,[],_,h,_,_,_=>by simp at h
 | _ :: _,_ :: _,[],_,h,_,_=>by simp at h
 | x :: a,y :: b,z :: c,h1,h2,h3,h4=>by
   rw [HT.lexLt_cons] at h3 h4 ⊢
   by_cases e1:x=y
   · subst e1;rw [if_pos rfl] at h3
     by_cases e2:x=z
     · subst e2;rw [if_pos rfl] at h4 ⊢;exact Zq0 a b c (by simpa using h1) (by simpa using h2) h3 h4
     · rw [if_neg e2] at h4 ⊢;exact h4
   · rw [if_neg e1] at h3;have l1:x<y:=n49_ h3
     by_cases e2:y=z
     · subst e2;rw [if_neg e1];exact h3
     · rw [if_neg e2] at h4;have l2:y<z:=n49_ h4;rw [if_neg (?d)];exact n44_ (?d)
theorem Zkh {f:Nat→Nat→Bool} (o:Ord n f):∀ (l:?p),(∀ i∈l,i<n)→srt f l=true→l.Pairwise (fun i j=>f i j=true)
 | [],_,_=>.nil
 | [i],_,_=>.cons ?f .nil
 | i :: j :: r,hl,h=>by
   have h':(f i j&&srt f (j :: r))=true:=h;rw [n37_] at h';have ih:=Zkh o (j :: r) (fun k hk=>hl k (n15_ _ hk)) h'.2;refine .cons (fun k hk=>?_) ih
   rcases n12_.mp hk with rfl|hk'
   · exact h'.1
   · exact o.tr i j k (hl i ?f) (hl j ?f) (hl k (n15_ _ hk)) h'.1 ((List.pairwise_cons.mp ih).1 k hk')
section
variable {X:Cx}
theorem Zi7 {vs:?t} {kl:List (?g)} (p:Paired (fun v k=>∃ b o its n,v=Value.ref b∧h.get? b=some o∧o.cls=?M ∧ o.data=.seq its n∧IntsAre its.toList k∧0<k.length) vs kl):∃ fs:?t,KatTups h vs fs∧fs.length=vs.length∧∀ v∈fs,∃ x t,v=Value.int x t:=by
 induction p with
 | nil=>exact ⟨[],.nil,rfl,fun v hv=>by simp at hv⟩
 | cons r rs ih =>
   obtain ⟨fs,h1,h2,h3⟩:=ih;obtain ⟨b,o,its,n,rfl,g,c,d,hi,hk⟩:=r
   have:∃ x t,its[0]? = some (Value.int x t):=by
    cases hi':its.toList with
    | nil=>rw [hi'] at hi;cases hi;simp at hk
    | cons u us =>
      rw [hi'] at hi;cases hi with
      | cons x t _=>exact ⟨x,t,by rw [← Array.getElem?_toList,hi'];rfl⟩
   obtain ⟨x,t,e⟩:=this;refine ⟨_ :: fs,.cons g c d e h1,by rw [n29_,n29_,h2],fun v hv=>?_⟩
   rcases n12_.mp hv with rfl|hv
   · exact ⟨_,_,rfl⟩
   · exact h3 v hv
end
end L2
namespace L2
open PySem PySem.Spec PyProof.Rows PySem.W
abbrev lexF (kl:List (?g)) (i j:Nat):Bool:=HT.lexLt (kl.getD i []) (kl.getD j [])
variable {α:Type} {D a b j l t z:Addr} {A:Around} {ys:?L} {X:Cx} {env:Env} {e tg:Expr} {h':Heap} {H H' H1 H2:Hp} {pins:?B} {kvs:?N} {fr:List (Option Nat)} {ch:List Addr} {ns:?g} {N:List Str} {vs:List V} {us:?t} {M:Model} {i k m n t':Nat} {u0:Option V} {p pos:Pos} {P:Program} {scope:Scope} {s:Shared} {rest σ:St} {x:Str} {te tl:TE} {g:TG} {v y:V} {c d u:Value} {E Q:Value→?j} {w:World}
theorem Ztj {kl:List (?g)} (nd:kl.Nodup) (hm:∀ k∈kl,k.length=m):Ord kl.length (lexF kl) where
 irr:=fun i _=>Zmk _
 ant:=fun i j hi hj ne=>by
  have e1:kl.getD i []=kl[i]:=by simp [n4_,hi]
  have e2:kl.getD j []=kl[j]:=by simp [n4_,hj]
  show HT.lexLt _ _ = !HT.lexLt _ _
  rw [e1,e2];exact Zme _ _ (by rw [hm _ (n24_ hi),hm _ (n24_ hj)]) fun z=>ne ((List.getElem_inj nd).mp z)
 tr:=fun i j k hi hj hk h1 h2=>by
  have e:∀ i (h:i<kl.length),(kl.getD i []).length=m:=fun i h=>by
   have:kl.getD i []=kl[i]:=by simp [n4_,h]
   rw [this];exact hm _ (n24_ h)
  exact Zq0 _ _ _ (by rw [e i hi,e j hj]) (by rw [e j hj,e k hk]) h1 h2
theorem Zk8 (r:Vals vs us):∀ (p:?p),(∀ i∈p,i<vs.length)→Vals (p.map fun i=>vs.getD i .non) (p.map fun i=>us.getD i Value.none)
 | [],_=>.nil
 | i :: p,h=>by
   have hi:i<vs.length:=h i ?f;obtain ⟨u,e,ru⟩:=r.get (n0_ hi);refine .cons ?_ (Zk8 r p fun j hj=>h j (n15_ _ hj));show RelV (vs.getD i .non) (us.getD i Value.none)
   rw [show vs.getD i .non=vs[i] by simp [n4_,hi],show us.getD i Value.none=u by simp [n4_,e]];exact ru
section
variable {X:Cx}
theorem Zg7:Xl X (.builtin "sorted") (fun xs H Q=>∃ (p:Addr) (vs:List V) (kl:List (?g)) (m:Nat),xs=[.ref p]∧SqL X.K H p vs∧vs.length=kl.length∧(∀ (i:Nat) (v:V),vs[i]? = some v→∃ (b:Addr) (k:?g),v=.ref b∧kl[i]? = some k∧SqT X.K H b (k.map V.int))∧kl.Nodup∧kl.length≤4∧(∀ k∈kl,k.length=m)∧0<m ∧
 ∀ (l:Addr) (q:?p),H l=none→q.Perm (List.range kl.length)→(?ad).Pairwise (fun a b=>HT.lexLt a b=true)→Q (.ref l) (upd H l (.lst (q.map fun i=>vs.getD i .non)))):=by
 intro pins s σ H xs us Q I r h;obtain ⟨p,vs,kl,m,rfl,hq,hl,hk,nd,h4,hm,m0,q⟩:=h;cases r with
 | cons rx r =>
   cases r
   cases (show _=Value.ref p from rx)
   obtain ⟨its,rv,pl,hz⟩:=I.list hq;have hlen:=rv.length;have o:=Ztj nd hm
   have tup:∀ i,i<kl.length→∃ b ob jt n,its.getD i Value.none=.ref b∧s.heap.get? b=some ob∧ob.cls=?M ∧ ob.data=.seq jt n∧IntsAre jt.toList (kl.getD i [])∧(kl.getD i []).length=m:=fun i hi=>by
    have hv:i<vs.length:=?d
    obtain ⟨b,k,e1,e2,hb⟩:=hk i vs[i] (n0_ hv);obtain ⟨u,eu,ru⟩:=rv.get (n0_ hv);rw [e1] at ru;cases ru
    obtain ⟨jt,rj,⟨ob,g,c,n,d⟩,_⟩:=I.tuple hb;have ek:kl.getD i []=k:=by simp [n4_,e2]
    refine ⟨b,ob,jt.toArray,n,by simp [n4_,eu],g,c,d,by rw [ek];simpa using Zbg rj,?_⟩;rw [ek];exact hm k (n17_ e2)
   refine Znt (fun q=>q.Perm (List.range kl.length)∧(?ad).Pairwise (fun a b=>HT.lexLt a b=true)) (fun h2=>?_) pl.isList (?d) (fun h2 h1 k1=>?_) fun p' gp=>?_
   · have:its.length=kl.length:=?d
     rw [this];refine ⟨.refl _,?_⟩
     have:kl.length=0∨kl.length=1:=?d
     rcases this with e|e<;>rw [e]
     · exact .nil
     · exact .cons ?f .nil
   · have en:its.length=kl.length:=?d
     have keep:∀ i,i<kl.length→∃ b ob jt n,its.getD i Value.none=.ref b∧h1.get? b=some ob∧ob.cls=?M ∧ ob.data=.seq jt n∧IntsAre jt.toList (kl.getD i [])∧(kl.getD i []).length=m:=fun i hi=>by
      obtain ⟨b,ob,jt,n,e1,e2,e3⟩:=tup i hi;exact ⟨b,ob,jt,n,e1,k1 b ob e2,e3⟩
     have prd:∀ (us:?t) (ks:List (?g)),us.length=ks.length→(∀ i,i<ks.length→∃ b ob jt n,us.getD i Value.none=.ref b∧h1.get? b=some ob∧ob.cls=?M ∧ ob.data=.seq jt n∧IntsAre jt.toList (ks.getD i [])∧(ks.getD i []).length=m)→Paired (fun v k=>∃ b o its n,v=Value.ref b∧h1.get? b=some o∧o.cls=?M ∧ o.data=.seq its n∧IntsAre its.toList k∧0<k.length) us ks:=by
      intro us
      induction us with
      | nil=>intro ks e _;cases ks with
        | nil=>exact .nil
        | cons _ _=>simp at e
      | cons u us ih =>
        intro ks e hh;cases ks with
        | nil=>simp at e
        | cons k ks =>
          refine .cons ?_ (ih ks (by simpa using e) fun i hi=>by simpa using hh (i+1) (by simpa using hi));obtain ⟨b,ob,jt,n,e1,e2,e3,e4,e5,e6⟩:=hh 0 ?f;exact ⟨b,ob,jt,n,by simpa using e1,e2,e3,e4,by simpa using e5,(by have e7:k.length=m:=(by simpa using e6);omega)⟩
     obtain ⟨fs,f1,f2,f3⟩:=Zi7 (prd its kl en keep);refine kat_kind (T:=.type "int") f1 (?d) (fun v hv=>?_) rfl ⟨rfl,?_⟩
     · obtain ⟨x,t,rfl⟩:=f3 v hv;exact Looks.of_pure rfl
     · obtain ⟨r1,r2,r3⟩:=Zp7 o (?d) h4;rw [en];refine Zn1 (n:=kl.length) (f:=lexF kl) (fun i j C hi hj hC=>?_) _ r1 ⟨rfl,r2,?_⟩
       · obtain ⟨b,ob,jt,n,e1,e2,e3,e4,e5,e6⟩:=keep i hi;obtain ⟨b',ob',jt',n',e1',e2',e3',e4',e5',e6'⟩:=keep j hj;unfold kas_ask;rw [e1,e1']
         have z:jt.size=jt'.size:=by
          have a1:=IntsAre.length e5;have a2:=IntsAre.length e5';rw [Array.length_toList] at a1 a2;omega
         refine kat_lt e2 e4 e2' e4' ?_;rw [n35_ (?d)];exact Zpn 0 e5 e5' (by rw [e6,e6']) hC
       · have pw:=Zkh o _ (fun i hi=>n32_.mp (r2.mem_iff.mp hi)) r3;exact List.pairwise_map.mpr pw
   · obtain ⟨e,he⟩:=sortedAll_at s.heap its (p'.map fun i=>its.getD i Value.none).toArray;have fr:H (s.z+1)=none:=I.hok.fresh (Nat.le_succ _);have lt:∀ i∈p',i<vs.length:=fun i hi=>by rw [hl];exact n32_.mp (gp.1.mem_iff.mp hi)
     refine ⟨.ref (s.z+1),_,I.laid (o:=.lst (p'.map fun i=>vs.getD i .non)) (t':=s.toks) (fun b u e=>sortedAll_old e) (Nat.le_succ _) ⟨?_,p'.map fun i=>its.getD i Value.none,e,Zk8 rv p' lt,he⟩,rfl,q _ p' fr gp.1 gp.2⟩;rw [n3_,gp.1.length_eq,n69_,sizeLine_eq];omega
end
abbrev ZR (h:Heap) (z t o:Addr) (f0:Value) (f1:Bool):Prop:=h.get? z=some { cls:=.type "zip",dict:=none,data:=.fields #[f0,.bool f1,.bool false,.ref t,.ref o],slots:=#[] }
def ZSt (h:Heap) (z t o:Addr):Prop:=∃ f0 f1,ZR h z t o f0 f1∧(f0=.none∨∃ T,f0=rawInt T)
section
variable {prog:Program} {w:World} {A:Around} {E:Value→?j} {s:Shared} {k l:SK}
theorem Zi3 {Q:Option Obj→?j} (h:Q (s.heap.get? a) s):wpAny M A (loadIfAlive a) Q E s:=fun _ _ _=>h
theorem Zko {o:Addr} {Q:Bool→?j} (hz:ZSt s.heap z t o) (q:∀ (b:Bool) (h1:Heap),ZSt h1 z t o→Heap.SameBut z s.heap h1→Q b ?V):wpAny ?D A (n45_ (.ref z)) Q E s:=by
 obtain ⟨f0,f1,hz,hf⟩:=hz;unfold n45_;refine n1_ (wpAny_field hz rfl (x:=f0) rfl ?_)
 rcases hf with rfl|⟨T,rfl⟩
 · exact n6_ (q true s.heap ⟨_,_,hz,.inl rfl⟩ (Heap.SameBut.refl ..))
 · show wpAny _ _ (loadIfAlive _ >>= _) _ _ s
   refine n1_ (Zi3 ?_);split
   · exact n6_ (q true s.heap ⟨_,_,hz,.inr ⟨T,rfl⟩⟩ (Heap.SameBut.refl ..))
   · refine n1_ (wpAny_field hz rfl (x:=.bool f1) rfl ?_);split
     · refine n1_ (wpAny_setField_rec hz ?f fun h1 z1 s1=>n6_ (q false h1 ⟨_,true,z1,.inr ⟨T,rfl⟩⟩ s1))
     · exact n6_ (q false s.heap ⟨_,_,hz,.inr ⟨T,rfl⟩⟩ (Heap.SameBut.refl ..))
theorem Zos {o i:Addr} {xs:?L} {x y:Value} (D:ZP z t o i j a b)
 (hz:ZSt s.heap z t o) (ht:IsPair s.heap t (.ref i) (.ref j)) (ho:IsPair s.heap o c d)
 (hi:k.It s.heap i a m) (hj:l.It s.heap j b n) (ha:k.Is s.heap a xs) (hb:l.Is s.heap b ys) (hx:xs[m]? = some x) (hy:ys[n]? = some y)
 (q:∀ h1,ZSt h1 z t o→(∃ c d,IsPair h1 o c d)→k.It h1 i a (m+1)→l.It h1 j b (n+1)→IsPair h1 s.z x y→h1.objs.size=s.z+1 →
   ?al→Q (.ref s.z) ?V) :
 wpAny ?D A (Builtin.«zip.__next__» ⟨[.ref z],[]⟩) (fun fin s'=>∃ v,fin=.done (.ret v)∧Q v s') E s:=by
 obtain ⟨f0,f1,hz0,hf⟩:=id hz;refine n1_ (m:=field (.ref z) 2) (wpAny_field hz0 rfl (x:=.bool false) rfl ?_);refine n1_ (m:=field (.ref z) 3) (wpAny_field hz0 rfl (x:=.ref t) rfl (n1_ (wpAny_seqItems ht rfl ?_)));refine n1_ (m:=n45_ (.ref z)) (Zko hz fun fr h0 hz' s0=>?_);have ho0:IsPair h0 o c d:=s0.extBut _ _ D.oz ho;have hi0:k.It h0 i a m:=hi.at fun u e=>s0.extBut _ _ D.iz e;have hj0:l.It h0 j b n:=hj.at fun u e=>s0.extBut _ _ D.jz e;have ha0:k.Is h0 a xs:=ha.at fun u e=>s0.extBut _ _ D.az e;have hb0:l.Is h0 b ys:=hb.at fun u e=>s0.extBut _ _ D.bz e;have n0:h0.objs.size=s.z:=s0.1;obtain ⟨g0,g1,hz0,hg⟩:=hz';cases fr with
 | true =>
   simp only [if_true];refine n1_ (wpAny_rule (n1_ (wpAny_field hz0 rfl (x:=.ref o) rfl (n1_ (wpAny_setField_rec hz0 ?f fun h1 z1 s1=>?_)))));replace z1:ZR h1 z t o .ellipsis g1:=z1;refine n1_ ?_;simp only [List.zipIdx_cons,List.zipIdx_nil,List.forIn_cons,List.forIn_nil];refine n1_ (n1_ (wpAny_onRaise (n1_ (m:=n28_ (.ref i)) ?_)));refine SK.draw (hi0.at fun u e=>s1.extBut _ _ D.iz e) (ha0.at fun u e=>s1.extBut _ _ D.az e) hx fun h2 i2 s2=>n6_ ?_;have o2:IsPair h2 o c d:=s2.extBut _ _ D.oi (s1.extBut _ _ D.oz ho0);refine n1_ (wpAny_seqItems o2 rfl (n1_ (wpAny_updateSeq_pair o2 fun h3 o3 s3=>?_)));replace o3:IsPair h3 o x d:=o3;refine n1_ (wpAny_letGo (n6_ (n1_ (n1_ (wpAny_onRaise (n1_ (m:=n28_ (.ref j)) ?_))))));refine SK.draw (hj0.at fun u e=>s3.extBut _ _ D.oj.symm (s2.extBut _ _ D.ij.symm (s1.extBut _ _ D.jz e))) (hb0.at fun u e=>s3.extBut _ _ D.bo (s2.extBut _ _ D.bi (s1.extBut _ _ D.bz e))) hy fun h4 j4 s4=>n6_ ?_;have o4:IsPair h4 o x d:=s4.extBut _ _ D.oj o3;refine n1_ (wpAny_seqItems o4 rfl (n1_ (wpAny_updateSeq_pair o4 fun h5 o5 s5=>?_)));replace o5:IsPair h5 o x y:=o5;refine n1_ (wpAny_letGo (n6_ (n6_ (n1_ (wpAny_seqItems o5 rfl (n1_ (wpAny_newTuple ?_)))))));have sz:h5.objs.size=s.z:=by rw [s5.1,s4.1,s3.1,s2.1,s1.1,n0]
   have z5:ZR h5 z t o .ellipsis g1:=s5.extBut _ _ D.oz.symm (s4.extBut _ _ D.jz.symm (s3.extBut _ _ D.oz.symm (s2.extBut _ _ D.iz.symm z1)));have k5:∀ e u,e≠z→e≠o→e≠i→e≠j→s.heap.get? e=some u→h5.get? e=some u:=fun e u e1 e2 e3 e4 g=>s5.extBut _ _ e2 (s4.extBut _ _ e4 (s3.extBut _ _ e2 (s2.extBut _ _ e3 (s1.extBut _ _ e1 (s0.extBut _ _ e1 g)))));have i5:k.It h5 i a (m+1):=i2.at fun u e=>s5.extBut _ _ D.oi.symm (s4.extBut _ _ D.ij (s3.extBut _ _ D.oi.symm e));have j5:l.It h5 j b (n+1):=j4.at fun u e=>s5.extBut _ _ D.oj.symm e;have zl:z<h5.objs.size:=n13_ z5;refine n1_ (m:=Builtin.SmallTypes.ownedTupleHandOut (.ref z) (.ref h5.objs.size)) ?_;unfold Builtin.SmallTypes.ownedTupleHandOut;have z6:ZR (h5.push { cls:=?M,data:=.seq #[x,y] }) z t o .ellipsis g1:=n2_ _ z5;refine n1_ (wpAny_setField_rec z6 ?f fun h7 z7 s7=>?_);replace z7:ZR h7 z t o (rawInt h5.objs.size) g1:=z7;refine wpAny_setField_rec z7 ?f fun h8 z8 s8=>?_;replace z8:ZR h8 z t o (rawInt h5.objs.size) false:=z8;have up:∀ e u,e≠z→h5.get? e=some u→h8.get? e=some u:=fun e u e1 g=>s8.extBut _ _ e1 (s7.extBut _ _ e1 (n2_ _ g));have T8:IsPair h8 h5.objs.size x y:=s8.extBut _ _ (n75_ zl) (s7.extBut _ _ (n75_ zl) (n8_ _ rfl));have l8:h8.objs.size=h5.objs.size+1:=by rw [s8.1,s7.1,n48_]
   rw [sz] at T8 l8;refine n6_ ⟨_,rfl,?_⟩;show Q (.ref h5.objs.size) _
   rw [sz];exact q h8 ⟨_,_,z8,.inr ?K⟩ ⟨x,y,up _ _ D.oz o5⟩ (i5.at fun u e=>up _ u D.iz e) (j5.at fun u e=>up _ u D.jz e) T8 l8 fun e u e1 e2 e3 e4 g=>up e u e1 (k5 e u e1 e2 e3 e4 g)
 | false =>
   simp only [n39_,if_false];refine n1_ ?_;rw [← Array.forIn_toList];simp only [List.forIn_cons,List.forIn_nil];refine n1_ (n1_ (n38_ (n1_ (m:=n28_ (.ref i)) (SK.draw hi0 ha0 hx fun h2 i2 s2=>n6_ (n6_ ?_)))));refine n1_ (n1_ (n38_ (n1_ (m:=n28_ (.ref j)) (SK.draw (hj0.at fun u e=>s2.extBut _ _ D.ij.symm e) (hb0.at fun u e=>s2.extBut _ _ D.bi e) hy fun h4 j4 s4=>n6_ (n6_ ?_)))));refine n6_ ?_;have sz:h4.objs.size=s.z:=by rw [s4.1,s2.1,n0]
   have z4:ZR h4 z t o g0 g1:=s4.extBut _ _ D.jz.symm (s2.extBut _ _ D.iz.symm hz0);refine n1_ (wpAny_newTuple (n6_ ⟨_,rfl,?_⟩) (z2_));show Q (.ref h4.objs.size) _
   have up:∀ e u,h4.get? e=some u→(h4.push { cls:=?M,data:=.seq #[x,y] }).get? e=some u:=fun e u g=>n2_ _ g;have T4:IsPair (h4.push { cls:=?M,data:=.seq #[x,y] }) h4.objs.size x y:=n8_ _ rfl;rw [sz] at T4 ⊢;refine q _ ⟨_,_,up _ _ z4,hg⟩ ⟨c,d,up _ _ (s4.extBut _ _ D.oj (s2.extBut _ _ D.oi ho0))⟩ (i2.at fun u e=>up _ u (s4.extBut _ _ D.ij e)) (j4.at fun u e=>up _ u e) T4 (by rw [n48_,sz]) fun e u e1 e2 e3 e4 g=>up e u (s4.extBut _ _ e4 (s2.extBut _ _ e3 (s0.extBut _ _ e1 g)))
theorem Zqi {o i:Addr} {xs:?L} {Q:Fin→?j} (hh:A.handled=none) (D:ZP z t o i j a b)
 (hz:ZSt s.heap z t o) (ht:IsPair s.heap t (.ref i) (.ref j)) (ho:IsPair s.heap o c d)
 (hi:k.It s.heap i a m) (hj:l.It s.heap j b n) (ha:k.Is s.heap a xs) (hb:l.Is s.heap b ys) (hx:xs[m]? = none∨ys[n]? = none)
 (q:∀ h1 e,?al→(∃ u,h1.get? e=some u∧u.cls=.type "StopIteration")→E (.ref e) ?V) :
 wpAny ?D A (Builtin.«zip.__next__» ⟨[.ref z],[]⟩) Q E s:=by
 obtain ⟨f0,f1,hz0,hf⟩:=id hz;refine n1_ (m:=field (.ref z) 2) (wpAny_field hz0 rfl (x:=.bool false) rfl ?_);refine n1_ (m:=field (.ref z) 3) (wpAny_field hz0 rfl (x:=.ref t) rfl (n1_ (wpAny_seqItems ht rfl ?_)));refine n1_ (m:=n45_ (.ref z)) (Zko hz fun fr h0 hz' s0=>?_);have ho0:IsPair h0 o c d:=s0.extBut _ _ D.oz ho;have hi0:k.It h0 i a m:=hi.at fun u e=>s0.extBut _ _ D.iz e;have hj0:l.It h0 j b n:=hj.at fun u e=>s0.extBut _ _ D.jz e;have ha0:k.Is h0 a xs:=ha.at fun u e=>s0.extBut _ _ D.az e;have hb0:l.Is h0 b ys:=hb.at fun u e=>s0.extBut _ _ D.bz e;obtain ⟨g0,g1,hz0,hg⟩:=hz';cases fr with
 | true =>
   simp only [if_true];refine n1_ (wpAny_rule (n1_ (wpAny_field hz0 rfl (x:=.ref o) rfl (n1_ (wpAny_setField_rec hz0 ?f fun h1 z1 s1=>?_)))));replace z1:ZR h1 z t o .ellipsis g1:=z1;refine n1_ ?_;simp only [List.zipIdx_cons,List.zipIdx_nil,List.forIn_cons,List.forIn_nil];refine n1_ (n1_ (wpAny_onRaise (n1_ (m:=n28_ (.ref i)) ?_)));cases hm:xs[m]? with
   | none =>
     refine SK.dry hh (hi0.at fun u e=>s1.extBut _ _ D.iz e) (ha0.at fun u e=>s1.extBut _ _ D.az e) hm fun h2 e s2 ⟨u,g,cu⟩=>?_;have z2:ZR h2 z t o .ellipsis g1:=s2 _ _ D.iz.symm z1;have ez:e≠z:=fun r=>by subst r;rw [z2] at g;cases g;simp at cu
     exact wpAny_setField_rec z2 ?f fun h3 _ s3=>q h3 e (fun e' u' e1 _ e3 _ r=>s3.extBut _ _ e1 (s2 _ _ e3 (s1.extBut _ _ e1 (s0.extBut _ _ e1 r)))) ⟨u,s3.extBut _ _ ez g,cu⟩
   | some x =>
     have hn:ys[n]? = none:=by rcases hx with r|r;(rw [hm] at r;cases r);exact r
     refine SK.draw (hi0.at fun u e=>s1.extBut _ _ D.iz e) (ha0.at fun u e=>s1.extBut _ _ D.az e) hm fun h2 i2 s2=>n6_ ?_;have o2:IsPair h2 o c d:=s2.extBut _ _ D.oi (s1.extBut _ _ D.oz ho0);refine n1_ (wpAny_seqItems o2 rfl (n1_ (wpAny_updateSeq_pair o2 fun h3 o3 s3=>?_)));refine n1_ (wpAny_letGo (n6_ (n1_ (n1_ (wpAny_onRaise (n1_ (m:=n28_ (.ref j)) ?_))))));refine SK.dry hh (hj0.at fun u e=>s3.extBut _ _ D.oj.symm (s2.extBut _ _ D.ij.symm (s1.extBut _ _ D.jz e))) (hb0.at fun u e=>s3.extBut _ _ D.bo (s2.extBut _ _ D.bi (s1.extBut _ _ D.bz e))) hn fun h4 e s4 ⟨u,g,cu⟩=>?_;have z4:ZR h4 z t o .ellipsis g1:=s4 _ _ D.jz.symm (s3.extBut _ _ D.oz.symm (s2.extBut _ _ D.iz.symm z1));have ez:e≠z:=fun r=>by subst r;rw [z4] at g;cases g;simp at cu
     exact wpAny_setField_rec z4 ?f fun h5 _ s5=>q h5 e (fun e' u' e1 e2 e3 e4 r=>s5.extBut _ _ e1 (s4 _ _ e4 (s3.extBut _ _ e2 (s2.extBut _ _ e3 (s1.extBut _ _ e1 (s0.extBut _ _ e1 r)))))) ⟨u,s5.extBut _ _ ez g,cu⟩
 | false =>
   simp only [n39_,if_false];refine n1_ ?_;rw [← Array.forIn_toList];simp only [List.forIn_cons,List.forIn_nil];refine n1_ (n1_ (n38_ (n1_ (m:=n28_ (.ref i)) ?_)));cases hm:xs[m]? with
   | none=>exact SK.dry hh hi0 ha0 hm fun h2 e s2 hu=>q h2 e (fun e' u' e1 _ e3 _ r=>s2 _ _ e3 (s0.extBut _ _ e1 r)) hu
   | some x =>
     have hn:ys[n]? = none:=by rcases hx with r|r;(rw [hm] at r;cases r);exact r
     refine SK.draw hi0 ha0 hm fun h2 i2 s2=>n6_ (n6_ ?_);refine n1_ (n1_ (n38_ (n1_ (m:=n28_ (.ref j)) ?_)));exact SK.dry hh (hj0.at fun u e=>s2.extBut _ _ D.ij.symm e) (hb0.at fun u e=>s2.extBut _ _ D.bi e) hn fun h4 e s4 hu=>q h4 e (fun e' u' e1 _ e3 e4 r=>s4 _ _ e4 (s2.extBut _ _ e3 (s0.extBut _ _ e1 r))) hu
end
open AutoSeq1 (wpAny_loadPart')
section
variable {X:Cx} {pins:?B} {σ:List (Option V)} {H H':Hp} {s:Shared} {h':Heap}
theorem Inv.turnGen (I:?s) (k:∀ b u,b∉ch→s.heap.get? b=some u→h'.get? b=some u) (hf:∀ b∈ch,FpOk X pins H b)
 (old:∀ b u,H b=some u→H' b=some u) (non:∀ b u,s.heap.get? b=some u→H b=none→H' b=none) (new:∀ b u,H b=none→H' b=some u→ObjOk X.prog X.w H' h' b u):Inv X pins σ H' { s with heap:=h',toks:=t' }:=by
 have nc:∀ b u,H b=some u→b∉ch:=fun b u e z=>by rw [(hf b z).1] at e;cases e
 refine I.step (g':=s.gens) (d':=s.drawn) (ch:=ch) (fun b hb=>?_) (fun b u _ _ hc e _=>k b u hc e) (fun b u _ _ hc e _=>⟨u.slots,k b u hc e⟩) (fun b u _ e n=>non b u e n)
  (fun b u hc e=>⟨u,k b u hc e⟩) (fun b xs e=>old b _ e) (fun b u v e=>old b _ e) (fun b ps e=>⟨#[],by rw [old b _ e];simp⟩) (fun m hm=>?_) (fun b u e=>?_) I.bare
 · obtain ⟨f0,f1,f2,f3,f4,f5⟩:=hf b hb;exact ⟨f3,f1,f4,f5⟩
 · obtain ⟨u,es,ep,hu,r⟩:=hm;exact ⟨u,es,ep,k _ u (fun z=>(hf _ z).2.1 rfl) hu,r⟩
 · cases hb:H b with
   | none=>exact new b u hb e
   | some v =>
     rw [old b v hb] at e;cases e
     refine (I.hok b _ hb).stay (fun c w hc q=>k c w ?_ q) (fun c q=>old c _ q) fun c xs q=>old c _ q
     rcases hc with z|z
     · rw [z];exact nc b _ hb
     · exact nc c _ z
end
section
variable {X:Cx} {es:List Expr} {x1:Nat} {tp:Pos}
end
def Tk (H H':Hp):Prop:=∀ a xs,H a=some (.tup xs)→H' a=some (.tup xs)
theorem Tk.refl:Tk H H:=fun _ _ e=>e
theorem Tk.trans (a:Tk H H1) (b:Tk H1 H2):Tk H H2:=fun p xs e=>b p xs (a p xs e)
theorem Same.tk (s:?H):Tk H H':=fun a xs e=>s a _ e
theorem Tk.of_keep {ys:List V} (k:Keep l H H') (e:H l=some (.lst ys)):Tk H H':=fun a xs q=>k a _ (Zqq q e (by intro z;cases z)) q
theorem Tk.upd_lst {ys zs:List V} (e:H D=some (.lst ys)):Tk H (upd H D (.lst zs)):=fun a xs q=>by rw [Zl (Zqq q e (by intro z;cases z))];exact q
def Al {α:Type} (R:V→α→Prop) (vs:List V) (xs:List α):Prop:=vs.length=xs.length∧∀ (i:Nat) (v:V) (x:α),vs[i]? = some v→xs[i]? = some x→R v x
theorem Al.nil {R:V→α→Prop}:Al R [] []:=⟨rfl,fun i v x e=>by simp at e⟩
theorem Al.snoc {R:V→α→Prop} {xs:List α} {x:α} (h:Al R vs xs) (r:R v x):Al R (vs++[v]) (xs++[x]):=by
 refine ⟨by simp [h.1],fun i w y e1 e2=>?_⟩
 by_cases hi:i<vs.length
 · rw [n72_ hi] at e1;rw [n72_ (by rw [← h.1];exact hi)] at e2;exact h.2 i w y e1 e2
 · have:i=vs.length:=by
    have:=(n22_.mp e1).1
    simp at this;omega
   subst this;rw [n66_ (n7_ _)] at e1;rw [h.1,n66_ (n7_ _)] at e2;simp at e1 e2;subst e1;subst e2;exact r
theorem Al.imp {R S:V→α→Prop} {xs:List α} (h:Al R vs xs) (f:∀ v x,R v x→S v x):Al S vs xs:=⟨h.1,fun i v x e1 e2=>f v x (h.2 i v x e1 e2)⟩
theorem Al.get {R:V→α→Prop} {xs:List α} (h:Al R vs xs) (e:vs[i]? = some v):∃ x,xs[i]? = some x∧R v x:=by
 have hi:i<xs.length:=by rw [← h.1];exact (n22_.mp e).1
 exact ⟨xs[i],n0_ hi,h.2 i v _ e (n0_ hi)⟩
theorem Al.got {R:V→α→Prop} {xs:List α} {x:α} (h:Al R vs xs) (e:xs[i]? = some x):∃ v,vs[i]? = some v∧R v x:=by
 have hi:i<vs.length:=by rw [h.1];exact (n22_.mp e).1
 exact ⟨vs[i],n0_ hi,h.2 i _ x (n0_ hi) e⟩
theorem Al.cons {R:V→α→Prop} {x:α} {xs:List α} (r:R v x) (h:Al R vs xs):Al R (v :: vs) (x :: xs):=by
 refine ⟨by simp [h.1],fun i w y e1 e2=>?_⟩;cases i with
 | zero=>simp at e1 e2;subst e1;subst e2;exact r
 | succ i=>exact h.2 i w y (by simpa using e1) (by simpa using e2)
theorem Al.bls {bs:List Bool} (h:Al (fun v b=>v=V.bl b) vs bs):vs=bs.map V.bl:=by
 refine List.ext_getElem? fun i=>?_;rw [n5_];cases e:bs[i]? with
 | none =>
   have:=List.getElem?_eq_none_iff.mp e
   rw [n58_ (by rw [h.1];exact this)];rfl
 | some b =>
   obtain ⟨v,ev,rfl⟩:=h.got e;rw [ev];rfl
theorem Al.ints (h:Al (fun v n=>v=V.int n) vs ns):vs=ns.map V.int:=by
 refine List.ext_getElem? fun i=>?_;rw [n5_];cases e:ns[i]? with
 | none =>
   have:=List.getElem?_eq_none_iff.mp e
   rw [n58_ (by rw [h.1];exact this)];rfl
 | some b =>
   obtain ⟨v,ev,rfl⟩:=h.got e;rw [ev];rfl
theorem Al.of_ints (ns:?g):Al (fun v n=>v=V.int n) ?U ns:=⟨by simp,fun i v n e1 e2=>by rw [n5_,e2] at e1;exact (Option.some.inj e1).symm⟩
theorem Zee {J:It} {σ0:St} {Q:VK} (R:Hp→V→α→Prop) (hR:∀ H1 H2 v x,Tk H1 H2→R H1 v x→R H2 v x) (ys_:List α) (hn:ys_.length=n) (hz:n≤1000) (ok:St→Prop) (h0:ok σ0) (hD:H D=none)
 (hgo:∀ i H2,Same H H2→i<n→J.go i H2) (hstop:∀ H2,Same H H2→J.stop n H2)
 (hs:∀ i x σ2 H2 H3 (C:St→V→?w),i<n→Same H H2→J.yld i H2 x H3→ok σ2→(∀ σ4 y H5 z,ok σ4→Same H2 H5→ys_[i]? = some z→R H5 y z→C σ4 y H5)→g x σ2 H3 fun σ4 H4=>te σ4 H4 (C σ4))
 (hd:∀ H2 vs,Same H H2→H2 D=some (.lst vs)→Al (R H2) vs ys_→Q (.ref D) H2):LcGo J g tYes te σ0 H D Q:=by
 refine Zcz (n:=n) (fun i σ H2=>Same H H2∧ok σ∧∃ vs,H2 D=some (.lst vs)∧Al (R H2) vs (ys_.take i)) ⟨Same.new hD,h0,[],Zc,by rw [List.take_zero];exact .nil⟩ (fun i σ H2 hi p=>hgo i H2 p.1 hi) (fun σ H2 p=>hstop H2 p.1) (fun i x σ2 H2 H3 hi y p=>?_) (fun σ2 H2 p=>?_)
 · obtain ⟨s2,o2,vs,e2,a2⟩:=p
   have:=hs i x σ2 H2 H3 (fun σ4 y H6=>∃ ys,H6 D=some (.lst ys)∧ys.length<sizeLine∧∃ m',m'<n-i∧LcN n (fun i σ H2=>Same H H2∧ok σ∧∃ vs,H2 D=some (.lst vs)∧Al (R H2) vs (ys_.take i)) (i+1) m' σ4 (upd H6 D (.lst (ys++[y])))) hi s2 y o2 ?_
   · exact this
   · intro σ4 v H5 z o4 s5 ez rz;have e5:H5 D=some (.lst vs):=s5 _ _ e2;refine ⟨vs,e5,?_,n-(i+1),?d,?d,rfl,fun b o e=>?_,o4,vs++[v],Zc,?_⟩
     · rw [a2.1,n60_,sizeLine_eq];omega
     · rw [Zl (Zj e hD)];exact s5 _ _ (s2 _ _ e)
     · have tk:Tk H5 (upd H5 D (.lst (vs++[v]))):=Tk.upd_lst e5;have hi':i<ys_.length:=?d
       rw [List.take_succ_eq_append_getElem hi'];rw [n0_ hi'] at ez;cases ez
       exact (a2.imp fun v x r=>hR _ _ v x tk (hR _ _ v x s5.tk r)).snoc (hR _ _ _ _ tk rz)
 · obtain ⟨s2,_,vs,e2,a2⟩:=p;rw [n34_ (?d)] at a2;exact hd H2 vs s2 e2 a2
def SK.At (H:Hp) (a:Addr) (vs:List V):SK→Prop
 | .l=>H a=some (.lst vs)
 | .t=>H a=some (.tup vs)
theorem SK.At.sq {k:SK} {K:PySem.W.Frag} (h:k.At H a vs):k.Sq K H a vs:=by
 cases k with
 | l=>exact SqL.of h
 | t=>exact SqT.of h
theorem SK.At.same {k:SK} (h:k.At H a vs) (s:?H):k.At H' a vs:=by
 cases k with
 | l=>exact s _ _ h
 | t=>exact s _ _ h
def SK.Itk (K:PySem.W.Frag) (a:Addr):SK→L2.It
 | .l=>Itl K a
 | .t=>Itt K a
theorem Zod {k:SK} {K:PySem.W.Frag} (h:k.At H a vs) (hi:i<vs.length):(k.Itk K a).go i H:=by
 cases k with
 | l=>exact ⟨vs,vs[i],SqL.of h,n0_ hi⟩
 | t=>exact ⟨vs,vs[i],SqT.of h,n0_ hi⟩
theorem Zga {k:SK} {K:PySem.W.Frag} (h:k.At H a vs) (hi:vs.length≤i):(k.Itk K a).stop i H:=by
 cases k with
 | l=>exact ⟨vs,SqL.of h,hi⟩
 | t=>exact ⟨vs,SqT.of h,hi⟩
theorem Zio {k:SK} {K:PySem.W.Frag} {x:V} (h:k.At H a vs) (y:(k.Itk K a).yld i H x H'):H'=H∧vs[i]? = some x:=by
 cases k with
 | l=>exact ⟨y.1,y.2 vs (SqL.of h)⟩
 | t=>exact ⟨y.1,y.2 vs (SqT.of h)⟩
theorem lc_T {k:SK} {K:PySem.W.Frag} {Q:VK} (R:Hp→V→α→Prop) (hR:∀ H1 H2 v x,Tk H1 H2→R H1 v x→R H2 v x) (ys:List α) (hn:ys.length=vs.length) (hz:vs.length≤1000) (hD:H D=none) (ha:k.At H a vs)
 (hs:∀ (i:Nat) (w:V) (H2:Hp) (C:V→?w),vs[i]? = some w→Same H H2→(∀ y H5 z,Same H2 H5→ys[i]? = some z→R H5 y z→C y H5)→te (some w :: rest) H2 C)
 (hd:∀ H2 us,Same H H2→H2 D=some (.lst us)→Al (R H2) us ys→Q (.ref D) H2):LcGo (k.Itk K a) (Xb 0) tYes te (u0 :: rest) H D Q:=by
 refine Zee R hR ys hn hz (fun σ=>∃ u,σ=u :: rest) ?K hD (fun i H2 s hi=>Zod (ha.same s) hi) (fun H2 s=>Zga (ha.same s) (n7_ _)) (fun i x σ2 H2 H3 C hi s y o c=>?_) hd;obtain ⟨u,rfl⟩:=o;obtain ⟨rfl,e⟩:=Zio (ha.same s) y;exact hs i x H3 (C (some x :: rest)) e s fun y H5 z s5 ez rz=>c _ y H5 z ?K s5 ez rz
theorem lc_Z {k l:SK} {K:PySem.W.Frag} {ws:List V} {u1:Option V} {Q:VK} (R:Hp→V→α→Prop) (hR:∀ H1 H2 v x,Tk H1 H2→R H1 v x→R H2 v x) (ys:List α) (hn:ys.length=min vs.length ws.length) (hz:min vs.length ws.length≤1000) (hD:H D=none) (ha:k.At H a vs) (hb:l.At H b ws)
 (hs:∀ (i:Nat) (v w:V) (H2:Hp) (C:V→?w),vs[i]? = some v→ws[i]? = some w→Same H H2→(∀ y H5 z,Same H2 H5→ys[i]? = some z→R H5 y z→C y H5)→te (some v :: some w :: rest) H2 C)
 (hd:∀ H2 us,Same H H2→H2 D=some (.lst us)→Al (R H2) us ys→Q (.ref D) H2):LcGo (Itz k l K a b) ?ak tYes te (u0 :: u1 :: rest) H D Q:=by
 refine Zee R hR ys hn hz (fun σ=>∃ u u',σ=u :: u' :: rest) ⟨_,_,rfl⟩ hD (fun i H2 s hi=>?_) (fun H2 s=>?_) (fun i x σ2 H2 H3 C hi s y o c=>?_) hd
 · have h1:i<vs.length:=?d
   have h2:i<ws.length:=?d
   exact ⟨vs,ws,vs[i],ws[i],(ha.same s).sq,(hb.same s).sq,n0_ h1,n0_ h2⟩
 · exact ⟨vs,ws,(ha.same s).sq,(hb.same s).sq,?d⟩
 · obtain ⟨u,u',rfl⟩:=o;obtain ⟨p,v,w,rfl,hp,rfl,y1,y2⟩:=y;have s3:Same H2 (upd H2 p (.tup [v,w])):=Same.new hp;refine ⟨p,[v,w],rfl,SqT.of Zc,rfl,v,[w],rfl,w,[],rfl,rfl,?_⟩;exact hs i v w _ (C (some v :: some w :: rest)) (y1 vs (ha.same s).sq) (y2 ws (hb.same s).sq) (s.trans s3) fun y H5 z s5 ez rz=>c _ y H5 z ⟨_,_,rfl⟩ (s3.trans s5) ez rz
abbrev Pnt:=Int×Int
theorem len3 {l:List α} (h:l.length=3):∃ x y z,l=[x,y,z]:=by
 cases l with
 | nil=>cases h
 | cons x l=>cases l with
   | nil=>cases h
   | cons y l=>cases l with
     | nil=>cases h
     | cons z l=>cases l with
       | nil=>exact ⟨x,y,z,rfl⟩
       | cons=>cases h
inductive BxIsI (H:Hp) (v:V) (ns:?g):Prop
 | mk (a:_) (q1:v=.ref a) (q2:H a=some (.tup ?U)):BxIsI H v ns
def IsI (H:Hp) (v:V) (ns:?g):Prop:=BxIsI H v ns
def IsP (H:Hp) (v:V) (p:Pnt):Prop:=IsI H v [p.1,p.2]
theorem IsI.tk (t:Tk H H') (h:IsI H v ns):IsI H' v ns:=by obtain ⟨a,e,q⟩:=h;exact ⟨a,e,t _ _ q⟩
theorem IsP.tk {p:Pnt} (t:Tk H H') (h:IsP H v p):IsP H' v p:=IsI.tk t h
inductive BxIsTupq {α:Type} (R:Hp→V→α→Prop) (H:Hp) (v:V) (xs:List α):Prop
 | mk (a:_) (vs:_) (q1:v=.ref a) (q2:H a=some (.tup vs)) (q3:Al (R H) vs xs):BxIsTupq R H v xs
def IsTup' {α:Type} (R:Hp→V→α→Prop) (H:Hp) (v:V) (xs:List α):Prop:=BxIsTupq R H v xs
theorem IsTup'.tk {R:Hp→V→α→Prop} (hR:∀ H1 H2 v x,Tk H1 H2→R H1 v x→R H2 v x) {xs:List α} (t:Tk H H') (h:IsTup' R H v xs):IsTup' R H' v xs:=by obtain ⟨a,vs,e,q,r⟩:=h;exact ⟨a,vs,e,t _ _ q,r.imp fun v x=>hR _ _ v x t⟩
structure Pl where
 cs:List Pnt
 ps:List (?g)
 ts:?g
 l:Int
 m:Int
def IsCs (H:Hp) (v:V) (cs:List Pnt):Prop:=IsTup' IsP H v cs
def IsPs (H:Hp) (v:V) (ps:List (?g)):Prop:=IsTup' IsI H v ps
theorem IsCs.tk {cs:List Pnt} (t:Tk H H') (h:IsCs H v cs):IsCs H' v cs:=IsTup'.tk (R:=IsP) (fun _ _ _ _ t r=>IsP.tk t r) t h
theorem IsPs.tk {ps:List (?g)} (t:Tk H H') (h:IsPs H v ps):IsPs H' v ps:=IsTup'.tk (R:=IsI) (fun _ _ _ _ t r=>IsI.tk t r) t h
inductive BxIsPl (H:Hp) (v:V) (P:Pl):Prop
 | mk (a:_) (c:_) (p:_) (t:_) (s:_) (q1:v=.ref a) (q2:H a=some (.tup [c,p,t,s])) (q3:IsCs H c P.cs) (q4:IsPs H p P.ps) (q5:IsI H t P.ts) (q6:IsI H s [P.l,P.m]):BxIsPl H v P
def IsPl (H:Hp) (v:V) (P:Pl):Prop:=BxIsPl H v P
theorem IsPl.tk {P:Pl} (t:Tk H H') (h:IsPl H v P):IsPl H' v P:=by obtain ⟨a,c,p,q,s,e,h1,h2,h3,h4,h5⟩:=h;exact ⟨a,c,p,q,s,e,t _ _ h1,h2.tk t,h3.tk t,h4.tk t,h5.tk t⟩
noncomputable def tn (a b c:Pnt):Int:=(b.1-a.1)*(c.2-a.2)-(c.1-a.1)*(b.2-a.2)
structure Tri where
 a:Pnt
 b:Pnt
 c:Pnt
def tri (a b c:Pnt):Tri:=if tn a b c<0 then ⟨a,c,b⟩ else ⟨a,b,c⟩
noncomputable def Tri.pts (t:Tri):List Pnt:=[t.a,t.b,t.c]
noncomputable def Tri.edges (t:Tri):List (Pnt×Pnt):=[(t.a,t.b),(t.b,t.c),(t.c,t.a)]
def Zj6 (p:Pnt) (t:Tri):Bool:=(t.edges.map fun e=>decide (0≤tn e.1 e.2 p)).all id
def Zhw (e:Pnt×Pnt) (u:Tri):Bool:=(u.pts.map fun q=>decide (tn e.1 e.2 q≤0)).all id
def Zby (t u:Tri):Bool:=t.edges.any fun e=>Zhw e u
def apart (t u:Tri):Bool:=Zby t u||Zby u t
def near (p:Pnt):Prop:=(-100≤p.1∧p.1≤100)∧(-100≤p.2∧p.2≤100)
def cAt (cs:List Pnt) (i:Int):Pnt:=cs.getD i.toNat (0,0)
def trOf (cs:List Pnt) (p:?g):Tri:=tri (cAt cs (p.getD 0 0)) (cAt cs (p.getD 1 0)) (cAt cs (p.getD 2 0))
def dOf (cs:List Pnt) (p:?g):Int:=tn (cAt cs (p.getD 0 0)) (cAt cs (p.getD 1 0)) (cAt cs (p.getD 2 0))
noncomputable def Ze5 (q:(Int→Bool)×Nat) (k:Int):(Int→Bool)×Nat:=(fun k'=>q.1 k'||decide (k'=k),if q.1 k then q.2 else q.2+1)
def cntS (l:?g):Nat:=(l.foldl Ze5 (fun _=>false,0)).2
structure PieceOk (cs:List Pnt) (p:?g):Prop where
 len:p.length=3
 bd:∀ i∈p,0≤i∧i≤(cs.length:Int)-1
 rise:p.getD 0 0<p.getD 1 0∧p.getD 1 0<p.getD 2 0
 d:dOf cs p≠0
structure PlOk (P:Pl):Prop where
 c3:3≤P.cs.length
 c30:P.cs.length≤30
 nr:∀ p∈P.cs,near p
 nd:P.cs.Nodup
 p1:1≤P.ps.length
 p40:P.ps.length≤40
 pc:∀ p∈P.ps,PieceOk P.cs p
 rise:∀ i:Nat,i+1<P.ps.length→HT.lexLt (P.ps.getD i []) (P.ps.getD (i+1) [])=true
 t1:P.ts.length=P.ps.length
 t9:∀ t∈P.ts,1≤t∧t≤9
 l9:0≤P.l∧P.l≤9
 m9:1≤P.m∧P.m≤9
 used:cntS P.ps.flatten=P.cs.length
 strange:∀ p∈P.ps,∀ j:Nat,j<P.cs.length→(j:Int)∉p→Zj6 (P.cs.getD j (0,0)) (trOf P.cs p)=false
 apart:∀ i j:Nat,i<j→j<P.ps.length→L2.apart (trOf P.cs (P.ps.getD j [])) (trOf P.cs (P.ps.getD i []))=true
abbrev Nms:=List (Str×NameKind)
def relN (sc:Nms) (dn:Nms):Nms:=sc.map fun y=>if y.2 == .free&&dn.lookup y.1 == some .cell then (y.1,.cell) else y
def chk (sc dn:Nms) (N XN:List Str) (fr:List (Option Nat)):Bool :=
 sc.all (fun y=>y.2 != .free||dn.lookup y.1 == some .cell)&&sc.all (fun y=>y.2 != .local||sc.lookup y.1 == some .local)&&sc.all (fun y=>y.2 != .cell||sc.lookup y.1 == some .cell)&&(fr.length == N.length) &&
  (List.range fr.length).all fun i=>match fr[i]? with
    | some (some j)=>match N[i]? with
      | some x=>XN[j]? == some x&&dn.lookup x == some .cell&&(relN sc dn).lookup x == some .cell&&sc.all (fun y=>y.1 != x||y.2 != .cell)&&sc.any (fun y=>y.1 == x&&y.2 == .free)
      | none=>false
    | _=>true
theorem Zbv {cells:List (Str×Addr)} {sc:Nms} (key:(x,NameKind.free)∈sc):∃ c,(Yz cells sc).lookup x=some c:=by
 have hm:(x,(cells.lookup x).getD 0)∈Yz cells sc:=by
  unfold Yz;exact List.mem_reverse.mpr (n21_.mpr ⟨(x,.free),List.mem_filter.mpr ⟨key,rfl⟩,rfl⟩)
 cases q:(Yz cells sc).lookup x with
 | some c'=>exact ⟨c',rfl⟩
 | none =>
   have z:=(List.lookup_eq_none_iff.mp q) _ hm;simp at z
theorem Zgm {sc dn:Nms} {k:NameKind} (hk:k=.cell∨k=.free) (h:(relN sc dn).lookup x=some k):(x,NameKind.free)∈sc∨(x,NameKind.cell)∈sc:=by
 have m:=n40_ h;obtain ⟨⟨n,k'⟩,hm,e⟩:=n21_.mp m
 by_cases hf:k'=.free
 · subst hf
   have:n=x:=by
    dsimp only at e;split at e<;>(injection e)
   subst this;exact .inl hm
 · have b:(k' == NameKind.free)=false:=by simpa using hf
   simp only [b,Bool.false_and,n39_,if_false] at e;injection e with e1 e2
   subst e1 e2
   rcases hk with rfl|rfl
   · exact .inr hm
   · exact absurd rfl hf
theorem Zcb {dn:Nms} (hn:env.scope.names=dn) (hk:env.scope.kind=.function):(relabel scope env).names=relN scope.names dn:=by
 unfold relabel relN;show scope.names.map _=scope.names.map _
 refine n57_ fun y _=>?_;obtain ⟨n,k⟩:=y;have e:(env.scope.kind == ScopeKind.function)=true:=by rw [hk];rfl
 have e2:env.kindOf n=dn.lookup n:=by rw [← hn];rfl
 simp only [e,e2,Bool.and_true]
theorem Z1 {XN:List Str} (dn:Nms) (hn:X.env.scope.names=dn) (hk:X.env.scope.kind=.function) (hX:X.N=XN) (hc:∀ x,dn.lookup x=some .cell→∃ c,X.env.cells.lookup x=some c)
 (h:chk scope.names dn N XN fr=true) (hs:scope.kind=.function):LcO X scope (Yz X.env.cells scope.names) N fr:=by
 unfold chk at h;simp only [n37_] at h;obtain ⟨⟨⟨⟨h1,h2⟩,h3⟩,h4⟩,h5⟩:=h
 have hf:∀ y∈scope.names,y.2=.free→∃ c,X.env.cells.lookup y.1=some c:=fun y hy e=>by
  have:=n52_.mp h1 y hy
  rw [e] at this;exact hc _ (by simpa using this)
 refine ⟨Zdf hf,fun x c e=>?_,fun x e=>?_,hs,fun y hy e=>?_,by simpa using h4,fun i j e=>?_⟩
 · have m:=n40_ e;unfold Yz at m;obtain ⟨⟨n,k⟩,hm,e2⟩:=n21_.mp (List.mem_reverse.mp m);obtain ⟨h1',h2'⟩:=List.mem_filter.mp hm;obtain ⟨c',hc'⟩:=hf _ h1' (by simpa using h2');injection e2 with e3 e4
   subst e3;rw [hc'] at e4;rw [hc',← e4];rfl
 · rw [Zcb hn hk] at e
   have:(x,NameKind.free)∈scope.names∨(x,NameKind.cell)∈scope.names:=e.elim (Zgm (.inl rfl)) (Zgm (.inr rfl))
   rcases this with m|m
   · exact .inr (Zbv m)
   · have:=n52_.mp h3 _ m
     exact .inl (by simpa using this)
 · have:=n52_.mp h2 y hy
   rw [e] at this
   simpa using this
 · have hi:i<fr.length:=(n22_.mp e).1
   have:=n52_.mp h5 i (n32_.mpr hi)
   rw [e] at this;cases hx:N[i]? with
   | none=>rw [hx] at this;cases this
   | some x =>
     rw [hx] at this;simp only [n37_,beq_iff_eq] at this;obtain ⟨⟨⟨⟨t1,t2⟩,t3⟩,t4⟩,t5⟩:=this;obtain ⟨⟨z1,z2⟩,m1,m2⟩:=List.any_eq_true.mp t5;simp only [n37_,beq_iff_eq] at m2;obtain ⟨rfl,rfl⟩:=m2;refine ⟨z1,rfl,by rw [hX];exact t1,.inl (by rw [hn];exact t2),.inl (by rw [Zcb hn hk];exact t3),Zbv m1,fun m=>?_⟩
     have:=n52_.mp t4 _ m
     simp at this
theorem Zad {cells:List (Str×Addr)} {sc dn:Nms} (hc:sc.all (fun y=>y.2 != .cell||sc.lookup y.1 == some .cell)=true) (h:(relN sc dn).lookup x=some .cell):∃ c,(cellsFrom n sc (Yz cells sc)).lookup x=some c:=by
 refine Option.isSome_iff_exists.mp (PySem.W.cellsFrom_some sc n _ ?_)
 rcases Zgm (.inl rfl) h with m|m
 · obtain ⟨c,e⟩:=Zbv (cells:=cells) m;exact .inr (by rw [e];rfl)
 · have:=n52_.mp hc _ m
   exact .inl (by simpa using this)
theorem Zac (h:scope.names.all (fun y=>y.2 != .cell&&y.2 != .free)=true) (hk:scope.kind=.function)
 (hn:∀ y∈scope.names,y.2=.local→scope.names.lookup y.1=some .local) (hl:fr.length=N.length) (hf:fr.all (·.isNone)=true):LcO X scope [] N fr:=by
 have no:∀ y∈scope.names,y.2≠.cell∧y.2≠.free:=fun y hy=>by
  have:=n52_.mp h y hy
  rw [n37_] at this
  simpa using this
 refine ⟨closureFor_none fun x hx=>(no x hx).2,fun x c e=>by simp at e,fun x e=>?_,hk,hn,hl,fun i j e=>?_⟩
 · exfalso
   have key:∀ k,(relabel scope X.env).names.lookup x=some k→k≠.cell∧k≠.free:=fun k e=>by
    obtain ⟨⟨n,k'⟩,hm,e2⟩:=n21_.mp (n40_ e);have b:(k' == NameKind.free)=false:=by simpa using (no _ hm).2
    simp only [b,Bool.false_and,n39_,if_false] at e2;cases e2
    exact no _ hm
   rcases e with e|e
   · exact (key _ e).1 rfl
   · exact (key _ e).2 rfl
 · have:=n52_.mp hf _ (n17_ e)
   cases this
theorem Zsr {j:Nat} {sp:Sp} (C:Cal X.prog X.w X.K X.mg X.base x k [] sp) (hr:Room j X.A) (hj:k≤j) (hg:Gl X x) (hdb:?af=false:=by decide) :
 PE X (.Call (.Name x p) [] [] pos) (fun _ H Q=>sp [] H Q E0):=by
 obtain ⟨f,fd,F,hm,hk,hb⟩:=C.ex;have h:=Zo7 (dvs:=[]) (E:=E0) (p:=p) (pos:=pos) F (hr.mono hj) hg hm hk hb .nil Zsn hdb;exact h
inductive BxRNeL (K:PySem.W.Frag) (x y:V) (H:Hp) (Q:VK):Prop
 | mk (a:_) (b:_) (xs:_) (q1:x=.ref a) (q2:y=.ref b) (q3:SqL K H a xs) (q4:SqL K H b []) (q5:Q (.bl (!decide (xs=[]))) H):BxRNeL K x y H Q
def rNeL (K:PySem.W.Frag):R2:=fun x y H Q=>BxRNeL K x y H Q
theorem Zuf (hu:X.A.units<cLine):OpR X (compareOp .NotEq) (rNeL X.K):=by
 intro pins s σ H x y v u Q I rx ry h;obtain ⟨a,b,xs,rfl,rfl,h1,h2,q⟩:=h;cases rx;cases ry
 obtain ⟨us,r1,p1,_⟩:=I.list h1;obtain ⟨ws,r2,p2,_⟩:=I.list h2;have l1:=r1.length;have e:ws=[]:=r2.nil_iff.mpr rfl;subst e;cases hx:xs with
 | nil =>
   subst hx;have e:us=[]:=r1.nil_iff.mpr rfl;subst e;exact SeqAt.RcNeAt.lists (e:=fun j=>true) p1.isList p2.isList rfl hu (fun j h1 h2=>absurd h2 ?f) _ _ _ _ ⟨.bl _,H,I,rfl,q⟩
 | cons y ys =>
   subst hx;exact SeqAt.RcNeAt.lists_lengths p1.isList p2.isList (by simp at l1;simp [← l1]) hu _ _ _ _ ⟨.bl _,H,I,rfl,q⟩
theorem Zdl (K:PySem.W.Frag) (h:X.K=K):IxR X (rIxL K):=h ▸ Ym
theorem Zet (K:PySem.W.Frag) (h:X.K=K):IxR X (rIxT K):=h ▸ Zw
theorem Ye (K:PySem.W.Frag) (h:X.K=K):Xl X (?M) (Zd2 K):=h ▸ Zn
theorem Zf5 (K:PySem.W.Frag) (h:X.K=K):Xl X (.builtin "sorted") (Zfy K):=h ▸ Zg0
theorem Zf9 (K:PySem.W.Frag) {l:Expr} (h:X.K=K) (hl:PE X l tl):PI X tg l (Zug K tl):=h ▸ Yl hl
theorem Zi1 (K:PySem.W.Frag) {l:Expr} (h:X.K=K) (hl:PE X l tl):PI X tg l (iTup K tl):=h ▸ Zai hl
theorem Zt6 {k:SK} {K:PySem.W.Frag} {u1:Option V} {Q:VK} (R:Hp→V→α→Prop) (hR:∀ H1 H2 v x,Tk H1 H2→R H1 v x→R H2 v x) (ys:List α) (hn:ys.length=vs.length) (hz:vs.length≤1000) (hD:H D=none) (ha:k.At H a vs)
 (hp:∀ (i:Nat) (w:V),vs[i]? = some w→∃ p x y,w=.ref p∧H p=some (.tup [x,y]))
 (hs:∀ (i:Nat) (p:Addr) (x y:V) (H2:Hp) (C:V→?w),vs[i]? = some (.ref p)→H p=some (.tup [x,y])→Same H H2→(∀ y H5 z,Same H2 H5→ys[i]? = some z→R H5 y z→C y H5)→te (some x :: some y :: rest) H2 C)
 (hd:∀ H2 us,Same H H2→H2 D=some (.lst us)→Al (R H2) us ys→Q (.ref D) H2):LcGo (k.Itk K a) ?ak tYes te (u0 :: u1 :: rest) H D Q:=by
 refine Zee R hR ys hn hz (fun σ=>∃ u u',σ=u :: u' :: rest) ⟨_,_,rfl⟩ hD (fun i H2 s hi=>Zod (ha.same s) hi) (fun H2 s=>Zga (ha.same s) (n7_ _)) (fun i x σ2 H2 H3 C hi s y o c=>?_) hd;obtain ⟨u,u',rfl⟩:=o;obtain ⟨rfl,e⟩:=Zio (ha.same s) y;obtain ⟨p,x1,y1,rfl,e2⟩:=hp i x e;exact ⟨p,[x1,y1],rfl,SqT.of (s _ _ e2),rfl,x1,[y1],rfl,y1,[],rfl,rfl,hs i p x1 y1 H3 (C (some x1 :: some y1 :: rest)) e e2 s fun y H5 z s5 ez rz=>c _ y H5 z ⟨_,_,rfl⟩ s5 ez rz⟩
theorem Zfe {X:Cx} {x:Str} {pos' spos:Pos} {tg elt iter:Expr} {ifs:List Expr} {scope:Scope} {cl:List (Str×Addr)} {N:List Str} {fr:List (Option Nat)} {pos:Pos} {wi:TI} {g g':TG} {tt:TT} {te:TE}
 (hw:swapsWith (.ListComp elt [⟨tg,iter,ifs,0⟩] scope pos) (some (.Name x pos')) spos.line X.env=pure true)
 (hc:X.calm=true) (hg':PG X (.Name x pos') g') (L:LcO X scope cl N fr) (hi:PI X tg iter wi) (hg:∀ C s3 H3 fp,PG ?ab tg g)
 (ht:∀ C s3 H3 fp,PIfs ?ab ifs tt) (he:∀ C s3 H3 fp,PE ?ab elt te)
 (hs:∀ x,foldedSetIterable iter X.env x=pure x:=by intro _;rfl):PS X (.Assign [.Name x pos'] (.ListComp elt [⟨tg,iter,ifs,0⟩] scope pos) spos) (tAsg (tLC wi g tt te fr) g'):=by
 intro pins s σ H D I h;rw [exec_Assign_Name_used _ _ _ _ hw];refine n1_ (wpAny_standAt (n1_ ?_));rw [arm_evalThenUse_ListComp];refine n1_ (wpAny_comprehension_free (Q:=fun _ s'=>wpAny ?A X.A (pure ()) (fun _ s''=>wpAny ?A X.A (pure Flow.next) (SP X pins D) X.xe s'') X.xe s') (use:=some (assign (.Name x pos') X.env)) rfl hs L.clos L.kind L.names (thn (hi pins s σ H _ I h) fun v s1 h1=>thn h1 fun itv s2 h2=>?_));obtain ⟨it,fp,tn,J,H2,e,I2,T,st2,f2,h⟩:=h2;subst e;obtain ⟨W,⟨m0,w0⟩,turn⟩:=h s2.z (I2.hok.fresh (n7_ _));refine wpAny_newObj_type ?_;generalize hs3:({ s2 with heap:=s2.heap.push { cls:=.type "list",dict:=none,data:=.seq ([]:?t).toArray } }:Shared)=s3;refine Zge (ac:=.lst []) hs3.symm hc L hg I2 T st2 f2 ⟨n47_ _,[],_,.nil,n8_ _ rfl⟩ w0 turn (fun _ _ a b=>codeAny_compStart_list a (b _)) (fun LI s4 t n h=>Zc0 LI t n h) (fun H6 s7 qn I3 fr7 c=>?_) (Zn3 ht he);obtain ⟨m7,hn7,c7⟩:=c;have I8:Inv X pins σ H6 s7:=c7 s7.heap (Heap.SameBut.refl ..)
 have fpC:∀ {H6:Hp},H6 s3.z=none→∀ b∈[s3.z],FpOk X pins H6 b:=fun fr b hb=>by
  rw [n18_] at hb;subst hb;exact I3.fpOk (n7_ _) fr
 obtain ⟨oC,esC,epC,geC,dC,skC,nfC⟩:=hn7
 have I9:=I8.pinned (fpC fr7) (fun b hb=>by
  rw [n18_] at hb;subst hb;exact ⟨oC,geC,fun v z=>by rw [dC] at z;cases z⟩)
 refine thn (hg' _ s7 σ H6 (.ref s2.z) (.ref s2.z) _ I9 rfl qn) fun _ s9 ⟨σ9,H9,I10,q9⟩=>?_;have pC:=I10.pin (s3.z,oC) (n26_ _ (n26_ _ (Y4 (n18_.mpr rfl) geC)));refine ⟨m7,⟨oC,esC,epC,pC.1,dC,skC,nfC⟩,fun h' sb=>?_⟩;refine n6_ (n6_ ?_);exact ⟨σ9,H9,I10.unpinned.turnGen (t':=s9.toks) (ch:=[s3.z]) (fun b u nb e=>(sb.2 b (fun z=>nb (by rw [z];exact n18_.mpr rfl))).trans e) (fpC pC.2.1) (fun _ _ e=>e) (fun _ _ _ e=>e) (fun b u e1 e2=>by rw [e1] at e2;cases e2),q9⟩
def tD (a b c x y q:Pnt):Int:=tn a b c*tn x y q
def inS (a b c q:Pnt):Prop:=0≤tD a b c a b q∧0≤tD a b c b c q∧0≤tD a b c c a q
def bey (a b c x y u v w:Pnt):Prop:=tD a b c x y u≤0∧tD a b c x y v≤0∧tD a b c x y w≤0
def sepS (a b c u v w:Pnt):Prop:=bey a b c a b u v w∨bey a b c b c u v w∨bey a b c c a u v w
instance {a b c q:Pnt}:Decidable (inS a b c q):=by unfold inS;infer_instance
instance {a b c x y u v w:Pnt}:Decidable (bey a b c x y u v w):=by unfold bey;infer_instance
instance {a b c u v w:Pnt}:Decidable (sepS a b c u v w):=by unfold sepS;infer_instance
theorem Zbs (a b q:Pnt):tn b a q =-tn a b q:=by unfold tn;grind
theorem Zrc (a b c:Pnt):tn b c a=tn a b c:=by unfold tn;grind
theorem Zsa (a b c x y q:Pnt):tD b a c x y q=tD a b c y x q:=by
 unfold tD;rw [Zbs a b c,Zbs x y q];grind
theorem Zq1 (a b c x y q:Pnt):tD b c a x y q=tD a b c x y q:=by unfold tD;rw [Zrc]
theorem Zm4 (a b c x y q:Pnt):tD b a c y x q=tD a b c x y q:=Zsa a b c y x q
theorem Zrs {a b c q:Pnt} (h:inS a b c q):inS b c a q:=by
 unfold inS at *;simp only [Zq1];exact ⟨h.2.1,h.2.2,h.1⟩
theorem Zu2 {a b c q:Pnt} (h:inS a b c q):inS b a c q:=by
 unfold inS at *;simp only [Zm4];exact ⟨h.1,h.2.2,h.2.1⟩
theorem Zrz {a b c x y u v w:Pnt}:bey b c a x y u v w=bey a b c x y u v w:=by unfold bey;simp only [Zq1]
theorem Zvo {a b c x y u v w:Pnt}:bey b a c y x u v w=bey a b c x y u v w:=by unfold bey;simp only [Zm4]
theorem Zsj {a b c u v w:Pnt} (h:sepS a b c u v w):sepS b c a u v w:=by
 unfold sepS at *;simp only [Zrz];rcases h with h|h|h
 · exact .inr (.inr h)
 · exact .inl h
 · exact .inr (.inl h)
theorem Zt0 {a b c u v w:Pnt} (h:sepS a b c u v w):sepS b a c u v w:=by
 unfold sepS at *;simp only [Zvo];rcases h with h|h|h
 · exact .inl h
 · exact .inr (.inr h)
 · exact .inr (.inl h)
theorem Zpy {a b c u v w:Pnt} (h:sepS a b c u v w):sepS a b c v w u:=by
 unfold sepS bey at *;rcases h with ⟨h1,h2,h3⟩|⟨h1,h2,h3⟩|⟨h1,h2,h3⟩
 · exact .inl ⟨h2,h3,h1⟩
 · exact .inr (.inl ⟨h2,h3,h1⟩)
 · exact .inr (.inr ⟨h2,h3,h1⟩)
theorem Ztt {a b c u v w:Pnt} (h:sepS a b c u v w):sepS a b c v u w:=by
 unfold sepS bey at *;rcases h with ⟨h1,h2,h3⟩|⟨h1,h2,h3⟩|⟨h1,h2,h3⟩
 · exact .inl ⟨h2,h1,h3⟩
 · exact .inr (.inl ⟨h2,h1,h3⟩)
 · exact .inr (.inr ⟨h2,h1,h3⟩)
theorem Zp1 [DecidableEq α] {x y z a b c:α} (h:[x,y,z].Perm [a,b,c]) (P:α→α→α→Prop) (rot:∀ a b c,P a b c→P b c a) (sw:∀ a b c,P a b c→P b a c) (p:P a b c):P x y z:=by
 have hx:x∈[a,b,c]:=h.mem_iff.mp ?f;simp only [n12_,n16_,or_false] at hx
 have two:∀ {y z b c:α},[y,z].Perm [b,c]→(y=b∧z=c)∨(y=c∧z=b):=by
  intro y z b c h;have hy:y∈[b,c]:=h.mem_iff.mp ?f;simp only [n12_,n16_,or_false] at hy
  rcases hy with rfl|rfl
  · have:=List.perm_cons y |>.mp h
    exact .inl ⟨rfl,by simpa using this⟩
  · have:=List.perm_cons y |>.mp (h.trans (List.Perm.swap y b []))
    exact .inr ⟨rfl,by simpa using this⟩
 rcases hx with rfl|rfl|rfl
 · rcases two ((List.perm_cons x).mp h) with ⟨rfl,rfl⟩|⟨rfl,rfl⟩
   · exact p
   · exact sw _ _ _ (rot _ _ _ (rot _ _ _ p))
 · rcases two ((List.perm_cons x).mp (h.trans (List.Perm.swap x a [c]))) with ⟨rfl,rfl⟩|⟨rfl,rfl⟩
   · exact sw _ _ _ p
   · exact rot _ _ _ p
 · have h2:[x,y,z].Perm [x,a,b]:=h.trans (((List.Perm.swap x b []).cons a).trans (List.Perm.swap x a [b]))
   rcases two ((List.perm_cons x).mp h2) with ⟨rfl,rfl⟩|⟨rfl,rfl⟩
   · exact rot _ _ _ (rot _ _ _ p)
   · exact sw _ _ _ (rot _ _ _ p)
theorem Zlz {a b c q:Pnt} (hd:tn a b c≠0):Zj6 q (tri a b c)=true↔inS a b c q:=by
 unfold Zj6 tri inS tD
 by_cases h:tn a b c<0
 · rw [if_pos h];have e1:tn a c q =-tn c a q:=Zbs c a q;have e2:tn c b q =-tn b c q:=Zbs b c q;have e3:tn b a q =-tn a b q:=Zbs a b q;simp only [Tri.edges,n19_,n70_,List.all_cons,List.all_nil,id,Bool.and_true,n37_,decide_eq_true_eq,e1,e2,e3]
   have k:∀ t:Int,(0≤tn a b c*t↔0≤-t):=fun t=>by
    constructor
    · intro g
      by_cases ht:0<t
      · have:=Int.mul_neg_of_neg_of_pos h ht
        omega
      · omega
    · intro g;exact Int.mul_nonneg_of_nonpos_of_nonpos (?d) (?d)
   rw [k,k,k];constructor
   · rintro ⟨h1,h2,h3⟩;exact ⟨h3,h2,h1⟩
   · rintro ⟨h1,h2,h3⟩;exact ⟨h3,h2,h1⟩
 · rw [if_neg h];have hp:0<tn a b c:=?d
   simp only [Tri.edges,n19_,n70_,List.all_cons,List.all_nil,id,Bool.and_true,n37_,decide_eq_true_eq]
   have k:∀ t:Int,(0≤tn a b c*t↔0≤t):=fun t=>by
    constructor
    · intro g
      by_cases ht:t<0
      · have:=Int.mul_neg_of_pos_of_neg hp ht
        omega
      · omega
    · intro g;exact Int.mul_nonneg (?d) g
   rw [k,k,k]
theorem Zfw {e:Pnt×Pnt} {u v w:Pnt} {t:Tri} (ht:t=tri u v w):Zhw e t=true↔tn e.1 e.2 u≤0∧tn e.1 e.2 v≤0∧tn e.1 e.2 w≤0:=by
 subst ht;unfold Zhw tri;split
 · simp only [Tri.pts,n19_,n70_,List.all_cons,List.all_nil,id,Bool.and_true,n37_,decide_eq_true_eq];constructor
   · rintro ⟨h1,h2,h3⟩;exact ⟨h1,h3,h2⟩
   · rintro ⟨h1,h2,h3⟩;exact ⟨h1,h3,h2⟩
 · simp only [Tri.pts,n19_,n70_,List.all_cons,List.all_nil,id,Bool.and_true,n37_,decide_eq_true_eq]
theorem Zc3 {a b c u v w:Pnt} (hd:tn a b c≠0) (h:sepS a b c u v w):Zby (tri a b c) (tri u v w)=true:=by
 unfold Zby
 have k:∀ x y:Pnt,bey a b c x y u v w→(tn a b c<0→Zhw (y,x) (tri u v w)=true)∧(¬ tn a b c<0→Zhw (x,y) (tri u v w)=true):=by
  intro x y g;unfold bey tD at g;refine ⟨fun hn=>(Zfw rfl).mpr ?_,fun hn=>(Zfw rfl).mpr ?_⟩
  · have kk:∀ q:Pnt,tn a b c*tn x y q≤0→tn y x q≤0:=fun q hq=>by
     rw [Zbs x y q]
     by_cases ht:tn x y q<0
     · have:=Int.mul_pos_of_neg_of_neg hn ht
       omega
     · omega
    exact ⟨kk _ g.1,kk _ g.2.1,kk _ g.2.2⟩
  · have hp:0<tn a b c:=?d
    have kk:∀ q:Pnt,tn a b c*tn x y q≤0→tn x y q≤0:=fun q hq=>by
     by_cases ht:0<tn x y q
     · have:=Int.mul_pos hp ht
       omega
     · omega
    exact ⟨kk _ g.1,kk _ g.2.1,kk _ g.2.2⟩
 rw [List.any_eq_true];generalize tri u v w=T at k ⊢;unfold tri
 by_cases hn:tn a b c<0
 · rw [if_pos hn]
   rcases h with h|h|h
   · exact ⟨(b,a),by simp [Tri.edges],(k _ _ h).1 hn⟩
   · exact ⟨(c,b),by simp [Tri.edges],(k _ _ h).1 hn⟩
   · exact ⟨(a,c),by simp [Tri.edges],(k _ _ h).1 hn⟩
 · rw [if_neg hn]
   rcases h with h|h|h
   · exact ⟨(a,b),by simp [Tri.edges],(k _ _ h).2 hn⟩
   · exact ⟨(b,c),by simp [Tri.edges],(k _ _ h).2 hn⟩
   · exact ⟨(c,a),by simp [Tri.edges],(k _ _ h).2 hn⟩
structure Aff where
 a:Int
 b:Int
 c:Int
 d:Int
 s:Int
 t:Int
noncomputable def Aff.at (A:Aff) (p:Pnt):Pnt:=(A.a*p.1+A.b*p.2+A.s,A.c*p.1+A.d*p.2+A.t)
noncomputable def Aff.det (A:Aff):Int:=A.a*A.d-A.b*A.c
theorem Aff.tn (A:Aff) (p q r:Pnt):L2.tn (A.at p) (A.at q) (A.at r)=A.det*L2.tn p q r:=by
 unfold L2.tn Aff.at Aff.det;dsimp only
 grind
theorem Aff.tD (A:Aff) (a b c x y q:Pnt):L2.tD (A.at a) (A.at b) (A.at c) (A.at x) (A.at y) (A.at q)=A.det*A.det*L2.tD a b c x y q:=by
 unfold L2.tD;rw [A.tn,A.tn]
 grind
theorem Aff.sq {A:Aff} (h:A.det≠0):0<A.det*A.det:=by
 by_cases g:0<A.det
 · exact Int.mul_pos g g
 · exact Int.mul_pos_of_neg_of_neg (?d) (?d)
theorem Aff.nn {A:Aff} (h:A.det≠0) (t:Int):0≤A.det*A.det*t↔0≤t:=by
 have hp:=A.sq h;constructor
 · intro g
   by_cases ht:t<0
   · have:=Int.mul_neg_of_pos_of_neg hp ht
     omega
   · omega
 · intro g;exact Int.mul_nonneg (?d) g
theorem Aff.np {A:Aff} (h:A.det≠0) (t:Int):A.det*A.det*t≤0↔t≤0:=by
 have hp:=A.sq h;constructor
 · intro g
   by_cases ht:0<t
   · have:=Int.mul_pos hp ht
     omega
   · omega
 · intro g
   have:=Int.mul_nonneg (a:=A.det*A.det) (b:=-t) (?d) (?d)
   rw [Int.mul_neg] at this;omega
theorem Aff.inS {A:Aff} (h:A.det≠0) {a b c q:Pnt}:L2.inS (A.at a) (A.at b) (A.at c) (A.at q)↔L2.inS a b c q:=by
 unfold L2.inS;rw [A.tD,A.tD,A.tD,A.nn h,A.nn h,A.nn h]
theorem Aff.bey {A:Aff} (h:A.det≠0) {a b c x y u v w:Pnt}:L2.bey (A.at a) (A.at b) (A.at c) (A.at x) (A.at y) (A.at u) (A.at v) (A.at w)↔L2.bey a b c x y u v w:=by
 unfold L2.bey;rw [A.tD,A.tD,A.tD,A.np h,A.np h,A.np h]
theorem Aff.sep {A:Aff} (h:A.det≠0) {a b c u v w:Pnt}:L2.sepS (A.at a) (A.at b) (A.at c) (A.at u) (A.at v) (A.at w)↔L2.sepS a b c u v w:=by
 unfold L2.sepS;rw [A.bey h,A.bey h,A.bey h]
theorem Aff.inj {A:Aff} (h:A.det≠0) {p q:Pnt} (e:A.at p=A.at q):p=q:=by
 unfold Aff.at at e;have e1:=congrArg Prod.fst e;have e2:=congrArg Prod.snd e;dsimp only at e1 e2;unfold Aff.det at h;have f1:(A.a*A.d-A.b*A.c)*(p.1-q.1)=0:=by grind
 have f2:(A.a*A.d-A.b*A.c)*(p.2-q.2)=0:=by grind
 have g1:=(Int.mul_eq_zero.mp f1).resolve_left h;have g2:=(Int.mul_eq_zero.mp f2).resolve_left h;exact Prod.ext (?d) (?d)
def Zk4 (pts:List Pnt):?g→Bool
 | [i,j,k]=>decide (0≤i∧i<(pts.length:Int))&&decide (0≤j∧j<(pts.length:Int))&&decide (0≤k∧k<(pts.length:Int))&&decide (i≠j∧i≠k∧j≠k)&&decide (tn (cAt pts i) (cAt pts j) (cAt pts k)≠0) &&
    (List.range pts.length).all fun x=>decide ((x:Int)=i∨(x:Int)=j∨(x:Int)=k)||!decide (inS (cAt pts i) (cAt pts j) (cAt pts k) (cAt pts x))
 | _=>false
def sepB (pts:List Pnt):?g→?g→Bool
 | [i,j,k],[u,v,w]=>decide (sepS (cAt pts i) (cAt pts j) (cAt pts k) (cAt pts u) (cAt pts v) (cAt pts w))||decide (sepS (cAt pts u) (cAt pts v) (cAt pts w) (cAt pts i) (cAt pts j) (cAt pts k))
 | _,_=>false
def Zs4 (N M:Nat) (pts:List Pnt) (pcs:List (?g)):Bool :=
 decide (3≤pts.length∧pts.length≤N)&&decide (1≤pcs.length∧pcs.length≤M)&&decide pts.Nodup&&pcs.all (Zk4 pts) &&
  ((List.range pts.length).all fun k=>pcs.any fun p=>decide ((k:Int)∈p)) &&
  (List.range pcs.length).all fun i=>(List.range pcs.length).all fun j=>decide (i=j)||(sepB pts (pcs.getD i []) (pcs.getD j [])&&(pcs.getD i []).any fun x=>decide (x∉pcs.getD j []))
structure BaseG (N M:Nat) (pts:List Pnt) (pcs:List (?g)):Prop where
 n3:3≤pts.length
 n6:pts.length≤N
 p1:1≤pcs.length
 p4:pcs.length≤M
 nd:pts.Nodup
 pc:∀ p∈pcs,Zk4 pts p=true
 us:∀ k:Nat,k<pts.length→∃ p∈pcs,(k:Int)∈p
 sep:∀ i j:Nat,i<pcs.length→j<pcs.length→i≠j→sepB pts (pcs.getD i []) (pcs.getD j [])=true∧∃ x∈pcs.getD i [],x∉pcs.getD j []
theorem Zeh {N M:Nat} {pts:List Pnt} {pcs:List (?g)} (h:Zs4 N M pts pcs=true):BaseG N M pts pcs:=by
 unfold Zs4 at h;simp only [n37_,decide_eq_true_eq,n52_,List.any_eq_true,n32_,Bool.or_eq_true] at h;obtain ⟨⟨⟨⟨⟨⟨h1,h2⟩,h3,h4⟩,h6⟩,h7⟩,h8⟩,h9⟩:=h;exact ⟨h1,h2,h3,h4,h6,h7,h8,fun i j hi hj ne=>(h9 i hi j hj).resolve_left ne⟩
structure Base (pts:List Pnt) (pcs:List (?g)):Prop extends BaseG 6 4 pts pcs where
 bd:∀ p∈pts,p.1.natAbs≤6∧p.2.natAbs≤6
structure CoOrd (n:Nat) (o:?g):Prop where
 len:o.length=n
 bd:∀ j:Nat,j<n→0≤o.getD j 0∧o.getD j 0<n
 inj:∀ i j:Nat,i<n→j<n→o.getD i 0=o.getD j 0→i=j
 sur:∀ k:Nat,k<n→∃ j:Nat,j<n∧o.getD j 0=k
theorem Zvg {o:?g} (h:o.Perm ((List.range n).map fun i:Nat=>(i:Int))):CoOrd n o:=by
 have hl:o.length=n:=by rw [h.length_eq];simp
 have nd:o.Nodup:=h.symm.nodup (List.Pairwise.map _ (fun a b ne e=>ne (Int.ofNat.inj e)) List.nodup_range);have g:∀ j:Nat,(hj:j<n)→o.getD j 0=o[j]'(?d):=fun j hj=>by rw [n4_,n0_ (?d)];rfl
 refine ⟨hl,fun j hj=>?_,fun i j hi hj e=>?_,fun k hk=>?_⟩
 · rw [g j hj]
   have:o[j]'(?d)∈(List.range n).map fun i:Nat=>(i:Int):=h.mem_iff.mp (n24_ _)
   obtain ⟨k,hk,e⟩:=n21_.mp this
   have:=n32_.mp hk
   omega
 · rw [g i hi,g j hj] at e;exact (List.getElem_inj nd).mp e
 · have:(k:Int)∈o:=h.mem_iff.mpr (n21_.mpr ⟨k,n32_.mpr hk,rfl⟩)
   obtain ⟨j,hj,e⟩:=n50_ this;exact ⟨j,?d,by rw [g j (?d)];exact e⟩
def oAt (o:?g) (i:Int):Int:=o.getD i.toNat 0
theorem Zrp {pts:List Pnt} {p:?g} (h:Zk4 pts p=true):∃ i j k,p=[i,j,k]∧(0≤i∧i<(pts.length:Int))∧(0≤j∧j<(pts.length:Int))∧(0≤k∧k<(pts.length:Int))∧(i≠j∧i≠k∧j≠k)∧tn (cAt pts i) (cAt pts j) (cAt pts k)≠0 ∧
 ∀ x:Nat,x<pts.length→(x:Int)∉p→¬ inS (cAt pts i) (cAt pts j) (cAt pts k) (cAt pts x):=by
 unfold Zk4 at h;split at h
 · rename_i i j k
   simp only [n37_,decide_eq_true_eq,n52_,n32_,Bool.or_eq_true,Bool.not_eq_true',decide_eq_false_iff_not] at h;obtain ⟨⟨⟨⟨⟨h1,h2⟩,h3⟩,h4⟩,h5⟩,h6⟩:=h;refine ⟨i,j,k,rfl,h1,h2,h3,h4,h5,fun x hx nm=>(h6 x hx).resolve_left fun z=>nm ?_⟩
   simpa using z
 · cases h
theorem Zn2 (l:?g) (hb:∀ x∈l,0≤x∧x<n) (hs:∀ k:Nat,k<n→(k:Int)∈l):cntS l=n:=by
 have key:∀ (l:?g),(∀ x∈l,0≤x∧x<n)→∀ q:(Int→Bool)×Nat,q.2=(List.range n).countP (fun k:Nat=>q.1 k)→(l.foldl Ze5 q).2=(List.range n).countP (fun k:Nat=>(l.foldl Ze5 q).1 k)∧∀ x,(l.foldl Ze5 q).1 x=(q.1 x||decide (x∈l)):=by
  intro l
  induction l with
  | nil=>intro _ q h;exact ⟨h,fun x=>by simp⟩
  | cons y l ih =>
    intro hb q h;rw [List.foldl_cons];have hy:=hb y n20_
    have step:(Ze5 q y).2=(List.range n).countP (fun k:Nat=>(Ze5 q y).1 k):=by
     unfold Ze5;dsimp only
     by_cases g:q.1 y=true
     · rw [if_pos g,h];refine congrArg (fun f=>List.countP f (List.range n)) (funext fun k=>?_)
       by_cases e:(k:Int)=y
       · rw [e,g];rfl
       · simp [e]
     · rw [if_neg g,h];have g':q.1 y=false:=by simpa using g
       obtain ⟨m,rfl⟩:∃ m:Nat,y=m:=⟨y.toNat,?d⟩;have hm:m<n:=?d
       have:∀ r:Nat,(List.range r).countP (fun k:Nat=>q.1 k||decide ((k:Int)=(m:Int)))=(List.range r).countP (fun k:Nat=>q.1 k)+(if m<r then 1 else 0):=by
        intro r
        induction r with
        | zero=>rfl
        | succ r ihr =>
          rw [List.range_succ,List.countP_append,List.countP_append,ihr];simp only [List.countP_singleton]
          by_cases e:r=m
          · subst e;rw [g']
            simp
          · have e2:¬ (r:Int)=(m:Int):=?d
            simp only [e2,decide_false,Bool.or_false];have e3:(m<r+1)↔(m<r):=?d
            simp only [e3];omega
       rw [this n,if_pos hm]
    obtain ⟨i1,i2⟩:=ih (fun x hx=>hb x (n15_ _ hx)) (Ze5 q y) step;refine ⟨i1,fun x=>?_⟩;rw [i2];unfold Ze5;dsimp only
    by_cases e:x=y
    · subst e;simp
    · simp [e]
 obtain ⟨k1,k2⟩:=key l hb (fun _=>false,0) ?f;unfold cntS;rw [k1]
 have:(List.range n).countP (fun k:Nat=>(l.foldl Ze5 (fun _=>false,0)).1 k)=(List.range n).length:=by
  rw [List.countP_eq_length];intro k hk;rw [k2];simp [hs k (n32_.mp hk)]
 rw [this,n69_]
structure Small (A:Aff):Prop where
 a:A.a.natAbs≤3
 b:A.b.natAbs≤3
 c:A.c.natAbs≤3
 d:A.d.natAbs≤3
 s:A.s.natAbs≤30
 t:A.t.natAbs≤30
theorem Ztp {A:Aff} (S:Small A) {p:Pnt} (h:p.1.natAbs≤6∧p.2.natAbs≤6):near (A.at p):=by
 have h1:(A.a*p.1).natAbs≤3*6:=by rw [n53_];exact n54_ S.a h.1
 have h2:(A.b*p.2).natAbs≤3*6:=by rw [n53_];exact n54_ S.b h.2
 have h3:(A.c*p.1).natAbs≤3*6:=by rw [n53_];exact n54_ S.c h.1
 have h4:(A.d*p.2).natAbs≤3*6:=by rw [n53_];exact n54_ S.d h.2
 have r:∀ {u v w:Int},u.natAbs≤3*6→v.natAbs≤3*6→w.natAbs≤30→(u+v+w).natAbs≤100:=fun a b c=>n31_ (Int.natAbs_add_le _ _) (n31_ (Nat.add_le_add (n31_ (Int.natAbs_add_le _ _) (Nat.add_le_add a b)) c) ?e);have k:∀ {z:Int},z.natAbs≤100→-100≤z∧z≤100:=fun h=>?d
 exact ⟨k (r h1 h2 S.s),k (r h3 h4 S.t)⟩
structure DrawnG (N M:Nat) (pts:List Pnt) (pcs:List (?g)) (A:Aff) (o:?g) (cs:List Pnt) (kl:List (?g)) (q:?p):Prop where
 base:BaseG N M pts pcs
 det:A.det≠0
 nr:∀ p∈pts,near (A.at p)
 ord:CoOrd pts.length o
 len:cs.length=pts.length
 at_:∀ j:Nat,j<pts.length→cs[(o.getD j 0).toNat]? = some (A.at (pts.getD j (0,0)))
 klen:kl.length=pcs.length
 key:∀ i:Nat,i<pcs.length→(kl.getD i []).Perm ((pcs.getD i []).map (oAt o))∧(kl.getD i []).Pairwise (·≤·)
 perm:q.Perm (List.range pcs.length)
structure Drawn (pts:List Pnt) (pcs:List (?g)) (A:Aff) (o:?g) (cs:List Pnt) (kl:List (?g)) (q:?p):Prop extends DrawnG 6 4 pts pcs A o cs kl q where
 bd:∀ p∈pts,p.1.natAbs≤6∧p.2.natAbs≤6
 small:Small A
theorem Drawn.of {pts:List Pnt} {pcs:List (?g)} {A:Aff} {o:?g} {cs:List Pnt} {kl:List (?g)} {q:?p} (b:Base pts pcs) (d:A.det≠0) (S:Small A) (ord:CoOrd pts.length o) (len:cs.length=pts.length)
 (at_:∀ j:Nat,j<pts.length→cs[(o.getD j 0).toNat]? = some (A.at (pts.getD j (0,0)))) (klen:kl.length=pcs.length) (key:∀ i:Nat,i<pcs.length→(kl.getD i []).Perm ((pcs.getD i []).map (oAt o))∧(kl.getD i []).Pairwise (·≤·))
 (perm:q.Perm (List.range pcs.length)):Drawn pts pcs A o cs kl q:=⟨⟨b.toBaseG,d,fun p hp=>Ztp S (b.bd p hp),ord,len,at_,klen,key,perm⟩,b.bd,S⟩
section
variable {N M:Nat} {pts:List Pnt} {pcs:List (?g)} {A:Aff} {o:?g} {cs:List Pnt} {kl:List (?g)} {q:?p}
theorem DrawnG.corner (D:DrawnG N M pts pcs A o cs kl q) {i:Int} (h:0≤i∧i<pts.length):cAt cs (oAt o i)=A.at (cAt pts i):=by
 obtain ⟨n,rfl⟩:∃ n:Nat,i=n:=⟨i.toNat,?d⟩
 have:=D.at_ n (?d)
 unfold cAt oAt;rw [show ((n:Int)).toNat=n from rfl,n4_ (i:=(o.getD n 0).toNat),this];rfl
theorem DrawnG.piece (D:DrawnG N M pts pcs A o cs kl q) (hn:n<pcs.length):∃ i j k x y z,pcs.getD n []=[i,j,k]∧kl.getD n []=[x,y,z]∧[x,y,z].Perm [oAt o i,oAt o j,oAt o k]∧(x<y∧y<z)∧(0≤i∧i<(pts.length:Int))∧(0≤j∧j<(pts.length:Int))∧(0≤k∧k<(pts.length:Int))∧tn (cAt pts i) (cAt pts j) (cAt pts k)≠0 ∧
 ∀ x:Nat,x<pts.length→(x:Int)∉[i,j,k]→¬ inS (cAt pts i) (cAt pts j) (cAt pts k) (cAt pts x):=by
 have hm:pcs.getD n []∈pcs:=by rw [n4_,n0_ hn];exact n24_ hn
 obtain ⟨i,j,k,e,hi,hj,hk,⟨n1,n2,n3⟩,hd,hs⟩:=Zrp (D.base.pc _ hm);obtain ⟨pm,so⟩:=D.key n hn;rw [e] at pm hs;have l3:(kl.getD n []).length=3:=by rw [pm.length_eq];rfl
 generalize hr:kl.getD n []=r at *
 match r,l3 with
 | [x,y,z],_ =>
   have io:∀ {a b:Int},(0≤a∧a<(pts.length:Int))→(0≤b∧b<(pts.length:Int))→a≠b→oAt o a≠oAt o b:=fun {a b} ha hb ne z=>ne (by
    have:=D.ord.inj a.toNat b.toNat (?d) (?d) z
    omega)
   have nd:[x,y,z].Nodup:=pm.symm.nodup (by simp [io hi hj n1,io hi hk n2,io hj hk n3]);simp only [List.nodup_cons,n12_,n16_,or_false,not_or,List.pairwise_cons] at nd so;have s1:=so.1 y ?f;have s2:=so.2.1 z ?f;exact ⟨i,j,k,x,y,z,e,rfl,pm,⟨?d,?d⟩,hi,hj,hk,hd,hs⟩
theorem DrawnG.knd (D:DrawnG N M pts pcs A o cs kl q):kl.Nodup:=by
 rw [List.nodup_iff_pairwise_ne,n84_];intro i j hi hj lt e;rw [D.klen] at hi hj;obtain ⟨_,x,hx,nx⟩:=D.base.sep i j hi hj (?d);have g:∀ n,(h:n<pcs.length)→kl.getD n []=kl[n]'(by rw [D.klen];exact h):=fun n h=>by rw [n4_,n0_ (by rw [D.klen];exact h)];rfl
 have m1:oAt o x∈kl.getD i []:=(D.key i hi).1.mem_iff.mpr (n21_.mpr ⟨x,hx,rfl⟩);rw [g i hi,e,← g j hj] at m1;obtain ⟨y,hy,ey⟩:=n21_.mp ((D.key j hj).1.mem_iff.mp m1)
 have bdm:∀ n,n<pcs.length→∀ x∈pcs.getD n [],0≤x∧x<(pts.length:Int):=fun n hn x hx=>by
  obtain ⟨i,j,k,_,_,_,e,_,_,_,hi,hj,hk,_⟩:=D.piece hn;rw [e] at hx;simp only [n12_,n16_,or_false] at hx
  rcases hx with rfl|rfl|rfl<;>assumption
 have b1:=bdm i hi x hx;have b2:=bdm j hj y hy
 have:=D.ord.inj y.toNat x.toNat (?d) (?d) ey
 have:x=y:=?d
 exact nx (this ▸ hy)
theorem DrawnG.ok (D:DrawnG N M pts pcs A o cs kl q) {ts:?g} {l m:Int} (rise:(?ad).Pairwise fun a b=>HT.lexLt a b=true) (tl:ts.length=pcs.length) (t9:∀ t∈ts,1≤t∧t≤9) (l9:0≤l∧l≤9) (m9:1≤m∧m≤9) (hN:N≤30) (hM:M≤40) :
 PlOk ⟨cs,?ad,ts,l,m⟩:=by
 have n3:=D.base.n3;have n6:=D.base.n6;have p1:=D.base.p1;have p4:=D.base.p4;have hl:=D.len;have qlen:q.length=pcs.length:=by rw [D.perm.length_eq,n69_]
 have qlt:∀ i∈q,i<pcs.length:=fun i hi=>n32_.mp (D.perm.mem_iff.mp hi);have qnd:q.Nodup:=D.perm.symm.nodup List.nodup_range
 have whence:∀ k:Nat,k<cs.length→∃ j:Nat,j<pts.length∧o.getD j 0=k∧cs[k]? = some (A.at (pts.getD j (0,0))):=fun k hk=>by
  obtain ⟨j,hj,e⟩:=D.ord.sur k (?d)
  have:=D.at_ j hj
  rw [e] at this;exact ⟨j,hj,e,this⟩
 have ptm:∀ j:Nat,j<pts.length→pts.getD j (0,0)∈pts:=fun j hj=>by rw [n4_,n0_ hj];exact n24_ hj
 have pieceOk:∀ n,n<pcs.length→PieceOk cs (kl.getD n []):=fun n hn=>by
  obtain ⟨i,j,k,x,y,z,e,e2,pm,lt,hi,hj,hk,hd,hs⟩:=D.piece hn;rw [e2]
  have bo:∀ a∈[oAt o i,oAt o j,oAt o k],0≤a∧a≤(cs.length:Int)-1:=fun a ha=>by
   simp only [n12_,n16_,or_false] at ha;have b1:=D.ord.bd i.toNat (?d);have b2:=D.ord.bd j.toNat (?d);have b3:=D.ord.bd k.toNat (?d);unfold oAt at ha
   rcases ha with rfl|rfl|rfl<;>omega
  refine ⟨rfl,fun a ha=>bo a (pm.mem_iff.mp ha),lt,?_⟩;refine Zp1 pm (fun x y z=>tn (cAt cs x) (cAt cs y) (cAt cs z)≠0) (fun a b c h=>by rw [Zrc];exact h) (fun a b c h=>by rw [Zbs];omega) ?_;rw [D.corner hi,D.corner hj,D.corner hk,A.tn];exact Int.mul_ne_zero D.det hd
 have strange:∀ n,n<pcs.length→∀ j:Nat,j<cs.length→(j:Int)∉kl.getD n []→Zj6 (cs.getD j (0,0)) (trOf cs (kl.getD n []))=false:=fun n hn jj hjj nm=>by
  have ok:=pieceOk n hn;obtain ⟨i,j,k,x,y,z,e,e2,pm,lt,hi,hj,hk,hd,hs⟩:=D.piece hn;rw [e2] at nm ok ⊢;have hne:=ok.d;refine Bool.eq_false_iff.mpr fun h=>?_;have h2:inS (cAt cs x) (cAt cs y) (cAt cs z) (cs.getD jj (0,0)):=(Zlz hne).mp h;have h3:inS (cAt cs (oAt o i)) (cAt cs (oAt o j)) (cAt cs (oAt o k)) (cs.getD jj (0,0)):=Zp1 pm.symm (fun x y z=>inS (cAt cs x) (cAt cs y) (cAt cs z) (cs.getD jj (0,0))) (fun a b c h=>Zrs h) (fun a b c h=>Zu2 h) h2;obtain ⟨j0,hj0,ej,ec⟩:=whence jj hjj;rw [D.corner hi,D.corner hj,D.corner hk,n4_,ec] at h3;have h4:=(A.inS D.det).mp h3;refine hs j0 hj0 (fun z=>nm (pm.mem_iff.mpr ?_)) (by unfold cAt at h4 ⊢;exact h4)
  have:oAt o (j0:Int)=jj:=ej
  rw [← this];have m2:oAt o (j0:Int)∈[i,j,k].map (oAt o):=n21_.mpr ⟨_,z,rfl⟩;exact m2
 refine ⟨by show 3≤cs.length;omega,by show cs.length≤30;omega,fun p hp=>?_,?_,by simp;omega,by simp;omega,fun p hp=>?_,fun i hi=>?_,by simp [tl,qlen],t9,l9,m9,?_,fun p hp=>?_,fun i j hij hj=>?_⟩
 · obtain ⟨k,hk,e⟩:=n50_ (show p∈cs from hp);obtain ⟨j,hj,_,ec⟩:=whence k hk;rw [n0_ hk,e] at ec;cases ec
   exact D.nr _ (ptm j hj)
 · show cs.Nodup
   rw [List.nodup_iff_pairwise_ne,n84_];intro k1 k2 h1 h2 lt e;obtain ⟨j1,hj1,e1,c1⟩:=whence k1 h1;obtain ⟨j2,hj2,e2,c2⟩:=whence k2 h2;rw [n0_ h1,e] at c1;rw [n0_ h2] at c2;rw [c1] at c2
   have:=A.inj D.det (Option.some.inj c2)
   have gd:∀ j,(h:j<pts.length)→pts.getD j (0,0)=pts[j]:=fun j h=>by rw [n4_,n0_ h];rfl
   rw [gd j1 hj1,gd j2 hj2] at this;have e3:=(List.getElem_inj D.base.nd).mp this;subst e3;omega
 · obtain ⟨n,hn,rfl⟩:=n21_.mp (show p∈q.map _ from hp);exact pieceOk n (qlt n hn)
 · have hi':i+1<(?ad).length:=hi
   have:=n84_.mp rise i (i+1) (?d) hi' (?d)
   show HT.lexLt ((?ad).getD i []) ((?ad).getD (i+1) [])=true
   rw [n4_,n4_,n0_ (?d),n0_ hi'];exact this
 · show cntS (?ad).flatten=cs.length
   refine Zn2 _ (fun x hx=>?_) (fun k hk=>?_)
   · obtain ⟨r,hr,hxr⟩:=List.mem_flatten.mp hx;obtain ⟨n,hn,rfl⟩:=n21_.mp hr
     have:=(pieceOk n (qlt n hn)).bd x hxr
     omega
   · obtain ⟨j,hj,e⟩:=D.ord.sur k (?d);obtain ⟨p,hp,hjp⟩:=D.base.us j hj;obtain ⟨n,hn,rfl⟩:=n50_ hp;have g:pcs.getD n []=pcs[n]:=by rw [n4_,n0_ hn];rfl
     refine List.mem_flatten.mpr ⟨kl.getD n [],n21_.mpr ⟨n,D.perm.mem_iff.mpr (n32_.mpr hn),rfl⟩,(D.key n hn).1.mem_iff.mpr ?_⟩;rw [g,← e];exact n21_.mpr ⟨_,hjp,rfl⟩
 · obtain ⟨n,hn,rfl⟩:=n21_.mp (show p∈q.map _ from hp);exact strange n (qlt n hn)
 · have hj':j<(?ad).length:=hj;have hjq:j<q.length:=by simpa using hj'
   have hiq:i<q.length:=?d
   show apart (trOf cs ((?ad).getD j [])) (trOf cs ((?ad).getD i []))=true
   have gq:∀ i,(h:i<q.length)→(?ad).getD i []=kl.getD q[i] []:=fun i h=>by
    rw [n4_,n5_,n0_ h];rfl
   rw [gq j hjq,gq i hiq];have h1:=qlt q[j] (n24_ _);have h2:=qlt q[i] (n24_ _);have ne:q[j]≠q[i]:=fun z=>by have:=(List.getElem_inj qnd).mp z;omega
   generalize q[j]=n1 at *;generalize q[i]=n2 at *;have sb:=(D.base.sep n1 n2 h1 h2 ne).1;have ok1:=pieceOk n1 h1;have ok2:=pieceOk n2 h2;obtain ⟨i1,j1,k1,x1,y1,z1,e1,f1,pm1,lt1,hi1,hj1,hk1,hd1,hs1⟩:=D.piece h1;obtain ⟨i2,j2,k2,x2,y2,z2,e2,f2,pm2,lt2,hi2,hj2,hk2,hd2,hs2⟩:=D.piece h2;rw [f1] at ok1 ⊢;rw [f2] at ok2 ⊢;rw [e1,e2] at sb;unfold sepB at sb;simp only [Bool.or_eq_true,decide_eq_true_eq] at sb
   have tr:∀ {i1 j1 k1 x1 y1 z1 i2 j2 k2 x2 y2 z2:Int},[x1,y1,z1].Perm [oAt o i1,oAt o j1,oAt o k1]→[x2,y2,z2].Perm [oAt o i2,oAt o j2,oAt o k2]→(0≤i1∧i1<(pts.length:Int))→(0≤j1∧j1<(pts.length:Int))→(0≤k1∧k1<(pts.length:Int))→(0≤i2∧i2<(pts.length:Int))→(0≤j2∧j2<(pts.length:Int))→(0≤k2∧k2<(pts.length:Int)) →
    sepS (cAt pts i1) (cAt pts j1) (cAt pts k1) (cAt pts i2) (cAt pts j2) (cAt pts k2)→sepS (cAt cs x1) (cAt cs y1) (cAt cs z1) (cAt cs x2) (cAt cs y2) (cAt cs z2):=by
    intro i1 j1 k1 x1 y1 z1 i2 j2 k2 x2 y2 z2 pm1 pm2 a1 a2 a3 b1 b2 b3 h;refine Zp1 pm1 (fun x y z=>sepS (cAt cs x) (cAt cs y) (cAt cs z) (cAt cs x2) (cAt cs y2) (cAt cs z2)) (fun a b c h=>Zsj h) (fun a b c h=>Zt0 h) ?_;refine Zp1 pm2 (fun x y z=>sepS (cAt cs (oAt o i1)) (cAt cs (oAt o j1)) (cAt cs (oAt o k1)) (cAt cs x) (cAt cs y) (cAt cs z)) (fun a b c h=>Zpy h) (fun a b c h=>Ztt h) ?_;rw [D.corner a1,D.corner a2,D.corner a3,D.corner b1,D.corner b2,D.corner b3];exact (A.sep D.det).mpr h
   unfold apart;rw [Bool.or_eq_true]
   rcases sb with sb|sb
   · exact .inl (Zc3 ok1.d (tr pm1 pm2 hi1 hj1 hk1 hi2 hj2 hk2 sb))
   · exact .inr (Zc3 ok2.d (tr pm2 pm1 hi2 hj2 hk2 hi1 hj1 hk1 sb))
theorem Drawn.ok (D:Drawn pts pcs A o cs kl q) {ts:?g} {l m:Int} (rise:(?ad).Pairwise fun a b=>HT.lexLt a b=true) (tl:ts.length=pcs.length) (t9:∀ t∈ts,1≤t∧t≤9) (l9:0≤l∧l≤9) (m9:1≤m∧m≤9) :
 PlOk ⟨cs,?ad,ts,l,m⟩:=D.toDrawnG.ok rise tl t9 l9 m9 ?e ?e
end
def Zdz:List (List Pnt×List (?g)) :=
 [([(0,0),(2,0),(0,3)],[[0,1,2]]),
  ([(0,0),(3,0),(3,2),(0,2)],[[0,1,2],[0,2,3]]),
  ([(0,0),(2,1),(2,-1),(-2,1),(-3,-1)],[[0,1,2],[0,3,4]]),
  ([(0,0),(2,0),(0,2),(4,0),(6,1),(4,3)],[[0,1,2],[3,4,5]]),
  ([(0,0),(6,0),(0,6),(2,1)],[[0,1,3],[0,2,3],[1,2,3]]),
  ([(0,0),(0,2),(2,0),(3,2),(5,0)],[[0,1,2],[1,2,3],[2,3,4]]),
  ([(0,0),(1,2),(2,0),(3,2),(4,0),(5,3)],[[0,1,2],[2,3,4],[3,4,5]]),
  ([(0,0),(2,0),(0,3),(-2,0),(0,-1)],[[0,1,2],[0,2,3],[0,3,4],[0,1,4]])]
theorem Zol:Zdz.all (fun s=>Zs4 6 4 s.1 s.2&&s.1.all fun p=>decide (p.1.natAbs≤6∧p.2.natAbs≤6))=true:=?i
theorem Zln {s:List Pnt×List (?g)} (h:s∈Zdz):Base s.1 s.2:=by
 have:=n52_.mp Zol s h
 rw [n37_] at this;exact ⟨Zeh this.1,fun p hp=>n49_ (n52_.mp this.2 p hp)⟩
theorem PE.weak {t t':TE} (h:PE X e t) (w:∀ σ H Q,t' σ H Q→t σ H Q):PE X e t':=fun pins s σ H Q I q=>h pins s σ H Q I (w σ H Q q)
theorem PA.weak {es:List Expr} {t t':TA} (h:PA X es t) (w:∀ σ H Q,t' σ H Q→t σ H Q):PA X es t':=fun pos pins s σ H Q I q=>h pos pins s σ H Q I (w σ H Q q)
theorem nS {x:α} {P:Prop} (h:(none:Option α)=some x):P:=by cases h
def tupE:Expr→Option (List Expr)
 | .Tuple es _ _=>some es
 | _=>none
theorem Zim {es:List Expr} (h:tupE e=some es):∃ c p,e=.Tuple es c p:=by
 cases e with
 | Tuple es' c p=>cases h;exact ⟨_,_,rfl⟩
 | _=>exact nS h
noncomputable def cI:Const→Option Int
 | .int i=>some i
 | _=>none
def cE:Expr→Option Const
 | .Constant c _ _=>some c
 | _=>none
theorem Zua {i:Int} (h:(cE e).bind cI=some i):∃ k p,e=.Constant (.int i) k p:=by
 cases e with
 | Constant c k p =>
   cases c with
   | int j=>cases h;exact ⟨_,_,rfl⟩
   | _=>exact nS h
 | _=>exact nS h
noncomputable def negE:Expr→Option Expr
 | .UnaryOp o e _=>if o=.USub then some e else none
 | _=>none
theorem Zsi {e':Expr} (h:negE e=some e'):∃ p,e=.UnaryOp .USub e' p:=by
 cases e with
 | UnaryOp o e p =>
   by_cases c:o=.USub
   · subst c;cases h;exact ?K
   · rw [negE,if_neg c] at h;cases h
 | _=>exact nS h
def Ztf (e:Expr):Option Int:=((cE e).bind cI).orElse fun _=>((negE e).bind fun x=>(cE x).bind cI).map fun i=>-i
theorem Ztr {i:Int} (h:Ztf e=some i):PE X e (fun _ H Q=>Q (.int i) H)∧∀ es env,starEach (e :: es) env=(false,eval e env) :: starEach es env:=by
 unfold Ztf at h;cases h1:(cE e).bind cI with
 | some j =>
   rw [h1] at h;cases h
   obtain ⟨k,p,rfl⟩:=Zua h1;exact ⟨Zd,?l⟩
 | none =>
   rw [h1] at h;obtain ⟨j,h2,rfl⟩:=n10_.mp (show _=some i from h);obtain ⟨x,h3,h4⟩:=n80_.mp h2;obtain ⟨p,rfl⟩:=Zsi h3;obtain ⟨k,q,rfl⟩:=Zua h4;exact ⟨PE.weak (Zt5 Zq3 Zd) fun σ H Q q=>⟨_,rfl,q⟩,?l⟩
noncomputable def Zja {α:Type} (f:Expr→Option α):List Expr→Option (List α)
 | []=>some []
 | e :: es=>(f e).bind fun i=>(Zja f es).map (i :: ·)
theorem Zae {f:Expr→Option α} {es:List Expr} {is:List α} (h:Zja f (e :: es)=some is):∃ i js,is=i :: js∧f e=some i∧Zja f es=some js:=by
 obtain ⟨i,h1,h2⟩:=n80_.mp (show ((f e).bind fun i=>(Zja f es).map (i :: ·))=some is from h);obtain ⟨js,h3,rfl⟩:=n10_.mp h2;exact ⟨i,js,rfl,h1,h3⟩
noncomputable def few {α:Type} (l:List α):Option (List α):=if l.length≤1000 then some l else none
theorem Zrm {l m:List α} (h:few l=some m):l=m∧m.length≤1000:=by
 by_cases c:l.length≤1000
 · rw [few,if_pos c] at h;cases h;exact ⟨rfl,c⟩
 · rw [few,if_neg c] at h;cases h
abbrev Zqs:List Expr→Option (?g):=Zja Ztf
theorem Zp3 (es:List Expr) (is:?g) (h:Zqs es=some is):PA X es (fun _ H Q=>Q (is.map V.int) H):=by
 induction es generalizing is with
 | nil=>cases h;exact PA.weak Zb fun σ H Q q=>q
 | cons e es ih =>
   obtain ⟨i,js,rfl,h1,h2⟩:=Zae h;obtain ⟨p1,p2⟩:=Ztr (X:=X) h1;exact PA.weak (Za p1 (ih js h2) (p2 _ _)) fun σ H Q q=>q
def Zty (e:Expr):Option (?g):=(tupE e).bind fun es=>(Zqs es).bind few
theorem Zs7 {is:?g} (h:Zty e=some is):PE X e (fun _ H Q=>∀ H' v,?H→IsI H' v is→Q v H')∧∀ es env,starEach (e :: es) env=(false,eval e env) :: starEach es env:=by
 obtain ⟨es,h1,h2⟩:=n80_.mp h;obtain ⟨c,p,rfl⟩:=Zim h1;obtain ⟨l,h3,h4⟩:=n80_.mp h2;obtain ⟨rfl,hz⟩:=Zrm h4;exact ⟨PE.weak (Zr (Zp3 _ _ h3)) fun σ H Q q=>⟨by rw [n3_,sizeLine_eq];omega,fun p np=>q _ _ (Same.new np) ⟨p,rfl,Zc⟩⟩,?l⟩
abbrev Zro:List Expr→Option (List (?g)):=Zja Zty
theorem Zqf (es:List Expr) (is:List (?g)) (h:Zro es=some is):PA X es (fun _ H Q=>∀ H' vs,?H→Al (IsI H') vs is→Q vs H'):=by
 induction es generalizing is with
 | nil=>cases h;exact PA.weak Zb fun σ H Q q=>q _ _ (Same.refl _) .nil
 | cons e es ih =>
   obtain ⟨i,js,rfl,h1,h2⟩:=Zae h;obtain ⟨p1,p2⟩:=Zs7 (X:=X) h1;exact PA.weak (Za p1 (ih js h2) (p2 _ _)) fun σ H Q q H1 v s1 i1 H2 vs s2 i2=>q _ _ (s1.trans s2) (.cons (i1.tk s2.tk) i2)
def Zvf (e:Expr):Option (List (?g)):=(tupE e).bind fun es=>(Zro es).bind few
theorem Zoc {is:List (?g)} (h:Zvf e=some is):PE X e (fun _ H Q=>∀ H' v,?H→IsPs H' v is→Q v H')∧∀ es env,starEach (e :: es) env=(false,eval e env) :: starEach es env:=by
 obtain ⟨es,h1,h2⟩:=n80_.mp h;obtain ⟨c,p,rfl⟩:=Zim h1;obtain ⟨l,h3,h4⟩:=n80_.mp h2;obtain ⟨rfl,hz⟩:=Zrm h4;refine ⟨PE.weak (Zr (Zqf _ _ h3)) fun σ H Q q H1 vs s1 a1=>⟨by rw [a1.1,sizeLine_eq];omega,fun p np=>?_⟩,?l⟩;have s2:Same H1 (upd H1 p (.tup vs)):=Same.new np;exact q _ _ (s1.trans s2) ⟨p,vs,rfl,Zc,a1.imp fun v x r=>r.tk s2.tk⟩
inductive BxIsSh (H:Hp) (v:V) (s:List Pnt×List (?g)):Prop
 | mk (a:_) (c:_) (p:_) (q1:v=.ref a) (q2:H a=some (.tup [c,p])) (q3:IsCs H c s.1) (q4:IsPs H p s.2):BxIsSh H v s
def IsSh (H:Hp) (v:V) (s:List Pnt×List (?g)):Prop:=BxIsSh H v s
theorem IsSh.tk {s:List Pnt×List (?g)} (t:Tk H H') (h:IsSh H v s):IsSh H' v s:=let ⟨a,c,p,e,h1,h2,h3⟩:=h;⟨a,c,p,e,t _ _ h1,h2.tk t,h3.tk t⟩
def shOf (e:Expr):Option (List (List (?g))):=(tupE e).bind (Zja Zvf)
theorem Zqp {cs:List Pnt} (h:IsPs H v (cs.map fun p=>[p.1,p.2])):IsCs H v cs:=by
 obtain ⟨a,vs,e,q,al⟩:=h;refine ⟨a,vs,e,q,by rw [al.1,n3_],fun i w p e1 e2=>?_⟩;exact al.2 i w _ e1 (by rw [n5_,e2];rfl)
theorem X7 {X:Cx} {e:Expr} {s:List Pnt×List (?g)} (h:shOf e=some [s.1.map (fun p=>[p.1,p.2]),s.2]):PE X e (fun _ H Q=>∀ H' v,?H→IsSh H' v s→Q v H'):=by
 obtain ⟨es,h1,h2⟩:=n80_.mp h;obtain ⟨c,p,rfl⟩:=Zim h1;cases es with
 | nil=>cases h2
 | cons a es =>
   obtain ⟨_,_,e1,h3,h4⟩:=Zae h2;cases e1
   cases es with
   | nil=>cases h4
   | cons b es =>
     obtain ⟨_,_,e1,h5,h6⟩:=Zae h4;cases e1
     cases es with
     | cons c es=>obtain ⟨_,_,e1,_⟩:=Zae h6;cases e1
     | nil =>
       obtain ⟨p1,s1⟩:=Zoc (X:=X) h3;obtain ⟨p2,s2⟩:=Zoc (X:=X) h5;refine PE.weak (Zr (Za p1 (Za p2 Zb (s2 _ _)) (s1 _ _))) fun σ H Q q H1 v s1 i1 H2 w s2 i2=>⟨z2_,fun p np=>?_⟩;have s3:Same H2 (upd H2 p (.tup [v,w])):=Same.new np;exact q _ _ (s1.trans (s2.trans s3)) ⟨p,v,w,rfl,Zc,Zqp (i1.tk (s2.trans s3).tk),i2.tk s3.tk⟩
theorem Zuc {c:TT} {ta tb rest:TS} {D:Ends} (R:St→?w) (h:c σ H fun k H1=>if k=true then ta { D with nx:=R } σ H1 else tb { D with nx:=R } σ H1)
 (mc:∀ Q Q':Bool→?w,(∀ b H1,Q b H1→Q' b H1)→c σ H Q→c σ H Q') (ma:(∀ σ H,R σ H→rest D σ H)→∀ H1,ta { D with nx:=R } σ H1→ta { D with nx:=rest D } σ H1) (mb:(∀ σ H,R σ H→rest D σ H)→∀ H1,tb { D with nx:=R } σ H1→tb { D with nx:=rest D } σ H1)
 (key:∀ σ H,R σ H→rest D σ H):tSeq (tIfS c ta tb) rest D σ H:=mc _ _ (fun b H1 q=>by
 cases b with
 | true=>exact ma key H1 q
 | false=>exact mb key H1 q) h
theorem lc_R {Q:VK} (R:Hp→V→α→Prop) (hR:∀ H1 H2 v x,Tk H1 H2→R H1 v x→R H2 v x) (ys:List α) (hn:ys.length=n) (hz:n≤1000) (hD:H D=none)
 (hs:∀ (i:Nat) (H2:Hp) (C:V→?w),i<n→Same H H2→(∀ y H5 z,Same H2 H5→ys[i]? = some z→R H5 y z→C y H5)→te (some (.int (0+i)) :: rest) H2 C)
 (hd:∀ H2 us,Same H H2→H2 D=some (.lst us)→Al (R H2) us ys→Q (.ref D) H2):LcGo (Itr 0 n) (Xb 0) tYes te (u0 :: rest) H D Q:=by
 refine Zee R hR ys hn hz (fun σ=>∃ u,σ=u :: rest) ?K hD (fun i H2 s hi=>hi) (fun H2 s=>n7_ _) (fun i x σ2 H2 H3 C hi s y o c=>?_) hd;obtain ⟨u,rfl⟩:=o;obtain ⟨rfl,rfl⟩:=y;exact hs i H3 (C _) hi s fun y H5 z s5 ez rz=>c _ y H5 z ?K s5 ez rz
open AutoSeq1 (wpAny_loadPart')
theorem Za2:fillsNumberSlot (?M) "mul" = pure false :=
 PySem.fillsNumberSlot_seq (id := "tuple.__mul__") (r:=some (.builtin "tuple.__rmul__")) F.slot_tuple_mul.lookup (?i) F.slot_tuple_rmul.lookup (?i)
theorem Zc1:seqRepeat? (?M)=pure (some (.builtin "tuple.__mul__")):=by
 unfold seqRepeat?;rw [PySem.seqSlot_of (T := "tuple") (name := "__mul__") (id := "tuple.__mul__") F.slot_tuple_mul.lookup (?i),PySem.seqSlot_of (T := "tuple") (name := "__rmul__") (id := "tuple.__rmul__") F.slot_tuple_rmul.lookup (?i)];rfl
theorem Zbo (a:Int) (t:Tok) (l:Addr) (items:?L) (n:Nat) (dd:Option Addr) (sl:Array (?C)) :
 Meets (Builtin.«int.__rmul__» ⟨[.int a t,.ref l],[]⟩) (fun _ R s=>s.heap.get? l=some { cls:=?M,dict:=dd,data:=.seq items n,slots:=sl }∧R (.ok (.ret Value.notImplemented)) s) :=
 .of_wp fun prog w A R s h=>by obtain ⟨hp,g,d,tk,os⟩:=s;obtain ⟨hl,h⟩:=h;wp_walk;exact ⟨_,rfl,h⟩
theorem Zlk (l:Addr) (items:?L) (n:Nat) (dd:Option Addr) (sl:Array (?C)) (x:Int) (u:Tok) (h2:2≤x) (h3:x≤1000) (he:items.isEmpty=false) (hz:items.size≤1000) :
 Meets (Builtin.«tuple.__mul__» ⟨[.ref l,.int x u],[]⟩) (fun _ R s=>s.heap.get? l=some { cls:=?M,dict:=dd,data:=.seq items n,slots:=sl }∧R (.ok (.ret (Value.ref s.z))) { s with heap:=s.heap.push { cls:=Value.type "tuple",data:=Data.seq ((List.replicate x.toNat items).foldl (·++·) #[]) },toks:=s.toks }) :=
 .of_wp fun prog w A R s h=>by
  obtain ⟨hp,g,d,tk,os⟩:=s;obtain ⟨hl,h⟩:=h;have f1:=AutoSeq1.idx_int;have f2:=AutoSeq1.sub_tuple_tuple;have f3:=AutoSeq1.sub_list_list;have f4:=AutoSeq1.sub_tuple_list;have f5:=AutoSeq1.sub_list_tuple
  have hm:((items.size:Nat):Int)*x≤1000*1000:=by
   have h4:((items.size:Nat):Int)≤1000:=?d
   exact Int.mul_le_mul h4 h3 (?d) (?d)
  have hc0:(decide (x < -2^63)||decide (x ≥ 2^63))=false:=by
   rw [n35_ (?d),n35_ (?d)];decide
  have hc1:(items.isEmpty||x == 1)=false:=by
   rw [he,beq_false_of_ne (?d)];decide
  have hc2:(decide (x≤0)||items.isEmpty)=false:=by
   rw [he,n35_ (?d)];decide
  have hc3:¬ ((items.size:Nat):Int)*x>(2^63-1)/8:=by
   have:(1000*1000:Int)≤(2^63-1)/8:=?k
   omega
  have sl1:(1000*1000:Nat)≤sizeLine:=?k
  have hc4:Builtin.Tuple.tupleTooMany (((items.size:Nat):Int)*x)=false:=by
   unfold Builtin.Tuple.tupleTooMany;rw [n35_ (?d)]
  have hsz:(List.foldl (fun x1 x2=>x1++x2) #[] (List.replicate x.toNat items)).size≤sizeLine:=by
   obtain ⟨its⟩:=items;have f0:=Zb6 its x.toNat [];rw [n61_] at f0;have f1:List.foldl (fun x1 x2=>x1++x2) #[] (List.replicate x.toNat its.toArray)=(List.replicate x.toNat its).flatten.toArray:=f0;rw [f1,n11_,Zij];have h5:x.toNat≤1000:=?d
   have h6:its.length≤1000:=by simpa using hz
   exact n31_ (n54_ h5 h6) sl1
  wp_walk using wpAny_loadPart' hl
  refine wpAny_ite_false (by rw [hc0];rfl) ?_
  wp_walk using wpAny_loadPart' hl
  refine wpAny_ite_false (by rw [hc1];rfl) ?_
  wp_walk using wpAny_loadPart' hl
  refine wpAny_ite_false (by rw [hc2];rfl) ?_
  wp_walk using wpAny_loadPart' hl
  refine wpAny_ite_false (n35_ hc3) ?_
  wp_walk using wpAny_loadPart' hl
  first|exact ⟨_,rfl,h⟩|(refine wpAny_ite_false (n35_ (Nat.not_lt.mpr hsz)) ?_;wp_walk;exact ⟨_,rfl,h⟩)
section
variable {X:Cx}
inductive BxRRepT (x y:V) (H:Hp) (Q:VK):Prop
 | mk (l:_) (k:_) (xs:_) (q1:x=.ref l) (q2:y=.int k) (q3:H l=some (.tup xs)) (q4:2≤k) (q5:k≤1000) (q6:xs≠[]) (q7:xs.length≤1000) (q8:∀ p H',?H→H' p=some (.tup (List.replicate k.toNat xs).flatten)→Q (.ref p) H'):BxRRepT x y H Q
def Zw2:R2:=fun x y H Q=>BxRRepT x y H Q
theorem Ztb:OpR X (binaryOp .Mult) Zw2:=by
 intro pins s σ H x y v u Q I rx ry h;obtain ⟨l,k,xs,rfl,rfl,hH,h2,h3,hne,hz,q⟩:=h;cases rx
 obtain ⟨t,rfl⟩:=ry;obtain ⟨its,r,p,hzz⟩:=I.tuple (SqT.of hH);obtain ⟨⟨cls,dd,data,sl⟩,ho,hc,n,hd⟩:=id p;simp only at hc hd;subst hc hd;have hl:=r.length
 have he:its.toArray.isEmpty=false:=by
  cases its with
  | nil=>exact absurd (List.length_eq_zero_iff.mp hl) hne
  | cons a b=>rfl
 refine wpAny_binaryOp_repeat_ref (T := "tuple") (U := "int") ?e ⟨_,ho,rfl⟩ (fun s'=>typeIs_int s' k t) Za2 F.fills_int_mul F.slot_int_rmul Zc1 F.slot_int_index.lookup
  (call_meets F.slot_int_rmul (typeIs_int s k t) F.entry_int_rmul (F.args_int_rmul_2 _ _) (Zbo k t l its.toArray n dd sl)
    ⟨ho,rfl,⟨_,ho,rfl⟩,call_meets F.slot_tuple_mul ⟨_,ho,rfl⟩ F.entry_tuple_mul (F.args_tuple_mul_2 _ _) (Zlk l its.toArray n dd sl k t h2 h3 he (by rw [n11_,← hl];exact hz)) ⟨ho,?_⟩⟩)
 have f0:=Zb6 its k.toNat [];rw [n61_] at f0;have f1:List.foldl (fun x1 x2=>x1++x2) #[] (List.replicate k.toNat its.toArray)=(List.replicate k.toNat its).flatten.toArray:=f0;rw [f1]
 have hz2:(List.replicate k.toNat xs).flatten.length≤sizeLine:=by
  rw [Zij];have sl1:(1000*1000:Nat)≤sizeLine:=?k
  exact n31_ (n54_ (show k.toNat≤1000 by omega) hz) sl1
 exact ⟨.ref _,_,I.laid (t':=s.toks) (o:=.tup (List.replicate k.toNat xs).flatten) (fun b ob q=>n2_ _ q) (n7_ _) ⟨hz2,_,r.rep k.toNat,IsTupN.new _ _⟩,rfl,q _ _ (Same.new I.fresh) Zc⟩
def EqT {α:Type} [DecidableEq α] (X:Cx) (d:Nat) (R:Hp→V→α→Prop):Prop:=∀ (A:Around) (pins:?B) (σ:St) (H:Hp) (s:Shared) (v u:V) (a b:Value) (x y:α),A.units+d<cLine→?s→R H v x→R H u y→RelV v a→RelV u b→SeqAt.EqAt A s a b (decide (x=y))
theorem Zr6:EqT X 0 (fun _ v (i:Int)=>v=.int i):=by
 intro A pins σ H s v u a b x y hu I h1 h2 r1 r2;subst h1 h2;obtain ⟨t,rfl⟩:=r1;obtain ⟨t',rfl⟩:=r2
 have:=SeqAt.EqAt.int_int (A:=A) (s:=s) x t y t'
 rw [show decide (x=y)=(x == y) by rw [Bool.eq_iff_iff];simp];exact this
theorem Znv [DecidableEq α] [Inhabited α] (xs ys:List α):((List.range (min xs.length ys.length)).all (fun j=>decide (xs.getD j default=ys.getD j default))&&xs.length == ys.length)=decide (xs=ys):=by
 by_cases h:xs=ys
 · subst h
   simp
 · rw [n35_ h,Bool.and_eq_false_iff]
   by_cases hl:xs.length=ys.length
   · left
     rw [Bool.eq_false_iff];intro z;rw [n52_] at z;apply h
     apply n91_ hl
     intro i h1 h2
     have:=z i (by simp;omega)
     simpa [h1,h2] using this
   · right
     simpa using hl
theorem Zkm [DecidableEq α] [Inhabited α] {d:Nat} {R:Hp→V→α→Prop} (E:EqT X d R) (hu:A.units+d<cLine) (I:?s) {us:List V} {xs ys:List α} (h1:Al (R H) vs xs) (h2:Al (R H) us ys) {as bs:?t} (r1:Vals vs as) (r2:Vals us bs) (j:Nat) (z1:j<as.toArray.size) (z2:j<bs.toArray.size):SeqAt.EqAt A s as.toArray[j] bs.toArray[j] (decide (xs.getD j default=ys.getD j default)):=by
 simp only [n11_] at z1 z2;simp only [List.getElem_toArray];have l1:=r1.length;have l2:=r2.length;have g1:vs[j]? = some vs[j]:=n0_ (?d);have g2:us[j]? = some us[j]:=n0_ (?d);obtain ⟨a,e1,ra⟩:=r1.get g1;obtain ⟨b,e2,rb⟩:=r2.get g2;obtain ⟨x,ex,rx⟩:=h1.get g1;obtain ⟨y,ey,ry⟩:=h2.get g2;rw [n0_ z1] at e1;rw [n0_ z2] at e2;cases e1
 cases e2
 rw [n4_,n4_,ex,ey];exact E A pins σ H s _ _ _ _ x y hu I rx ry ra rb
theorem Zr7 [DecidableEq α] [Inhabited α] {d:Nat} {R:Hp→V→α→Prop} (E:EqT X d R) (inj:∀ H v x y,R H v x→R H v y→x=y):EqT X (d+1) (IsTup' R):=by
 intro A pins σ H s v u a b xs ys hu I h1 h2 r1 r2;obtain ⟨p,vs,rfl,e1,a1⟩:=h1;obtain ⟨q,us,rfl,e2,a2⟩:=h2;cases r1
 cases r2
 by_cases hpq:p=q
 · subst hpq;rw [e1] at e2;cases e2
   have:xs=ys:=by
    apply n91_ (by rw [← a1.1,← a2.1])
    intro i z1 z2;obtain ⟨v,ev,rv⟩:=a1.got (n0_ z1);exact inj H v _ _ rv (a2.2 i v _ ev (n0_ z2))
   rw [n44_ this];exact SeqAt.EqAt.same _
 · obtain ⟨as,q1,p1,_⟩:=I.tuple (SqT.of e1);obtain ⟨bs,q2,p2,_⟩:=I.tuple (SqT.of e2);have l1:=q1.length;have l2:=q2.length;have h:=SeqAt.RcAt.tuples (A:=A) (e:=fun j=>decide (xs.getD j default=ys.getD j default)) p1 p2 (?d) fun j z1 z2=>Zkm E (A:=A.in1) (by rw [Around.in1_units];omega) I a1 a2 q1 q2 j z1 z2;rw [n11_,n11_,← l1,← l2,a1.1,a2.1,Znv] at h;exact SeqAt.EqAt.of_refs hpq h
inductive BxREqG {α:Type} [DecidableEq α] (R:Hp→V→α→Prop) (neg:Bool) (x y:V) (H:Hp) (Q:VK):Prop
 | mk (xs ys:List α) (q1:IsTup' R H x xs) (q2:IsTup' R H y ys) (q3:Q (.bl (if neg then !decide (xs=ys) else decide (xs=ys))) H):BxREqG R neg x y H Q
def rEqG {α:Type} [DecidableEq α] (R:Hp→V→α→Prop) (neg:Bool):R2:=fun x y H Q=>BxREqG R neg x y H Q
theorem Zve [DecidableEq α] [Inhabited α] {d:Nat} {R:Hp→V→α→Prop} (E:EqT X d R) (hu:X.A.units+d+1<cLine):OpR X (compareOp .Eq) (rEqG R false):=by
 intro pins s σ H x y v u Q I rx ry h;obtain ⟨xs,ys,⟨p,vs,rfl,e1,a1⟩,⟨q,us,rfl,e2,a2⟩,k⟩:=h;cases rx
 cases ry
 obtain ⟨as,q1,p1,_⟩:=I.tuple (SqT.of e1);obtain ⟨bs,q2,p2,_⟩:=I.tuple (SqT.of e2);have l1:=q1.length;have l2:=q2.length;refine SeqAt.eq_tupleAt (e:=fun j=>decide (xs.getD j default=ys.getD j default)) p1 p2 (?d) (fun j z1 z2=>Zkm E (A:=X.A.in1) (by rw [Around.in1_units];omega) I a1 a2 q1 q2 j z1 z2) ⟨.bl _,H,I,rfl,?_⟩;rw [n11_,n11_,← l1,← l2,a1.1,a2.1,Znv];exact k
end
theorem lc_F {k:SK} {K:PySem.W.Frag} {tt:TT} {Q:VK} (R:Hp→V→α→Prop) (hR:∀ H1 H2 v x,Tk H1 H2→R H1 v x→R H2 v x) (f:Nat→Option α) (hz:vs.length≤1000) (hD:H D=none) (ha:k.At H a vs)
 (hs:∀ (i:Nat) (w:V) (H2:Hp) (C:V→?w) (N:?w),vs[i]? = some w→Same H H2→(∀ y H5 z,Same H2 H5→f i=some z→R H5 y z→C y H5)→(∀ H5,Same H2 H5→f i=none→N H5)→tt (some w :: rest) H2 fun b H5=>if b=true then te (some w :: rest) H5 C else N H5)
 (hd:∀ H2 us,Same H H2→H2 D=some (.lst us)→Al (R H2) us ((List.range vs.length).filterMap f)→Q (.ref D) H2):LcGo (k.Itk K a) (Xb 0) tt te (u0 :: rest) H D Q:=by
 refine Zcz (n:=vs.length) (fun i σ H2=>Same H H2∧(∃ u,σ=u :: rest)∧∃ us,H2 D=some (.lst us)∧us.length≤i∧Al (R H2) us ((List.range i).filterMap f)) ⟨Same.new hD,?K,[],Zc,n7_ _,.nil⟩ (fun i σ H2 hi p=>Zod (ha.same p.1) hi) (fun σ H2 p=>Zga (ha.same p.1) (n7_ _)) (fun i x σ2 H2 H3 hi y p=>?_) (fun σ2 H2 p=>?_)
 · obtain ⟨s2,⟨u,rfl⟩,us,e2,l2,a2⟩:=p;obtain ⟨rfl,ex⟩:=Zio (ha.same s2) y
   have rg:(List.range (i+1)).filterMap f=(List.range i).filterMap f++(f i).toList:=by
    rw [List.range_succ,List.filterMap_append];cases h:f i<;>simp [h]
   show tt (some x :: rest) H3 _
   refine hs i x H3 _ _ ex s2 (fun y H5 z s5 ef r=>?_) (fun H5 s5 ef=>?_)
   · have sD:∀ us',Tk H5 (upd H5 D (.lst us')):=fun us'=>Tk.upd_lst (s5 _ _ e2);refine ⟨us,s5 _ _ e2,by rw [sizeLine_eq];omega,_,n9_ (Nat.sub_succ_lt_self _ _ hi) (n7_ _),hi,rfl,fun b o e=>?_,?K,_,Zc,by simp;omega,?_⟩
     · rw [Zl (Zj e hD)];exact s5 _ _ (s2 _ _ e)
     · rw [rg,ef];exact (a2.imp fun v x r=>hR _ _ v x (s5.tk.trans (sD _)) r).snoc (hR _ _ _ _ (sD _) r)
   · refine ⟨_,n9_ (Nat.sub_succ_lt_self _ _ hi) (n7_ _),hi,rfl,s2.trans s5,?K,us,s5 _ _ e2,?d,?_⟩;rw [rg,ef]
     simpa using a2.imp fun v x r=>hR _ _ v x s5.tk r
 · obtain ⟨s2,⟨u,rfl⟩,us,e2,l2,a2⟩:=p;exact hd H2 us s2 e2 a2
section
variable {κ:Type} [DecidableEq κ]
noncomputable def valV (kvs:List (κ×V)) (k:κ):Option V:=(kvs.find? fun kv=>decide (kv.1=k)).map (·.2)
def putK (kvs:List (κ×V)) (k:κ) (v:V):List (κ×V) :=
 if (kvs.any fun kv=>decide (kv.1=k))=true then kvs.map (fun kv=>if kv.1=k then (kv.1,v) else kv) else kvs++[(k,v)]
theorem Y8 {p:κ×V} {r:List (κ×V)} {k:κ} (e:p.1=k):valV (p :: r) k=some p.2:=by simp [valV,List.find?_cons,e]
theorem Y9 {p:κ×V} {r:List (κ×V)} {k:κ} (e:¬ p.1=k):valV (p :: r) k=valV r k:=by simp [valV,List.find?_cons,e]
theorem Zdj (k:κ):∀ kvs:List (κ×V),(kvs.any fun kv=>decide (kv.1=k))=(valV kvs k).isSome
 | []=>rfl
 | p :: r=>by
   rw [List.any_cons]
   by_cases e:p.1=k
   · simp only [Y8 e,n44_ e,Bool.true_or,Option.isSome_some]
   · rw [Y9 e,n35_ e,Bool.false_or];exact Zdj k r
theorem Zj9 (k j:κ) (y:V):∀ kvs:List (κ×V),valV (kvs.map fun kv=>if kv.1=k then (kv.1,y) else kv) j=(valV kvs j).map fun x=>if j=k then y else x
 | []=>rfl
 | p :: r=>by
   have ih:=Zj9 k j y r;rw [n19_]
   by_cases h:p.1=k
   · rw [if_pos h]
     by_cases e:p.1=j
     · rw [Y8 (p:=(p.1,y)) e,Y8 e,Option.map_some,if_pos (e.symm.trans h)]
     · rw [Y9 (p:=(p.1,y)) e,Y9 e,ih]
   · rw [if_neg h]
     by_cases e:p.1=j
     · rw [Y8 (p:=p) e,Y8 e,Option.map_some,if_neg (fun z=>h (e.trans z))]
     · rw [Y9 (p:=p) e,Y9 e,ih]
theorem Zh7 (k j:κ) (y:V):∀ kvs:List (κ×V),valV kvs k=none→valV (kvs++[(k,y)]) j=if j=k then some y else valV kvs j
 | [],_=>by
   by_cases e:k=j
   · rw [if_pos e.symm];exact Y8 (p:=(k,y)) e
   · rw [if_neg (fun z=>e z.symm)];exact Y9 (p:=(k,y)) e
 | p :: r,hn=>by
   rw [n67_];have hk:¬ p.1=k:=fun z=>by rw [Y8 z] at hn;cases hn
   rw [Y9 hk] at hn;have ih:=Zh7 k j y r hn
   by_cases e:p.1=j
   · rw [Y8 e,Y8 e,if_neg (fun z=>hk (e.trans z))]
   · rw [Y9 e,Y9 e,ih]
theorem Zb2 (kvs:List (κ×V)) (k j:κ) (y:V):valV (putK kvs k y) j=if j=k then some y else valV kvs j:=by
 unfold putK
 by_cases a:(kvs.any fun kv=>decide (kv.1=k))=true
 · rw [if_pos a,Zj9];rw [Zdj] at a
   by_cases e:j=k
   · obtain ⟨x,hx⟩:=Option.isSome_iff_exists.mp a;rw [if_pos e,e,hx,Option.map_some,if_pos rfl]
   · rw [if_neg e];cases valV kvs j with
     | none=>rfl
     | some x=>rw [Option.map_some,if_neg e]
 · rw [if_neg a];refine Zh7 k j y kvs ?_;rw [Zdj] at a;cases q:valV kvs k with
   | none=>rfl
   | some x=>rw [q] at a;exact (a rfl).elim
theorem Yh (kvs:List (κ×V)) (k:κ) (v:V):(putK kvs k v).length≤kvs.length+1:=by
 unfold putK;split
 · rw [n3_];omega
 · rw [n33_,n29_,List.length_nil];omega
theorem RelO.isSome_eq {o:Option V} {u:?C} (r:RelO o u):o.isSome=u.isSome:=by
 cases o with
 | none=>cases u with
   | none=>rfl
   | some _=>exact (show False from r).elim
 | some _=>cases u with
   | none=>exact (show False from r).elim
   | some _=>rfl
theorem RelO.getD {o:Option V} {u:?C} {d:V} {d':Value} (r:RelO o u) (rd:RelV d d'):RelV (o.getD d) (u.getD d'):=by
 cases o with
 | none=>cases u with
   | none=>exact rd
   | some _=>exact (show False from r).elim
 | some _=>cases u with
   | none=>exact (show False from r).elim
   | some _=>exact r
theorem KV.val {kvs:List (κ×V)} {vs:List (κ×Value)} (r:KV kvs vs) (k:κ):RelO (valV kvs k) (valueAt vs k):=by
 unfold KV at r
 induction r with
 | nil=>exact True.intro
 | @cons p q ps qs h t ih =>
   obtain ⟨h1,h2⟩:=h
   by_cases e:p.1=k
   · have e':q.1=k:=h1.symm.trans e;have b:valueAt (q :: qs) k=some q.2:=by simp [valueAt,List.find?_cons,e']
     rw [Y8 e,b];exact h2
   · have e':¬ q.1=k:=fun z=>e (h1.trans z);have b:valueAt (q :: qs) k=valueAt qs k:=by simp [valueAt,List.find?_cons,e']
     rw [Y9 e,b];exact ih
theorem KV.any {kvs:List (κ×V)} {vs:List (κ×Value)} (r:KV kvs vs) (k:κ):(kvs.any fun kv=>decide (kv.1=k))=vs.any fun kv=>decide (kv.1=k):=by
 unfold KV at r
 induction r with
 | nil=>rfl
 | cons h t ih=>rw [List.any_cons,List.any_cons,ih,h.1]
theorem KV.repl {kvs:List (κ×V)} {vs:List (κ×Value)} (r:KV kvs vs) (k:κ) (ry:RelV y u) :
 KV (kvs.map fun kv=>if kv.1=k then (kv.1,y) else kv) (vs.map fun kv=>if kv.1=k then (kv.1,u) else kv):=by
 unfold KV at r ⊢
 induction r with
 | nil=>exact .nil
 | @cons p q ps qs h t ih =>
   rw [n19_,n19_];refine .cons ?_ ih;obtain ⟨h1,h2⟩:=h
   by_cases e:p.1=k
   · rw [if_pos e,if_pos (h1.symm.trans e)];exact ⟨h1,ry⟩
   · rw [if_neg e,if_neg (fun z=>e (h1.trans z))];exact ⟨h1,h2⟩
theorem KV.put {kvs:List (κ×V)} {vs:List (κ×Value)} (r:KV kvs vs) (k:κ) (ry:RelV y u):KV (putK kvs k y) (stored vs k u):=by
 unfold putK stored;rw [r.any k]
 by_cases e:(vs.any fun kv=>decide (kv.1=k))=true
 · rw [if_pos e,if_pos e];exact r.repl k ry
 · rw [if_neg e,if_neg e];exact Paired.snoc r ⟨rfl,ry⟩
theorem KV.length {kvs:List (κ×V)} {vs:List (κ×Value)} (r:KV kvs vs):kvs.length=vs.length:=Paired.length r
end
theorem Zjl {k:Key} (r:RelV (kV k) u):(Z4 P w).is k u=true:=by
 cases k with
 | inl i=>obtain ⟨t,e⟩:=(show ∃ t,u=Value.int i t from r);subst e;exact Zi8 P w i t
 | inr x=>obtain ⟨t,e⟩:=(show ∃ t,u=Value.str x t from r);subst e;exact Zix P w x t
theorem Zgw:∀ {ks:List Key} {us:?t},Vals (ks.map kV) us→ItemsAre (Z4 P w) ks us
 | [],_,r=>by rw [n70_] at r;cases r;exact .nil
 | k :: ks,_,r=>by
   rw [n19_] at r;cases r with
   | cons h t=>exact .cons (Zjl h) (Zgw t)
abbrev KT (H:Hp):List (List Key×V)→List (List Key×Addr×Value)→Prop:=Paired fun p q=>p.1=q.1∧H q.2.1=some (.tup (p.1.map kV))∧RelV p.2 q.2.2
theorem KT.val {kvs:List (List Key×V)} {xs:List (List Key×Addr×Value)} (r:KT H kvs xs) (k:List Key):RelO (valV kvs k) ((atKey xs k).map (·.2)):=by
 induction r with
 | nil=>exact True.intro
 | @cons p q ps qs h t ih =>
   obtain ⟨h1,_,h2⟩:=h
   by_cases e:p.1=k
   · have e':q.1=k:=h1.symm.trans e;have b:atKey (q :: qs) k=some q.2:=by simp [atKey,List.find?_cons,e']
     rw [Y8 e,b];exact h2
   · have e':¬ q.1=k:=fun z=>e (h1.trans z);have b:atKey (q :: qs) k=atKey qs k:=by simp [atKey,List.find?_cons,e']
     rw [Y9 e,b];exact ih
theorem KT.repl {kvs:List (List Key×V)} {xs:List (List Key×Addr×Value)} (r:KT H kvs xs) (k:List Key) (ry:RelV y u) :
 KT H (kvs.map fun kv=>if kv.1=k then (kv.1,y) else kv) (xs.map (putAt k u)):=by
 induction r with
 | nil=>exact .nil
 | @cons p q ps qs h t ih =>
   rw [n19_,n19_];refine .cons ?_ ih;obtain ⟨h1,h2,h3⟩:=h;unfold putAt
   by_cases e:p.1=k
   · rw [if_pos e,if_pos (h1.symm.trans e)];exact ⟨h1,h2,ry⟩
   · rw [if_neg e,if_neg (fun z=>e (h1.trans z))];exact ⟨h1,h2,h3⟩
theorem KT.put {kvs:List (List Key×V)} {xs:List (List Key×Addr×Value)} (r:KT H kvs xs) (k:List Key) (hb:H b=some (.tup (k.map kV))) (ry:RelV y u) :
 KT H (putK kvs k y) (storedH xs k b u):=by
 have e:(kvs.any fun kv=>decide (kv.1=k))=(atKey xs k).isSome:=by
  rw [Zdj,(r.val k).isSome_eq,Option.isSome_map]
 unfold putK storedH;rw [e]
 by_cases q:(atKey xs k).isSome=true
 · rw [if_pos q,if_pos q];exact r.repl k ry
 · rw [if_neg q,if_neg q];exact Paired.snoc r ⟨rfl,hb,ry⟩
theorem KT.keeps {kvs:List (List Key×V)} {xs:List (List Key×Addr×Value)} (r:KT H kvs xs) (ht:∀ b ys,H b=some (.tup ys)→H' b=some (.tup ys)):KT H' kvs xs :=
 Paired.mapP r fun _ _ z=>⟨z.1,ht _ _ z.2.1,z.2.2⟩
section
variable {P:Program} {w:World} {H:Hp} {h:Heap} {a:Addr}
theorem Zuo {u:HO} (ok:HOk P w H h) (e:Rd H a u):ObjOk P w H h a u:=e.ok ok
theorem Zle (ok:HOk P w H h) (e:Rd H a ?E):kvs.length≤sizeLine∧(a == sysModules)=false∧∃ vs,KV kvs vs∧h.DictOf (Z4 P w) a vs :=
 show ObjOk P w H h a ?E from Zuo ok e
theorem Zmy (ok:HOk P w H h) (e:H a=some ?E):kvs.length≤sizeLine∧(a == sysModules)=false∧∃ vs,KV kvs vs∧h.DictOf (Z4 P w) a vs:=Zle ok (.inl e)
theorem Zfu {ks:List Key} (ok:HOk P w H h) (e:H a=some (.tup (ks.map kV))):(tupleKind (Z4 P w)).is h ks a:=by
 obtain ⟨_,its,r,o,h1,⟨h2,_⟩,n,h3⟩:=(show ObjOk P w H h a (.tup (ks.map kV)) from ok a _ e);exact ⟨o,its.toArray,n,h1,h2,h3,by simpa using Zgw r⟩
theorem Zl5 {kvs:List (List Key×V)} (ok:HOk P w H h) (e:Rd H a (.dT kvs)):kvs.length≤sizeLine∧(a == sysModules)=false ∧
 ∃ xs,KT H kvs xs∧h.DictOfH (tupleKind (Z4 P w)) a xs:=by
 obtain ⟨z,y,xs,r,o,es,ep,h1,h2,h3,h4,h5⟩:=(show ObjOk P w H h a (.dT kvs) from Zuo ok e);refine ⟨z,y,xs,r,o,es,ep,h1,h2,h3,h4,fun x hx=>?_,h5⟩
 have all:∀ {l:List (List Key×V)} {m:List (List Key×Addr×Value)},KT H l m→∀ x∈m,(tupleKind (Z4 P w)).is h x.1 x.2.1:=by
  intro l m q
  induction q with
  | nil=>intro x hx;exact nomatch hx
  | @cons p q ps qs hq t ih =>
    intro x hx
    rcases n12_.mp hx with e|hx
    · subst e;exact Zfu ok (by rw [← hq.1];exact hq.2.1)
    · exact ih x hx
 exact all r x hx
theorem Zvl {kvs:List (List Key×V)} (ok:HOk P w H h) (e:H a=some (.dT kvs)):kvs.length≤sizeLine∧(a == sysModules)=false ∧
 ∃ xs,KT H kvs xs∧h.DictOfH (tupleKind (Z4 P w)) a xs:=Zl5 ok (.inl e)
end
def DGet (H:Hp) (a:Addr) (y:V) (r:Option V):Prop :=
 (∃ kvs k,Rd H a ?E∧y=kV k∧r=valV kvs k)∨∃ kvs k b,Rd H a (.dT kvs)∧y=.ref b∧H b=some (.tup (k.map kV))∧r=valV kvs k
def DPut (H:Hp) (a:Addr) (y v:V) (H':Hp):Prop :=
 (∃ kvs k,H a=some ?E∧y=kV k∧kvs.length<sizeLine∧H'=upd H a (.dK (putK kvs k v))) ∨
 ∃ kvs k b,H a=some (.dT kvs)∧y=.ref b∧H b=some (.tup (k.map kV))∧kvs.length<sizeLine∧H'=upd H a (.dT (putK kvs k v))
theorem DGet.kq {k:Key} (e:H a=some ?E):DGet H a (kV k) (valV kvs k):=.inl ⟨kvs,k,.inl e,rfl,rfl⟩
theorem DGet.tq {kvs:List (List Key×V)} {k:List Key} (e:H a=some (.dT kvs)) (eb:H b=some (.tup (k.map kV))):DGet H a (.ref b) (valV kvs k):=.inr ⟨kvs,k,b,.inl e,rfl,eb,rfl⟩
theorem DPut.kq {k:Key} (e:H a=some ?E) (hl:kvs.length<sizeLine):DPut H a (kV k) v (upd H a (.dK (putK kvs k v))):=.inl ⟨kvs,k,e,rfl,hl,rfl⟩
theorem DPut.tq {kvs:List (List Key×V)} {k:List Key} (e:H a=some (.dT kvs)) (eb:H b=some (.tup (k.map kV))) (hl:kvs.length<sizeLine) :
 DPut H a (.ref b) v (upd H a (.dT (putK kvs k v))):=.inr ⟨kvs,k,b,e,rfl,eb,hl,rfl⟩
section
variable {X:Cx} {pins:?B} {σ:St} {H:Hp} {s:Shared} {a:Addr} {y v:V} {u r:Value} {o:Option V} {A:Around} {E:Value→?j}
theorem Inv.big (I:?s):sysModules<s.z:=by
 have h:mainGlobals<s.z:=(I.mod.glob.keeps I.bk).lt;exact Nat.lt_trans ?e h
theorem Zmq (hu:A.units+1<cLine) (I:?s) (g:DGet H a y (some v)) (ry:RelV y u) (h:∀ w' s',Inv X pins σ H s'→RelV v w'→Q w' s') :
 wpAny ?A A (getItem (.ref a) u) Q E s:=by
 rcases g with ⟨kvs,k,e,ey,l⟩|⟨kvs,k,b,e,ey,eb,l⟩
 · subst ey;obtain ⟨z,hd,vs,rel,dd⟩:=Zle I.hok e;obtain ⟨w',hw,rw'⟩:=RelO.some_of (v:=v) (o:=valueAt vs k) (by rw [l];exact rel.val k);exact wpAny_getItem_of (Zjl ry) dd.mapOf hw (h w' _ (I.tok _) rw')
 · subst ey;cases (show u=Value.ref b from ry)
   obtain ⟨z,hd,xs,rel,dd⟩:=Zl5 I.hok e;obtain ⟨w',hw,rw'⟩:=RelO.some_of (v:=v) (o:=(atKey xs k).map (·.2)) (by rw [l];exact rel.val k);obtain ⟨p,hp,hp2⟩:=n10_.mp hw;refine wpAny_getItem_heap (tupleKind_room_in1 hu) (Zfu I.hok eb) dd hp ?_;rw [hp2];exact h w' _ (I.tok _) rw'
theorem d_in (hu:A.units+1<cLine) (I:?s) (g:DGet H a y o) (ry:RelV y u) (h:∀ s',Inv X pins σ H s'→Q (.bool o.isSome) s') :
 wpAny ?A A (compareOp .In u (.ref a)) Q E s:=by
 rcases g with ⟨kvs,k,e,ey,l⟩|⟨kvs,k,b,e,ey,eb,l⟩
 · subst ey;obtain ⟨z,hd,vs,rel,dd⟩:=Zle I.hok e;refine wpAny_in_of (Zjl ry) hd dd.mapOf ?_;rw [← (rel.val k).isSome_eq,← l];exact h _ (I.tok _)
 · subst ey;cases (show u=Value.ref b from ry)
   obtain ⟨z,hd,xs,rel,dd⟩:=Zl5 I.hok e;refine wpAny_in_heap (tupleKind_room_in1 hu) (Zfu I.hok eb) hd dd ?_;have q:=(rel.val k).isSome_eq;rw [Option.isSome_map] at q;rw [← q,← l];exact h _ (I.tok _)
theorem Zbp {ob:HO} (I:?s) (mu:Mut (H a)) (hs:Heap.SameBut a s.heap h') (he:∃ q,h'.get? a=some q) (new:ObjOk X.prog X.w (upd H a ob) h' a ob) :
 Inv X pins σ (upd H a ob) { s with heap:=h',toks:=t' } :=
 I.write (x:=a) (e:=a) mu (.inl rfl) (fun b q hb z=>(hs.2 b hb).trans z) he new
theorem Zk1 {vs:List (Key×Value)} (z:kvs.length≤sizeLine) (hd:(a == sysModules)=false) (rel:KV kvs vs) (dd:h'.DictOf (Z4 P w) a vs) :
 ObjOk P w H' h' a ?E:=⟨z,hd,vs,rel,dd⟩
theorem Zmt {Q:Unit→?j} (hu:A.units+1<cLine) (I:?s) (g:DPut H a y v H') (ry:RelV y u) (rv:RelV v r) (h:∀ s',Inv X pins σ H' s'→Q () s') :
 wpAny ?A A (setItem (.ref a) u r) Q E s:=by
 rcases g with ⟨kvs,k,e,ey,l,eH⟩|⟨kvs,k,b,e,ey,eb,l,eH⟩
 · subst ey eH;obtain ⟨z,hd,vs,rel,dd⟩:=Zmy I.hok e;have hz:vs.length≤sizeLine:=by rw [← rel.length];exact z
   have hl:(putK kvs k v).length≤sizeLine:=by have:=Yh kvs k v;omega
   refine wpAny_setItem_pairs (hsz:=hz) (Zjl ry) dd fun h' dd' hs=>h _ ?_;have he:∃ q,h'.get? a=some q:=let ⟨q,_,_,hq,_⟩:=dd';⟨q,hq⟩;exact Zbp I (by rw [e];exact True.intro) hs he (Zk1 hl hd (rel.put k rv) dd')
 · subst ey eH;cases (show u=Value.ref b from ry)
   obtain ⟨z,hd,xs,rel,dd⟩:=Zvl I.hok e;have hz:xs.length≤sizeLine:=by rw [← Paired.length rel];exact z
   have hl:(putK kvs k v).length≤sizeLine:=by have:=Yh kvs k v;omega
   refine wpAny_setItem_heap (hsz:=hz) (tupleKind_room_in1 hu) (Zfu I.hok eb) dd fun h' dd' hs=>h _ ?_;obtain ⟨q,es,ep,hq,h2,h3,h4,_,h5⟩:=dd';refine Zbp I (by rw [e];exact True.intro) hs ⟨q,hq⟩ ⟨hl,hd,_,(rel.put k eb rv).keeps fun c ys ec=>?_,q,es,ep,hq,h2,h3,h4,h5⟩;rw [Zl (Zqq ec e (fun z=>nomatch z))];exact ec
end
section
variable {X:Cx} {pins:?B} {σ:St} {H:Hp} {s:Shared} {a:Addr} {kvs:?N} {k:Key} {u:Value} {A:Around} {E:Value→?j}
end
def NoSl (i:Expr):Prop:=∀ ov iv,subscripted i false ov iv=operate [ov,iv] (getItem ov iv)
theorem Zr5 {prog:Program} {value slice:Expr} {T id:String}
 (hl:typeLookup (.type T) "__getitem__" = pure (some (.builtin id))) (hs:NoSl slice)
 (h:wpAny ?D A (eval value env) (fun o s₁=>wpAny ?D A (eval slice env) (fun i s₂=>s₂.TypeIs o T∧wpAny ?D A (getItem o i) Q E s₂) E s₁) E s) :
 wpAny ?D A (eval (.Subscript value slice pos) env) Q E s:=by
 refine Subscript_ (n56_ h (fun o s₁ h₁=>n56_ h₁ (fun i s₂ h₂=>?_) fun _ _ x=>x) fun _ _ x=>x);obtain ⟨hT,h₂⟩:=h₂;unfold subscriptTail;refine n1_ ?_;rw [getitemInPython_of_ne hT.not_modules];refine n1_ (wpAny_specialOf hT hl ?_)
 have fin:wpAny ?D A (subscripted slice false o i) (fun r s₃=>wpAny ?D A (letTemporaryGo value o r >>= fun _=>pure r) Q E s₃) E s₂:=by
  rw [hs o i];exact wpAny_operating (n56_ h₂ (fun r s₃ h₃=>n1_ (wpAny_letTemporaryGo (n6_ h₃))) fun _ _ x=>x)
 first
  | exact n6_ (n1_ fin)
  | exact n1_ (n6_ (n1_ fin))
  | exact n1_ fin
theorem Zjk {o:Option V} (I:?s) (g:DGet H a y o):s.TypeIs (.ref a) "dict" := by
 rcases g with ⟨kvs,k,e,_,_⟩|⟨kvs,k,b,e,_,_,_⟩
 · obtain ⟨_,_,vs,_,dd⟩:=Zle I.hok e;exact dd.typeIs
 · obtain ⟨_,_,xs,_,dd⟩:=Zl5 I.hok e;exact dd.typeIs
inductive BxTDGet (Q:VK) (x y:V) (H2:Hp):Prop
 | mk (a:_) (v:_) (q1:x=.ref a) (q2:DGet H2 a y (some v)) (q3:Q v H2):BxTDGet Q x y H2
def Zv6 (td ty:TE):TE:=fun σ H Q=>td σ H fun x H1=>ty σ H1 fun y H2=>BxTDGet Q x y H2
inductive BxTDIn (Q:VK) (x y:V) (H2:Hp):Prop
 | mk (a:_) (o:_) (q1:x=.ref a) (q2:DGet H2 a y o) (q3:Q (.bl o.isSome) H2):BxTDIn Q x y H2
def tDIn (ty td:TE):TE:=fun σ H Q=>ty σ H fun y H1=>td σ H1 fun x H2=>BxTDIn Q x y H2
inductive BxSDPut (D:Ends) (σ:St) (x y v:V) (H3:Hp):Prop
 | mk (a:_) (H4:_) (q1:x=.ref a) (q2:DPut H3 a y v H4) (q3:D.nx σ H4):BxSDPut D σ x y v H3
def Zwb (td ty tv:TE):TS:=fun D σ H=>tv σ H fun v H1=>td σ H1 fun x H2=>ty σ H2 fun y H3=>BxSDPut D σ x y v H3
section
variable {X:Cx} {o i e value:Expr} {pos pos' tpos:Pos} {td ty tv:TE}
theorem Zjc (hu:X.A.units+1<cLine) (ho:PE X o td) (hi:PE X i ty) (hs:NoSl i):PE X (.Subscript o i pos) (Zv6 td ty):=by
 intro pins s σ H Q I h;refine Zr5 PySem.F.slot_dict_getitem.lookup hs (thn (ho pins s σ H _ I h) fun u s1 ⟨x,H1,I1,rx,q1⟩=>thn (hi pins s1 σ H1 _ I1 q1) fun iv s2 zq=>?_);obtain ⟨y,H2,I2,ry,a,v,ex,g,q2⟩:=zq;subst ex;obtain rfl:u=Value.ref a:=rx;exact ⟨Zjk I2 g,Zmq hu I2 g ry fun w' s3 I3 rw'=>⟨v,H2,I3,rw',q2⟩⟩
theorem Zu7 (hu:X.A.units+1<cLine) (hi:PE X i ty) (ho:PE X o td):PC X .In i o (tDIn ty td):=by
 intro pins s σ H Q I h;refine thn (hi pins s σ H _ I h) fun iv s1 ⟨y,H1,I1,ry,q1⟩=>thn (ho pins s1 σ H1 _ I1 q1) fun u s2 zq=>?_;obtain ⟨x,H2,I2,rx,a,ov,ex,g,q2⟩:=zq;subst ex;obtain rfl:u=Value.ref a:=rx;exact d_in hu I2 g ry fun s3 I3=>⟨.bl ov.isSome,H2,I3,rfl,q2⟩
theorem Zni (hu:X.A.units+1<cLine) (ho:PE X o td) (hi:PE X i ty) (hv:PE X value tv) (hs:swapsWith value (some (.Subscript o i pos')) pos.line X.env=pure false) :
 PS X (.Assign [.Subscript o i pos'] value pos) (Zwb td ty tv):=by
 intro pins s σ H D I h;refine wpAny_Assign_Subscript (thn (hv pins s σ H _ I h) fun r s1 ⟨v,H1,I1,rv,q1⟩=>thn (ho pins s1 σ H1 _ I1 q1) fun u s2 ⟨x,H2,I2,rx,q2⟩=>thn (hi pins s2 σ H2 _ I2 q2) fun iv s3 zq=>?_) hs;obtain ⟨y,H3,I3,ry,a,H4,ex,g,q3⟩:=zq;subst ex;obtain rfl:u=Value.ref a:=rx;exact Zmt hu I3 g ry rv fun s4 I4=>⟨σ,H4,I4,q3⟩
end
theorem Zgq (h:Heap) (hb:sysModules<h.objs.size):ObjOk P w H (h.push ?aj) h.objs.size (.dK []) :=
 ⟨n47_ _,beq_eq_false_iff_ne.mpr (Ne.symm (n23_ hb)),[],.nil,Heap.DictOf.new h⟩
theorem Zkw (h:Heap) (hb:sysModules<h.objs.size):ObjOk P w H (h.push ?aj) h.objs.size (.dT []) :=
 ⟨n47_ _,beq_eq_false_iff_ne.mpr (Ne.symm (n23_ hb)),[],.nil,_,#[],0,n8_ _ rfl,⟨rfl,rfl,rfl⟩,rfl,rfl,List.nodup_nil⟩
def Zvr:TE:=fun _ H Q=>∀ p,H p=none→Q (.ref p) (upd H p (.dT []))
section
variable {X:Cx} {pos:Pos}
theorem Zqd:PE X (.Dict [] [] pos) Zvr:=fun pins s σ H Q I h =>
 wpAny_Dict_empty ⟨.ref s.z,_,I.laid (a:=s.z) (o:=.dT []) (t':=s.toks) (fun _ _ q=>n2_ _ q) (n7_ _) (Zkw s.heap I.big),rfl,h _ (I.hok.fresh (n7_ _))⟩
end
def Zov:List (TE×TE)→St→Hp→(List (V×V)→?w)→Prop
 | [],_,H,Q=>Q [] H
 | (tk,tv) :: r,σ,H,Q=>tk σ H fun x H1=>tv σ H1 fun y H2=>Zov r σ H2 fun ps H3=>Q ((x,y) :: ps) H3
abbrev VV:List (V×V)→List (Value×Value)→Prop:=Paired fun p q=>RelV p.1 q.1∧RelV p.2 q.2
def PPs (X:Cx) (pos:Pos) (keys:List (Option Expr)) (values:List Expr) (trs:List (TE×TE)):Prop :=
 ∀ (pins:?B) (s:Shared) (σ:St) (H:Hp) (Q:List (V×V)→?w),?s→Zov trs σ H Q →
   wpAny ?A X.A (evalPairs (pairTrees keys values X.env pos)) (fun vs s'=>∃ ps H',Inv X pins σ H' s'∧VV ps vs∧Q ps H') X.xe s
theorem Zsd:PPs X pos [] [] []:=fun pins s σ H Q I h=>pairTrees_nil_walk ⟨[],H,I,.nil,h⟩
theorem Zki {k v:Expr} {ks:List (Option Expr)} {vs:List Expr} {tk tv:TE} {trs:List (TE×TE)} (hk:PE X k tk) (hv:PE X v tv) (hr:PPs X pos ks vs trs) :
 PPs X pos (some k :: ks) (v :: vs) ((tk,tv) :: trs):=fun pins s σ H Q I h =>
 pairTrees_cons_walk (thn (hk pins s σ H _ I h) fun u s1 ⟨x,H1,I1,rx,q1⟩=>thn (hv pins s1 σ H1 _ I1 q1) fun w2 s2 ⟨y,H2,I2,ry,q2⟩ =>
  thn (hr pins s2 σ H2 _ I2 q2) fun ws s3 ⟨ps,H3,I3,rel,q3⟩=>⟨(x,y) :: ps,H3,I3,.cons ⟨rx,ry⟩ rel,q3⟩)
noncomputable def Zbz (kvs more:?N):?N:=more.foldl (fun acc kv=>putK acc kv.1 kv.2) kvs
theorem KV.merge:∀ {more:?N} {rs:List (Key×Value)} {kvs:?N} {vs:List (Key×Value)},KV more rs→KV kvs vs→KV (Zbz kvs more) (merged vs rs):=by
 intro more rs kvs vs r;unfold KV at r
 induction r generalizing kvs vs with
 | nil=>intro q;exact q
 | @cons p q ps qs h t ih =>
   intro r0
   have e:KV (putK kvs p.1 p.2) (stored vs q.1 q.2):=by
    have:=r0.put p.1 h.2
    rw [← h.1];exact this
   exact ih e
theorem Xn:∀ (more kvs:?N),(Zbz kvs more).length≤kvs.length+more.length
 | [],kvs=>by show kvs.length≤kvs.length+0;omega
 | p :: r,kvs=>by
   have h1:=Xn r (putK kvs p.1 p.2);have h2:=Yh kvs p.1 p.2;show (Zbz (putK kvs p.1 p.2) r).length≤_
   rw [n29_];omega
theorem Zfg:∀ {kvs:?N} {ws:List (Value×Value)},VV (kvs.map fun kv=>(kV kv.1,kv.2)) ws→∃ rs,Carries (Z4 P w) ws rs∧KV kvs rs
 | [],_,r=>by rw [n70_] at r;cases r;exact ⟨[],True.intro,.nil⟩
 | p :: kvs,_,r=>by
   rw [n19_] at r;cases r with
   | @cons a b as bs h t =>
     obtain ⟨rs,c,q⟩:=Zfg t;obtain ⟨b1,b2⟩:=b;exact ⟨(p.1,b2) :: rs,⟨Zjl h.1,rfl,c⟩,.cons ⟨rfl,h.2⟩ q⟩
def Zwy (trs:List (TE×TE)):TE:=fun σ H Q=>∀ p,H p=none→Zov trs σ (upd H p (.dK [])) fun ps H2=>H2 p=some (.dK [])∧∃ kvs:?N,ps=kvs.map (fun kv=>(kV kv.1,kv.2))∧kvs.length≤15∧Q (.ref p) (upd H2 p (.dK (Zbz [] kvs)))
theorem Zsp {keys:List (Option Expr)} {values:List Expr} {trs:List (TE×TE)} (h:PPs X pos keys values trs) (hall:keys.all (·.isSome)=true) (hl:keys.length=values.length) (h0:keys≠[])
 (h15:keys.length≤15):PE X (.Dict keys values pos) (Zwy trs):=by
 intro pins s σ H Q I q;have hn:=I.hok.fresh (n7_ s.z);have I1:=I.laid (a:=s.z) (o:=.dK []) (h':=s.heap.push ?aj) (t':=s.toks) (fun _ _ q=>n2_ _ q) (n7_ _) (Zgq s.heap I.big);refine wpAny_Dict_walk (knd:=Z4 X.prog X.w) hall hl h0 h15 (thn (h pins _ σ _ _ I1 (q _ hn)) fun ws s2 zq=>?_);obtain ⟨ps,H2,I2,rel,e,kvs,ep,lk,q2⟩:=zq;subst ep;obtain ⟨rs,c,rk⟩:=Zfg (P:=X.prog) (w:=X.w) rel;obtain ⟨z,hd,vs0,r0,dd⟩:=Zmy I2.hok e;cases r0
 refine ⟨rs,c,dd,fun h' dd' hs=>⟨.ref s.z,_,?_,rfl,q2⟩⟩
 have hz:(Zbz [] kvs).length≤sizeLine:=by
  have h1:=Xn kvs [];rw [List.length_nil] at h1;rw [sizeLine_eq];omega
 have he:∃ q,h'.get? s.z=some q:=let ⟨q,_,_,hq,_⟩:=dd';⟨q,hq⟩;exact Zbp I2 (by rw [e];exact True.intro) hs he (Zk1 hz hd (rk.merge .nil) dd')
structure M2 (X:Cx) (o:Expr) (m:Str) (apos:Pos) (e f:Expr) (cpos:Pos):Prop where
 base:attributeBase o m X.env (eval o X.env)=eval o X.env
 few:((backTo cpos (starEach [e,f] X.env)).all (fun x=>!x.1)&&(backToKw cpos (keywordEach [] X.env)).all (fun x=>x.1.isSome)
  && decide (([e,f]:List Expr).length+([]:List Keyword).length+(if ([]:List Keyword).isEmpty then 0 else 1)<30))=true
 line:(apos.endLine == cpos.line)=true
 trees:backTo cpos (starEach [e,f] X.env)=[(false,eval e X.env),(false,eval f X.env)]
def IsD (H:Hp) (a:Addr):Prop:=(∃ kvs,Rd H a ?E)∨∃ kvs,Rd H a (.dT kvs)
theorem Zm5 (I:?s) (d:IsD H a) :
 s.TypeIs (.ref a) "dict" ∧ (∀ b,Value.ref a=.ref b→∃ ob,s.heap.get? b=some ob∧ob.dict=none)∧(a == sysModules)=false:=by
 rcases d with ⟨kvs,e⟩|⟨kvs,e⟩
 · obtain ⟨_,hd,vs,_,dd⟩:=Zle I.hok e;refine ⟨dd.typeIs,fun b q=>?_,hd⟩;cases q
   obtain ⟨ob,_,_,h1,h2,_⟩:=dd;exact ⟨ob,h1,h2.2.1⟩
 · obtain ⟨_,hd,xs,_,dd⟩:=Zl5 I.hok e;refine ⟨dd.typeIs,fun b q=>?_,hd⟩;cases q
   obtain ⟨ob,_,_,h1,h2,_⟩:=dd;exact ⟨ob,h1,h2.2.1⟩
section
variable {X:Cx} {pins:?B} {σ:St} {H:Hp} {s:Shared} {a:Addr} {y d:V} {u r:Value} {o:Option V} {A:Around} {E:Value→?j}
theorem Zvj (hu:A.units+1<cLine) (I:?s) (g:DGet H a y o) (ry:RelV y u) (rd:RelV d r) (h:∀ w' s',Inv X pins σ H s'→RelV (o.getD d) w'→Q w' s') :
 wpAny ?A A (call (.builtin "dict.get") [.ref a,u,r]) Q E s:=by
 rcases g with ⟨kvs,k,e,ey,l⟩|⟨kvs,k,b,e,ey,eb,l⟩
 · subst ey;obtain ⟨z,hd,vs,rel,dd⟩:=Zle I.hok e;refine call_meetsIn PySem.F.slot_dict_get dd.typeIs PySem.F.entry_dict_get (PySem.F.args_dict_get_3 _ _ _) (meets_dict_get_default (Z4 X.prog X.w) a (Zjl ry) hd r) ⟨_,dd.mapOf,h _ _ (I.tok _) ?_⟩;rw [l];exact (rel.val k).getD rd
 · subst ey;cases (show u=Value.ref b from ry)
   obtain ⟨z,hd,xs,rel,dd⟩:=Zl5 I.hok e;refine call_meetsIn PySem.F.slot_dict_get dd.typeIs PySem.F.entry_dict_get (PySem.F.args_dict_get_3 _ _ _) (meetsH_dict_get_default (tupleKind (Z4 X.prog X.w)) a b hd r) ⟨tupleKind_room_in1 hu,k,xs,Zfu I.hok eb,dd,h _ _ (I.tok _) ?_⟩;rw [l];exact (rel.val k).getD rd
end
def Zuq (td ty tx:TE):TE:=fun σ H Q=>td σ H fun x H1=>∃ a,x=.ref a∧IsD H1 a∧ty σ H1 fun y H2=>tx σ H2 fun z H3=>∃ o,DGet H3 a y o∧Q (o.getD z) H3
section
variable {X:Cx} {o e f:Expr} {apos cpos:Pos} {td ty tx:TE}
theorem Zgv (hu:X.A.units+1<cLine) (ho:PE X o td) (he:PE X e ty) (hf:PE X f tx) (m:M2 X o "get" apos e f cpos):PE X (.Call (.Attribute o "get" apos) [e,f] [] cpos) (Zuq td ty tx):=by
 intro pins s σ H Q I h;refine wpAny_Call_method m.base m.few m.line PySem.F.plainAttrs_dict PySem.F.slot_dict_get PySem.F.type_dict_get (thn (ho pins s σ H _ I h) fun u s1 zq=>?_);obtain ⟨x,H1,I1,rx,a,ex,d,q1⟩:=zq;subst ex;obtain rfl:u=Value.ref a:=rx;obtain ⟨t1,t2,_⟩:=Zm5 I1 d;refine ⟨t1,t2,?_⟩;rw [m.trees]
 refine Calls.callWith_builtin rfl (Calls.evalArgs_plain (Calls.spliced_cons (thn (he pins s1 σ H1 _ I1 q1) fun iv s2 ⟨y,H2,I2,ry,q2⟩ =>
  Calls.spliced_cons (thn (hf pins s2 σ H2 _ I2 q2) fun fv s3 ⟨z,H3,I3,rz,ov,g,q3⟩=>Calls.spliced_nil ?_))))
 exact Zvj hu I3 g ry rz fun w' s4 I4 rw'=>⟨_,H3,I4,rw',q3⟩
end
section
variable {X:Cx} {pins:?B} {σ:St} {H:Hp} {s:Shared} {a:Addr} {kvs:?N} {A:Around} {E:Value→?j}
end
section
variable {X:Cx} {pins:?B} {σ:St} {H:Hp} {s:Shared} {a:Addr} {y:V} {u:Value} {A:Around} {E:Value→?j}
end
end L2
namespace PySem
section
variable {prog:Program} {w:World} {A:Around} {E:Value→?j} {s:Shared} {it d:Addr} {i ep:Nat} {es:Array DictEntry} {ok ov:Value}
def EntAt (h:Heap) (d:Addr) (es:Array DictEntry) (ep:Nat):Prop:=∃ o:Obj,h.get? d=some o∧o.data=.dict es ep
theorem EntAt.at {h h':Heap} (x:EntAt h d es ep) (k:∀ o,h.get? d=some o→h'.get? d=some o):EntAt h' d es ep:=let ⟨o,e,q⟩:=x;⟨o,k o e,q⟩
theorem Zqg {x:DictEntry} {Q:?C→?j} (hit:IsItemIter s.heap it d i es.size ep ok ov) (hm:EntAt s.heap d es ep) (hx:es[i]? = some x)
 (hQ:∀ h',IsItemIterOut h' it d (i+1) es.size ep x.key x.val s.heap.objs.size→h'.get? s.heap.objs.size=some { cls:=?M,data:=.seq #[x.key,x.val] } →
   (∀ b o,b≠it→?ag)→Q (some (.ref s.heap.objs.size)) ?T):wpAny ?D A (pyNext (.ref it)) Q E s:=by
 obtain ⟨H0,G0,R0,K0,O0⟩:=s;obtain ⟨od,e0,q0⟩:=hm;have ty:∀ {h:Heap} {j:Nat} {y z:Value},IsItemIter h it d j es.size ep y z→Shared.TypeIs ⟨h,G0,R0,K0,O0⟩ (.ref it) "dict_itemiterator" := fun q=>⟨_,q,rfl⟩;have T0:=ty hit;have lt:it<H0.objs.size:=n13_ hit;have ne:H0.objs.size≠it:=n75_ lt;obtain ⟨li,rfl⟩:=Array.getElem?_eq_some_iff.mp hx;unfold pyNext;refine n1_ <| wpAny_attempt <| wpAny_callSpecial?_slot (name:=Str.ofString "__next__") T0 F.slot_dict_itemiterator_next <| wpAny_call_entry F.slot_dict_itemiterator_next T0 F.entry_dict_itemiterator_next ?_ (F.args_dict_itemiterator_next_1 _);refine n1_ <| n6_ <| n1_ <| n1_ <| n1_ <| wpAny_typeNameOfWhole_itemiter T0 <| n6_ <| n1_ <| wpAny_fieldsOf hit rfl ?_;have own:Builtin.Dict_items.ownsTuple "dict_itemiterator" = true:=?k
 simp only [own,if_true];show wpAny _ _ (if (Value.ref d == Value.none)=true then _ else _) _ _ _
 rw [if_neg (by intro z;cases z)];refine n1_ <| n6_ <| n1_ <| wpAny_dictEntries e0 q0 ?_;rw [if_neg ?f];refine n1_ <| n6_ <| n1_ <| wpAny_dictEpoch e0 q0 ?_;rw [if_neg ?f];refine n6_ ?_;have nn:¬ ((i:Int)<0):=?d
 simp only [nn,if_false,n63_,hx];refine n1_ <| n1_ <| wpAny_typeNameOfWhole_itemiter T0 <| n6_ <| n1_ <| wpAny_isOneOf_itemiter T0 ?_;show wpAny _ _ (setField (.ref it) 3 (rawInt ((i:Int)+1)) >>= _) _ _ ⟨H0,G0,R0,K0,O0⟩
 refine n1_ <| wpAny_setField_rec hit ?f fun H1 m1 b1=>?_
 have i1:IsItemIter H1 it d (i+1) es.size ep ok ov:=by
  have c:((i+1:Nat):Int)=(i:Int)+1:=Int.natCast_add i 1;unfold IsItemIter;rw [c];simpa [rawInt] using m1
 replace b1:Heap.SameBut it H0 H1:=b1;refine n1_ <| n38_ <| n1_ <| wpAny_isOneOf_itemiter (ty i1) <| n1_ <| wpAny_isOneOf_itemiter (ty i1) ?_;show wpAny _ _ (Builtin.Dict_items.pairFromOwner (.ref it) 6 es[i].key es[i].val) _ _ ⟨H1,G0,R0,K0,O0⟩
 unfold Builtin.Dict_items.pairFromOwner;refine n1_ <| wpAny_newTuple ?_;have z1:H1.objs.size=H0.objs.size:=b1.1;have i2:IsItemIter (H1.push { cls:=?M,data:=.seq #[es[i].key,es[i].val] }) it d (i+1) es.size ep ok ov:=n2_ _ i1;have t2:(H1.push { cls:=?M,data:=.seq #[es[i].key,es[i].val] }).get? H0.objs.size=some { cls:=?M,data:=.seq #[es[i].key,es[i].val] }:=z1 ▸ n8_ _ rfl;have k2:∀ b o,b≠it→H0.get? b=some o→(H1.push { cls:=?M,data:=.seq #[es[i].key,es[i].val] }).get? b=some o:=fun b o hb e=>n2_ _ (b1.extBut b o hb e);show wpAny _ _ (Builtin.Dict_items.ownedTupleIsFree (.ref it) >>= _) _ _ ⟨H1.push { cls:=?M,data:=.seq #[es[i].key,es[i].val] },G0,R0,K0,O0⟩
 rw [z1];generalize H1.push { cls:=?M,data:=.seq #[es[i].key,es[i].val] }=H2 at i2 t2 k2 ⊢;refine n1_ ?_;unfold Builtin.Dict_items.ownedTupleIsFree;refine n1_ <| wpAny_field i2 rfl (x:=.none) rfl <| n6_ ?_;simp only [if_true];refine n1_ <| wpAny_field i2 rfl (x:=ok) rfl <| n1_ <| wpAny_field i2 rfl (x:=ov) rfl ?_;refine n1_ <| wpAny_setField_rec i2 ?f fun H3 m3 b3=>?_;have i3:IsItemIter H3 it d (i+1) es.size ep es[i].key ov:=m3;refine n1_ <| wpAny_setField_rec i3 ?f fun H4 m4 b4=>?_;have i4:IsItemIter H4 it d (i+1) es.size ep es[i].key es[i].val:=m4;refine n1_ <| wpAny_setField_rec i4 ?f fun H5 m5 b5=>?_;have i5:IsItemIterOut H5 it d (i+1) es.size ep es[i].key es[i].val H0.objs.size:=m5;refine n1_ <| wpAny_setField_rec i5 ?f fun H6 m6 b6=>?_;have i6:IsItemIterOut H6 it d (i+1) es.size ep es[i].key es[i].val H0.objs.size:=m6;have up6:∀ b o,b≠it→H2.get? b=some o→H6.get? b=some o:=fun b o hb e=>Heap.SameBut.extBut (show Heap.SameBut it H5 H6 from b6) b o hb (Heap.SameBut.extBut (show Heap.SameBut it H4 H5 from b5) b o hb (Heap.SameBut.extBut (show Heap.SameBut it H3 H4 from b4) b o hb (Heap.SameBut.extBut (show Heap.SameBut it H2 H3 from b3) b o hb e)));exact n1_ <| wpAny_letGo <| n6_ <| n6_ ⟨_,rfl,n6_ <| hQ H6 i6 (up6 _ _ ne t2) fun b o hb e=>up6 b o hb (k2 b o hb e)⟩
theorem Ztu {Q:?C→?j} (hh:A.handled=none) (hit:IsItemIter s.heap it d i es.size ep ok ov) (hm:EntAt s.heap d es ep) (hx:es[i]? = none)
 (hQ:∀ h',Heap.ExtBut it s.heap h'→Q none ?T):wpAny ?D A (pyNext (.ref it)) Q E s:=by
 obtain ⟨od,e0,q0⟩:=hm;have T0:s.TypeIs (.ref it) "dict_itemiterator" := ⟨_,hit,rfl⟩;unfold pyNext;refine n1_ <| wpAny_attempt <| wpAny_callSpecial?_slot (name:=Str.ofString "__next__") T0 F.slot_dict_itemiterator_next <| wpAny_call_entry F.slot_dict_itemiterator_next T0 F.entry_dict_itemiterator_next ?_ (F.args_dict_itemiterator_next_1 _);refine n1_ <| n6_ <| n1_ <| n1_ <| n1_ <| wpAny_typeNameOfWhole_itemiter T0 <| n6_ <| n1_ <| wpAny_fieldsOf hit rfl ?_;have own:Builtin.Dict_items.ownsTuple "dict_itemiterator" = true:=?k
 simp only [own,if_true];show wpAny _ _ (if (Value.ref d == Value.none)=true then _ else _) _ _ s
 rw [if_neg (by intro z;cases z)];refine n1_ <| n6_ <| n1_ <| wpAny_dictEntries e0 q0 ?_;rw [if_neg ?f];refine n1_ <| n6_ <| n1_ <| wpAny_dictEpoch e0 q0 ?_;rw [if_neg ?f];refine n6_ ?_;have nn:¬ ((i:Int)<0):=?d
 simp only [nn,if_false,n63_,hx];refine n1_ <| n1_ <| wpAny_typeNameOfWhole_itemiter T0 <| n6_ ?_;show wpAny _ _ (setField (.ref it) 2 .none >>= _) _ _ s
 refine n1_ <| wpAny_setField hit rfl ?f ?_;show wpAny _ _ (newExc (.type "StopIteration") [] >>= _) _ _ _
 refine n1_ ?_;simp only [newExc,newTuple];refine n1_ <| wpAny_newObj_type ?_ (by size_fits);refine n1_ (m:=firstArgMember _ _) <| wpAny_of_eq (a:=Value.none) (by first|rfl|(simp only [firstArgMember];rfl)) ?_;refine wpAny_newObj_type ?_ (by size_fits);simp only [raiseNew];refine n1_ <| wpAny_handled ?_;rw [show A.in1.handled=none from hh];refine n1_ <| n6_ <| wpAny_throw ?_;refine n1_ (wpAny_isInstance (T := "StopIteration") (b:=true) ⟨_,n8_ _ rfl,rfl⟩ isSubtype_stop ?_);exact n6_ <| hQ _ <| ((Heap.SameBut.update ..).extBut.push _).push _
theorem Zl2 (d:Addr) (hd:(d == sysModules)=false):MeetsIn prog w (Builtin.«dict.items» ⟨[.ref d],[]⟩) (fun _ R s=>s.TypeIs (.ref d) "dict" ∧
 R (.ok (.ret (.ref s.z))) { s with heap:=s.heap.push { cls:=.type "dict_items",data:=.fields #[.ref d] } }) :=
 .of_wp fun A R s ⟨ty,h⟩=>by
  unfold Builtin.«dict.items»;refine n1_ ?_;unfold Builtin.Dict.noArgs;refine n1_ <| wpAny_notOrdered_dict ty ?_;show wpAny _ _ (pure d) _ _ s
  refine n6_ ?_;show wpAny _ _ (Builtin.Dict.showsAll d >>= _) _ _ s
  unfold Builtin.Dict.showsAll;rw [if_neg (by rw [hd];intro z;cases z)];exact n1_ <| n6_ <| n1_ <| wpAny_newObj_type <| n6_ ⟨_,rfl,h⟩
theorem Zql {v:Addr} {Q:Value→?j} (hv:s.heap.IsItemsView v d) (hm:EntAt s.heap d es ep)
 (hQ:∀ h',IsItemIter h' s.z d 0 es.size ep .none .none→(∀ b o,?ag)→Q (.ref s.z) ?T):wpAny ?D A (pyIter (.ref v)) Q E s:=by
 obtain ⟨o1,e1,c1,q1⟩:=id hv;obtain ⟨od,e0,q0⟩:=hm;refine wpAny_pyIter_slot hv.typeIs F.slot_dict_items_iter <| wpAny_call_entry F.slot_dict_items_iter hv.typeIs F.entry_dict_items_iter ?_ (F.args_dict_items_iter_1 _);unfold Builtin.«dict_items.__iter__»;refine n1_ <| n6_ <| n1_ ?_;unfold Builtin.Dict_items.dictOf;refine n1_ <| wpAny_field e1 q1 (x:=.ref d) rfl <| n6_ <| n1_ ?_;unfold Builtin.Dict_items.newIterator;refine n1_ <| wpAny_dictEntries e0 q0 <| n1_ <| wpAny_dictEpoch e0 q0 ?_;have own:Builtin.Dict_items.ownsTuple "dict_itemiterator" = true:=?k
 simp only [own,if_true]
 refine wpAny_newObj_type (n6_ ⟨_,rfl,"dict_itemiterator",_,⟨_,n8_ _ rfl,rfl⟩,F.slot_dict_itemiterator_next.lookup,?_⟩)
  (by simp only [sizeOk,Builtin.Dict_items.ownedTupleFields,n11_,n33_,n29_,List.length_nil,sizeLine_eq];omega)
 have q:=hQ (s.heap.push { cls:=.type "dict_itemiterator",data:=.fields #[.none,.bool false,.ref d,.int 0 0,.int es.size 0,.int ep 0,.none,.none] }) (n8_ _ rfl) fun b o e=>n2_ _ e
 simpa [rawInt,Builtin.Dict_items.ownedTupleFields] using q
end
end PySem
namespace L2
open PySem PySem.Spec PyProof.Rows
section
variable {X:Cx} {pins:?B} {σ:St} {H:Hp} {s:Shared} {A:Around} {E:Value→?j} {a b:Addr} {kvs:List (List Key×V)} {k:List Key} {r:Value} {v:V}
theorem Zm0 {Q:Unit→?j} (hu:A.units<cLine) (I:?s) (e:H a=some (.dT kvs)) (eb:H b=some (.tup (k.map kV))) (rv:RelV v r) (hl:kvs.length<sizeLine) (h:∀ s',Inv X pins σ (upd H a (.dT (putK kvs k v))) s'→Q () s') :
 wpAny ?A A (dictSet a (.ref b) r) Q E s:=by
 obtain ⟨z,hd,xs,rel,dd⟩:=Zvl I.hok e;have hl':(putK kvs k v).length≤sizeLine:=by have:=Yh kvs k v;omega
 refine wpAny_dictSet_heap (knd:=tupleKind (Z4 X.prog X.w)) (hsz:=by rw [← Paired.length rel];exact z) hu (Zfu I.hok eb) dd fun h' dd' hs=>h _ ?_;obtain ⟨q,es,ep,hq,c2,c3,c4,_,c5⟩:=dd';refine Zbp I (by rw [e];exact True.intro) hs ⟨q,hq⟩ ⟨hl',hd,_,(rel.put k eb rv).keeps fun c ys ec=>?_,q,es,ep,hq,c2,c3,c4,c5⟩;rw [Zl (Zqq ec e (fun z=>nomatch z))];exact ec
end
end L2
namespace L2
open PySem PySem.Spec PyProof.Rows PySem.W
variable {a:Addr} {k:Nat} {o:Obj}
section
variable {prog:Program} {w:World} {A:Around} {E:Value→?j} {s:Shared}
theorem Zev:typeLookup (.type "list") "keys" = pure none:=am_miss_of_fast (?q)
theorem Zgg:typeLookup (.type "zip") "keys" = pure none:=am_miss_of_fast (?q)
theorem Zdh:typeLookup (.type "zip") "__getattr__" = pure none:=am_miss_of_fast (?q)
theorem Za3:entryFor table "zip.__getattribute__" = some Builtin.«object.__getattribute__» :=
 entryFor_alias (id' := "object.__getattribute__") (?q) (?i) (?i) (?q)
theorem Zhd {xs:?L} {Q:?C→?j} (hx:s.heap.get? a=some o) (hc:o.cls=.type "list") (hdat:o.data=.seq xs k) (hd:o.dict=none) (hA:A.handled=none)
 (h:∀ h' tk,(∀ b o,?ag)→Q none { s with heap:=h',toks:=tk }):wpAny ?D A (getAttr? (.ref a) "keys") Q E s:=by
 obtain ⟨c,dct,dat,sl⟩:=o;simp only at hc hdat hd;subst hc hdat hd;obtain ⟨hp,g,d,tk,os⟩:=s;have hT:∀ tk',(⟨hp,g,d,tk',os⟩:Shared).TypeIs (.ref a) "list" := fun _=>⟨_,hx,rfl⟩;have f1:=sub_AttributeError;have f3:=F.slot_list_getattribute.lookup;have f4:=F.slot_list_getattribute.bind (.ref a);have f5:=am_list_getattr_none;unfold getAttr? getAttrBy? getAttrBy
 repeat (any_goals (first|assumption|exact hT _|((with_reducible show wpAny _ _ (call (Value.builtin "list.__getattribute__") _ _) _ _ _);refine call_meets F.slot_list_getattribute (hT _) am_entry_list_getattribute (F.args_list_getattribute_2 _ _) (meets_getattribute_miss_list a xs k sl "keys" _ Zev (?i) (?i)) ⟨hx,hA,fun h' tk' e hx'=>?_⟩)|wp_step))
 obtain ⟨t',u',he⟩:=hx'.there;show wpAny _ _ (getattributeRaised _ _ _ _ _ _ _) _ _ _
 unfold getattributeRaised
 repeat (any_goals (first|assumption|wp_step))
 exact h _ _ hx'.keeps
theorem Zo9 (a:Addr) (xs:?L) (sl:Array (?C)) (u:Tok) :
 Meets (Builtin.«object.__getattribute__» ⟨[.ref a,.str "keys" u],[]⟩) (fun A R s=>s.heap.get? a=some { cls:=.type "zip",dict:=none,data:=.fields xs,slots:=sl }∧raisesAttr (.ref a) "keys" A R s) :=
 Meets.of_wp fun prog w A R s hs=>by
  obtain ⟨hp,g,d,tk,os⟩:=s;obtain ⟨hx,hs⟩:=hs;have hT:(⟨hp,g,d,tk,os⟩:Shared).TypeIs (.ref a) "zip" := ⟨_,hx,rfl⟩;have hmiss:=Zgg;have hname:(["__module__","__name__","__qualname__","__doc__","__annotations__"]:List Str).contains ("keys" : Str)=false:=?i
  unfold Builtin.«object.__getattribute__»
  repeat (any_goals (first|assumption|wp_step))
  exact wpAny_raiseAttrError hs.1 hs.2 (attrMsg_fits (?i) (?i))
theorem Zih {xs:?L} {sl:Array (?C)} {Q:?C→?j} (hx:s.heap.get? a=some { cls:=.type "zip",dict:=none,data:=.fields xs,slots:=sl }) (hA:A.handled=none)
 (h:∀ h' tk,(∀ b o,?ag)→Q none { s with heap:=h',toks:=tk }):wpAny ?D A (getAttr? (.ref a) "keys") Q E s:=by
 obtain ⟨hp,g,d,tk,os⟩:=s;have hT:∀ tk',(⟨hp,g,d,tk',os⟩:Shared).TypeIs (.ref a) "zip" := fun _=>⟨_,hx,rfl⟩;have f1:=sub_AttributeError;have f3:=F.slot_zip_getattribute.lookup;have f4:=F.slot_zip_getattribute.bind (.ref a);have f5:=Zdh;unfold getAttr? getAttrBy? getAttrBy
 repeat (any_goals (first|assumption|exact hT _|((with_reducible show wpAny _ _ (call (Value.builtin "zip.__getattribute__") _ _) _ _ _);refine call_meets F.slot_zip_getattribute (hT _) Za3 (F.args_zip_getattribute_2 _ _) (Zo9 a xs sl _) ⟨hx,hA,fun h' tk' e hx'=>?_⟩)|wp_step))
 obtain ⟨t',u',he⟩:=hx'.there;show wpAny _ _ (getattributeRaised _ _ _ _ _ _ _) _ _ _
 unfold getattributeRaised
 repeat (any_goals (first|assumption|wp_step))
 exact h _ _ hx'.keeps
end
end L2
namespace L2
open PySem PySem.Spec PyProof.Rows PySem.W
theorem Xc:entryFor table "dict.update.loop" = some Builtin.«dict.update.loop»:=entryFor_of_tree (?q)
theorem Z6:plainId "dict.update.loop" = true:=?i
variable {a b j t z:Addr} {ys:?L} {m n:Nat} {c d:Value}
section
variable {prog:Program} {w:World} {A:Around} {E:Value→?j} {s:Shared} {k l:SK}
theorem Zl6 {o i:Addr} {xs:?L} {x y:Value} {Q:?C→?j} (D:ZP z t o i j a b)
 (hz:ZSt s.heap z t o) (ht:IsPair s.heap t (.ref i) (.ref j)) (ho:IsPair s.heap o c d)
 (hi:k.It s.heap i a m) (hj:l.It s.heap j b n) (ha:k.Is s.heap a xs) (hb:l.Is s.heap b ys) (hx:xs[m]? = some x) (hy:ys[n]? = some y)
 (q:∀ h1,ZSt h1 z t o→(∃ c d,IsPair h1 o c d)→k.It h1 i a (m+1)→l.It h1 j b (n+1)→IsPair h1 s.z x y→h1.objs.size=s.z+1 →
   ?al→Q (some (.ref s.z)) ?V) :
 wpAny ?D A (pyNext (.ref z)) Q E s:=by
 have hT:s.TypeIs (.ref z) "zip" := let ⟨_,_,h,_⟩:=hz;⟨_,h,rfl⟩;unfold pyNext
 exact n1_ (wpAny_attempt (wpAny_callSpecial?_slot (name:=Str.ofString "__next__") hT F.slot_zip_next (wpAny_call_entry F.slot_zip_next hT F.entry_zip_next
  (Zos D hz ht ho hi hj ha hb hx hy fun h1 r1 r2 r3 r4 r5 r6 r7=>n6_ (q h1 r1 r2 r3 r4 r5 r6 r7)) (F.args_zip_next_1 _))))
theorem Znu {o i:Addr} {xs:?L} {Q:?C→?j} (hh:A.handled=none) (D:ZP z t o i j a b)
 (hz:ZSt s.heap z t o) (ht:IsPair s.heap t (.ref i) (.ref j)) (ho:IsPair s.heap o c d)
 (hi:k.It s.heap i a m) (hj:l.It s.heap j b n) (ha:k.Is s.heap a xs) (hb:l.Is s.heap b ys) (hx:xs[m]? = none∨ys[n]? = none)
 (q:∀ h1,?al→Q none ?V) :
 wpAny ?D A (pyNext (.ref z)) Q E s:=by
 have hT:s.TypeIs (.ref z) "zip" := let ⟨_,_,h,_⟩:=hz;⟨_,h,rfl⟩;unfold pyNext
 refine n1_ (wpAny_attempt (wpAny_callSpecial?_slot (name:=Str.ofString "__next__") hT F.slot_zip_next (wpAny_call_entry F.slot_zip_next hT F.entry_zip_next
  (Zqi hh D hz ht ho hi hj ha hb hx fun h1 e r1 ⟨u,g,cu⟩=>?_) (F.args_zip_next_1 _))))
 exact n1_ (wpAny_isInstance (T := "StopIteration") (b:=true) ⟨u,g,cu⟩ isSubtype_stop (n6_ (q _ r1)))
end
end L2
namespace L2
open PySem PySem.Spec PyProof.Rows PySem.W
variable {a:Addr} {H H':Hp} {xs:List V} {p pos:Pos} {ta:TA}
theorem Same.sqT {K:PySem.W.Frag} (e:?H) (h:SqT K H a xs):SqT K H' a xs:=by
 rcases h with h|h
 · left
   rcases h with h|⟨o,h⟩
   · exact .inl (e _ _ h)
   · exact .inr ⟨o,e _ _ h⟩
 · exact .inr h
theorem Same.sk {k:SK} {K:PySem.W.Frag} (e:?H) (h:k.Sq K H a xs):k.Sq K H' a xs:=by
 cases k
 · exact e.seq h
 · exact e.sqT h
section
variable {X:Cx} {pins:?B} {σ:St} {H:Hp} {s:Shared}
structure ZRdy (X:Cx) (pins:?B) (k l:SK) (H:Hp) (h:Heap) (z t o i j a b:Addr):Prop where
 zp:ZP z t o i j a b
 zip:IsZip h z t o .none
 two:IsPair h t (.ref i) (.ref j)
 own:IsPair h o .none .none
 fst:k.It h i a 0
 snd:l.It h j b 0
 fpo:∀ c∈[z,t,o,i,j],FpOk X pins H c∧c<h.objs.size
theorem Zpf (k l:SK) {a b:Expr} (hg:Gl X "zip") (hm:X.mg "zip" = none) (ha:PA X [a,b] ta) {C:Addr→Addr→?w}
 (I:?s) (h:ta σ H fun vs H1=>∃ a b,vs=[.ref a,.ref b]∧(∃ xs,k.Sq X.K H1 a xs)∧(∃ ys,l.Sq X.K H1 b ys)∧C a b H1) (hs:starEach [a,b] X.env=[(false,eval a X.env),(false,eval b X.env)]:=by rfl) (hs2:starEach [b] X.env=[(false,eval b X.env)]:=by rfl) :
 wpAny ?A X.A (eval (.Call (.Name "zip" p) [a,b] [] pos) X.env) (fun v s'=>∃ z t o i j a b H1,v=.ref z∧Inv X pins σ H1 s'∧ZRdy X pins k l H1 s'.heap z t o i j a b∧C a b H1) X.xe s:=by
 refine wpAny_Call_Name_kw (Zcd I hg hm Zgy (n64_ (thn (ha pos pins s σ H _ I h) fun us s1 ⟨vs,H1,I1,r1,q1⟩=>?_) (by rw [hs,hs2]) (by rw [hs2];rfl)));obtain ⟨a,b,e,⟨xs,hx⟩,⟨ys,hy⟩,q⟩:=q1;subst e;obtain ⟨u,u',rfl,ru1,ru2⟩:=Zrw r1;cases ru1
 cases ru2
 obtain ⟨us,ru,pu⟩:=hx.is I1;obtain ⟨ws,rw',pw⟩:=hy.is I1;have la:a<s1.z:=by obtain ⟨_,_,e,_⟩:=pu.ex;exact n13_ e
 have lb:b<s1.z:=by obtain ⟨_,_,e,_⟩:=pw.ex;exact n13_ e
 refine Zjv pu pw fun h1 m1 m2 m3 m4 m5 m6 m7=>?_;refine ⟨_,_,_,_,_,a,b,H1,rfl,I1.kept (t':=s1.toks) m7,⟨Zqr la lb,m1,m2,m3,m4,m5,fun c hc=>⟨?_,?_⟩⟩,q⟩
 · refine I1.fps (fp:=[s1.z+4,s1.z+2,s1.z+3,s1.z,s1.z+1]) ?_ c hc;intro e he;simp only [n12_,n16_,or_false] at he
   rcases he with rfl|rfl|rfl|rfl|rfl<;>omega
 · show @LT.lt Nat _ c h1.objs.size
   rw [m6];simp only [n12_,n16_,or_false] at hc
   rcases hc with rfl|rfl|rfl|rfl|rfl<;>(show @LT.lt Nat _ _ _;omega)
end
end L2
namespace L2
open PySem PySem.Spec PyProof.Rows PySem.W
variable {Q:Value→?j}
section
variable {prog:Program} {w:World} {A:Around} {E:Value→?j} {s:Shared}
theorem Zh9 {x:Addr} {T:String} (hT:s.TypeIs (.ref x) T) (hne:(Value.type T != Value.type "dict")=true)
 (h:wpAny ?D A.in1.in1 (getAttr? (.ref x) "keys") (fun r s2=>r=none∧wpAny ?D A.in1.in1 (pyIter (.ref x)) (fun it s3=>codeAny ?D A.in1 (.builtin "dict.update.loop" ⟨[.ref s.z,it,rawInt 0,.none],[]⟩) (wants (fun r s₂=>r=.none∧Q (.ref s.z) s₂) E) s3) (fun _ _=>False) s2) (fun _ _=>False) { s with heap:=s.heap.push ?aj }) :
 wpAny ?D A (call (.type "dict") [.ref x]) Q E s:=by
 refine callType_codes (Q₁:=fun obj s₁=>obj=.ref s.z∧s₁={ s with heap:=s.heap.push ?aj }) F.kt_called_dict (F.kt_typeCall_dict_1 _) F.entry_dict_init (kt_code_dict_new _ ⟨rfl,rfl⟩) ?_;rintro obj s₁ ⟨rfl,rfl⟩
 have hd:({ s with heap:=s.heap.push ?aj }:Shared).TypeIs (.ref s.z) "dict" := ⟨_,n8_ _ rfl,rfl⟩
 have hT':({ s with heap:=s.heap.push ?aj }:Shared).TypeIs (.ref x) T:=by
  obtain ⟨o,e,c⟩:=hT;exact ⟨o,n2_ _ e,c⟩
 refine ⟨hd,F.args_dict_init_2 _ _,?_⟩;unfold Builtin.«dict.__init__»;refine n1_ ?_;unfold Builtin.Dict.selfAndRest;refine n1_ (wpAny_notOrdered_dict hd ?_);show wpAny _ _ (pure (s.z,[Value.ref x])) _ _ _
 refine n6_ ?_;show wpAny _ _ (Builtin.Dict.updateFrom "dict.__init__" s.z (.ref x) [] .none) _ _ _
 unfold Builtin.Dict.updateFrom;refine n1_ (wpAny_typeOf hT' ?_);rw [if_pos hne];refine n1_ (n56_ h (fun r s2 h2=>?_) fun _ _ z=>z.elim);obtain ⟨rfl,h2⟩:=h2;rw [if_pos (show (none:?C).isNone=true from rfl)];refine n1_ (wpAny_rule (n1_ (n56_ h2 (fun it s3 h3=>?_) fun _ _ z=>z.elim)));exact n6_ ⟨plainId_quiet Z6 _,h3⟩
end
section
variable {X:Cx}
theorem Zlx:bootBuiltins "dict" = some (.type "dict"):=?i
end
end L2
namespace L2
open PySem PySem.Spec PyProof.Rows PySem.W
variable {N:List Str}
theorem fsc {P:List Str} {sc:Scope} (h:sc.kind=.function∧sc.isCoroutine=false∧sc.isGenerator=false∧N.Nodup∧N.take P.length=P∧(∀ x∈P,sc.names.lookup x=some .local∨sc.names.lookup x=some .cell)∧∀ y∈sc.names,y.2≠.free):FnScope N P sc:=let ⟨a,b,c,d,e,f,g⟩:=h;⟨a,b,c,d,e,f,g⟩
end L2
namespace STb
open PySem
structure TW (bt:Bool) (t:SetTable):Prop where
 led:t.led = !bt
 ris:t.place.toList.Pairwise (·<·)
 dum:t.dummies=#[]
theorem Zk0 {l:?p} (h:l.Pairwise (·<·)) {i j x y:Nat} (hi:l[i]? = some x) (hj:l[j]? = some y) (hij:i<j):x<y:=by
 obtain ⟨h1,rfl⟩:=n22_.mp hi;obtain ⟨h2,rfl⟩:=n22_.mp hj;exact n84_.mp h i j h1 h2 hij
theorem Zgo {xs:Array Nat} {j:Nat} (hp:xs.toList.Pairwise (·<·)):∀ (fuel lo hi:Nat),hi-lo≤fuel→lo≤hi→hi≤xs.size→(∀ (i x:Nat),i<lo→xs.toList[i]? = some x→x<j)→(∀ (i x:Nat),hi≤i→xs.toList[i]? = some x→j≤x) →
 (∀ (i x:Nat),i<SetTable.below.go xs j fuel lo hi→xs.toList[i]? = some x→x<j)∧(∀ (i x:Nat),SetTable.below.go xs j fuel lo hi≤i→xs.toList[i]? = some x→j≤x)∧SetTable.below.go xs j fuel lo hi≤xs.size
 | 0,lo,hi,hf,hl,hz,h1,h2=>by
   have:hi=lo:=?d
   subst this;exact ⟨h1,h2,hz⟩
 | fuel+1,lo,hi,hf,hl,hz,h1,h2=>by
   unfold SetTable.below.go
   by_cases c:lo<hi
   · rw [if_pos c];have m1:(lo+hi)/2<hi:=?d
     have m2:lo≤(lo+hi)/2:=?d
     generalize (lo+hi)/2=mid at m1 m2;have hm:mid<xs.size:=?d
     have em:xs.toList[mid]? = some xs[mid]:=by rw [Array.getElem?_toList];exact Array.getElem?_eq_getElem hm
     have eg:xs.getD mid j=xs[mid]:=by simp [Array.getD,hm]
     dsimp only;rw [eg]
     by_cases c2:xs[mid]<j
     · rw [if_pos c2];refine Zgo hp fuel (mid+1) hi (?d) (?d) hz (fun i x hi' e=>?_) h2
       by_cases ci:i=mid
       · subst ci;rw [em] at e;cases e;exact c2
       · have:=Zk0 hp e em (?d);omega
     · rw [if_neg c2];refine Zgo hp fuel lo mid (?d) m2 (?d) h1 (fun i x hi' e=>?_)
       by_cases ci:i=mid
       · subst ci;rw [em] at e;cases e;omega
       · have:=Zk0 hp em e (?d);omega
   · rw [if_neg c]
     have:hi=lo:=?d
     subst this;exact ⟨h1,h2,hz⟩
theorem Zbj {xs:Array Nat} (j:Nat) (hp:xs.toList.Pairwise (·<·)):(∀ (i x:Nat),i<SetTable.below xs j→xs.toList[i]? = some x→x<j)∧(∀ (i x:Nat),SetTable.below xs j≤i→xs.toList[i]? = some x→j≤x)∧SetTable.below xs j≤xs.size :=
 Zgo hp xs.size 0 xs.size (?d) (?d) (n7_ _) (fun i x h=>absurd h (?d)) (fun i x h e=>by
  have:=(n22_.mp e).1
  rw [Array.length_toList] at this;omega)
theorem below_next {xs:Array Nat} (hp:xs.toList.Pairwise (·<·)) {k x:Nat} (e:xs.toList[k]? = some x):SetTable.below xs (x+1)=k+1:=by
 obtain ⟨h1,h2,h3⟩:=Zbj (x+1) hp;have lk:=(n22_.mp e).1;rw [Array.length_toList] at lk
 by_cases c:SetTable.below xs (x+1)≤k
 · have:=h2 k x c e;omega
 · by_cases c2:k+1<SetTable.below xs (x+1)
   · have lt:k+1<xs.toList.length:=by rw [Array.length_toList];omega
     have e2:xs.toList[k+1]? = some xs.toList[k+1]:=n0_ lt;have a:=h1 (k+1) _ c2 e2;have b:=Zk0 hp e e2 (?d);omega
   · omega
theorem below_zero {xs:Array Nat} (hp:xs.toList.Pairwise (·<·)):SetTable.below xs 0=0:=by
 obtain ⟨h1,h2,h3⟩:=Zbj 0 hp
 by_cases c:SetTable.below xs 0=0
 · exact c
 · have lt:0<xs.toList.length:=by rw [Array.length_toList];omega
   have:=h1 0 _ (?d) (n0_ lt)
   omega
theorem Zo3 {t:SetTable} {j:Nat} (hp:t.place.toList.Pairwise (·<·)) (h:t.slot j=.empty):j∉t.place.toList:=fun hm=>by
 obtain ⟨i,hi,e⟩:=n50_ hm;have e':t.place.toList[i]? = some j:=by rw [n0_ hi,e]
 obtain ⟨h1,h2,h3⟩:=Zbj j hp
 have c1:SetTable.below t.place j≤i:=by
  by_cases c:i<SetTable.below t.place j
  · have:=h1 i j c e';omega
  · omega
 have c2:SetTable.below t.place j=i:=by
  by_cases c:SetTable.below t.place j=i
  · exact c
  · have lt:SetTable.below t.place j<t.place.toList.length:=?d
    have e2:=n0_ lt;have a:=h2 _ _ (n7_ _) e2;have b:=Zk0 hp e2 e' (?d);omega
 have:t.place[SetTable.below t.place j]? = some j:=by rw [c2,← Array.getElem?_toList];exact e'
 unfold SetTable.slot at h;simp only [this,beq_self_eq_true,if_true] at h;cases h
theorem Zf4 {α:Type} (xs:Array α) (p:Nat) (x:α):(SetTable.insertAt xs p x).toList=xs.toList.take p++x :: xs.toList.drop p:=by
 unfold SetTable.insertAt;simp [Array.toList_extract,List.extract_eq_take_drop];exact n34_ ?f
theorem TW.put {bt:Bool} {t:SetTable} {j:Nat} (w:TW bt t) (h:t.slot j=.empty):TW bt (t.put j).1:=by
 obtain ⟨h1,h2,h3⟩:=Zbj j w.ris;have nj:=Zo3 w.ris h;refine ⟨w.led,?_,?_⟩
 · show (SetTable.insertAt t.place (SetTable.below t.place j) j).toList.Pairwise (·<·)
   rw [Zf4,List.pairwise_append];refine ⟨w.ris.sublist (List.take_sublist ..),List.pairwise_cons.mpr ⟨fun y hy=>?_,w.ris.sublist (List.drop_sublist ..)⟩,fun a ha b hb=>?_⟩
   · obtain ⟨i,hi,e⟩:=n50_ hy;rw [List.getElem_drop] at e;have e':t.place.toList[SetTable.below t.place j+i]? = some y:=by rw [← e];exact n0_ _
     have:=h2 _ _ (Nat.le_add_right _ _) e'
     have:y≠j:=fun z=>nj (z ▸ n17_ e')
     omega
   · obtain ⟨i,hi,e⟩:=n50_ ha;rw [n60_] at hi;rw [List.getElem_take] at e;have e':t.place.toList[i]? = some a:=by rw [← e];exact n0_ _
     have aj:=h1 i a (?d) e'
     rcases n12_.mp hb with rfl|hb
     · exact aj
     · obtain ⟨i2,hi2,e2⟩:=n50_ hb;rw [List.getElem_drop] at e2;have e2':t.place.toList[SetTable.below t.place j+i2]? = some b:=by rw [← e2];exact n0_ _
       have:=h2 _ _ (Nat.le_add_right _ _) e2'
       omega
 · have h2:SetTable.has t.dummies j=false:=by
    rw [w.dum];unfold SetTable.has;simp
   show (if SetTable.has t.dummies j=true then _ else t.dummies)=#[]
   rw [h2];exact w.dum
theorem TW.laid {bt:Bool} {mask finger moves:Nat} {led plain:Bool} {hs:Array Int} {t':SetTable} {order:Array Nat} (hl:led = !bt) (e:SetTable.laid mask finger moves led plain hs=some (t',order)):TW bt t':=by
 unfold SetTable.laid at e;cases q:SetTable.layClean mask hs with
 | none=>rw [q] at e;cases e
 | some owner =>
   rw [q] at e;have e:=Option.some.inj e;have e1:=(Prod.mk.inj e).1;rw [← e1];refine ⟨hl,?_,rfl⟩;show (List.map (·.1) (List.filterMap (fun j=>(owner.getD j none).map (j,·)) (List.range (mask+1)))).Pairwise (·<·)
   rw [List.map_filterMap];refine List.Pairwise.filterMap _ (fun a b hab x hx y hy=>?_) List.pairwise_lt_range
   have ex:x=a:=by
    cases z:owner.getD a none with
    | none=>simp [z] at hx
    | some i=>simp [z] at hx;exact hx.symm
   have ey:y=b:=by
    cases z:owner.getD b none with
    | none=>simp [z] at hy
    | some i=>simp [z] at hy;exact hy.symm
   rw [ex,ey];exact hab
end STb
namespace STb
open PySem
def vals (owner:Array (Option Nat)):?p:=owner.toList.filterMap id
theorem Zgj (n:Nat):∀ (l:List (Option Nat)) (j:Nat),l[j]? = some none→((l.set j (some n)).filterMap id).Perm (n :: l.filterMap id)
 | [],j,h=>by simp at h
 | z :: l,0,h=>by
   have:z=none:=by simpa using h
   subst this;exact .refl _
 | none :: l,j+1,h=>Zgj n l j (by simpa using h)
 | some k :: l,j+1,h=>((Zgj n l j (by simpa using h)).cons k).trans (.swap ..)
theorem Zpg {owner:Array (Option Nat)} {j n:Nat} (h:owner[j]? = some none):(vals (owner.setIfInBounds j (some n))).Perm (n :: vals owner):=by
 unfold vals;rw [Array.toList_setIfInBounds];exact Zgj n _ j (by simpa using h)
theorem Zh5 {M:Nat} (hm:masks M):∀ (hs:?g) (n:Nat) (owner:Array (Option Nat)),Own M n owner→(vals owner).Perm (List.range n)→n+hs.length<M+1→∃ owner',hs.foldl (Zek M) (some (owner,n))=some (owner',n+hs.length)∧Own M (n+hs.length) owner'∧(vals owner').Perm (List.range (n+hs.length))
 | [],n,owner,o,p,_=>⟨owner,rfl,o,p⟩
 | h :: hs,n,owner,o,p,hl=>by
   rw [n29_] at hl;obtain ⟨j,r1,r2⟩:=o.free hm (?d) h
   have e:Zek M (some (owner,n)) h=some (owner.setIfInBounds j (some n),n+1):=by
    unfold Zek;show (SetTable.layClean.free M owner (SetTable.turns M) (SetTable.bits h % (M+1)) (SetTable.bits h)).bind _=_
    rw [r1];rfl
   have p2:(vals (owner.setIfInBounds j (some n))).Perm (List.range (n+1)):=by
    rw [List.range_succ];exact (Zpg r2).trans ((p.cons n).trans (List.perm_append_singleton n _).symm)
   obtain ⟨owner',e2,o2,p3⟩:=Zh5 hm hs (n+1) _ (o.put r2) p2 (?d);refine ⟨owner',?_,?_,?_⟩
   · rw [List.foldl_cons,e,e2,n29_];congr 2;omega
   · rw [n29_,show n+(hs.length+1)=n+1+hs.length by omega];exact o2
   · rw [n29_,show n+(hs.length+1)=n+1+hs.length by omega];exact p3
theorem Zcc {M:Nat} (hm:masks M) (hs:Array Int) (hl:hs.size<M+1):∃ owner,SetTable.layClean M hs=some owner∧Own M hs.size owner∧(vals owner).Perm (List.range hs.size):=by
 obtain ⟨owner,e,o,p⟩:=Zh5 hm hs.toList 0 _ (own0 M) (by
  unfold vals;rw [Array.toList_replicate,List.filterMap_eq_nil_iff.mpr fun x hx=>by rw [List.eq_of_mem_replicate hx];rfl];exact .refl _) (by simpa using hl)
 refine ⟨owner,?_,by simpa using o,by simpa using p⟩;unfold SetTable.layClean;rw [← Array.foldl_toList]
 have:(hs.toList.foldl (Zek M) (some (Array.replicate (M+1) none,0)))=some (owner,0+hs.toList.length):=e
 show (List.foldl (Zek M) (some (Array.replicate (M+1) none,0)) hs.toList).map (·.1)=some owner
 rw [this];rfl
theorem Zgx {M n:Nat} {owner:Array (Option Nat)} (o:Own M n owner):(List.map (·.2) (?ao))=vals owner:=by
 have e2:owner.toList=(List.range owner.size).map (fun j=>owner.getD j none):=by
  refine n91_ ?f fun i h1 h2=>?_;have hi:i<owner.size:=by simpa using h1
  simp [Array.getD,hi]
 unfold vals;rw [e2,o.size,List.filterMap_map,List.map_filterMap];refine congrArg (fun f=>List.filterMap f (List.range (M+1))) (funext fun j=>?_);show Option.map (·.2) ((owner.getD j none).map (j,·))=owner.getD j none
 cases owner.getD j none<;>rfl
theorem relaid_perm {t:SetTable} {hs:Array Int} {wanted M:Nat} (hM:SetTable.sizeAbove wanted-1=M) (hm:masks M) (hl:hs.size<M+1):∃ (t':SetTable) (order:Array Nat),t.relaid hs wanted=some (t',order)∧t'.mask=M∧t'.dummies=#[]∧t'.place.size=hs.size∧t'.plain=t.plain∧order.toList.Perm (List.range hs.size):=by
 obtain ⟨owner,e,o,p⟩:=Zcc hm hs hl;unfold SetTable.relaid SetTable.laid;rw [hM,e];refine ⟨_,_,rfl,rfl,rfl,?_,rfl,?_⟩
 · simp only [n11_,n3_];exact Zkd o
 · show (List.map (·.2) (?ao)).Perm _
   rw [Zgx o];exact p
structure TP (bt:Bool) (n:Nat) (t:SetTable):Prop where
 tw:TW bt t
 pl:t.plain=true
 msk:masks t.mask
 sz:t.place.size=n
 few:n*5<t.mask*3
theorem Zir {t:SetTable} {n:Nat} (sz:t.place.size=n) (dum:t.dummies=#[]) (h:n≤t.mask):t.fits n=true:=by
 unfold SetTable.fits SetTable.fill;rw [dum,sz]
 simp
 exact h
theorem TP.fits {bt:Bool} {n:Nat} {t:SetTable} (w:TP bt n t):t.fits n=true:=Zir w.sz w.tw.dum (by have:=w.few;omega)
theorem TP.fresh (bt:Bool):TP bt 0 (.fresh 0 0 (!bt)):=⟨⟨rfl,.nil,rfl⟩,rfl,.inl rfl,rfl,show 0*5<7*3 by decide⟩
theorem Zfr {t:SetTable} {F:Nat→Int} {h:Int} (hF:∀ i,(F i == h)=false) (hd:t.dummies=#[]):∀ (fuel:Nat) (p:SetTable.Probe) {j i:Nat} {q:SetTable.Probe},SetTable.probe.go t F h fuel p≠some (.candidate j i q)
 | 0,p,j,i,q=>by intro e;cases e
 | fuel+1,p,j,i,q=>by
   intro e;unfold SetTable.probe.go at e
   rcases Zfq (t:=t) (j:=p.j) hd with z|⟨i',z,_⟩
   · rw [z] at e;cases e
   · rw [z] at e;simp only [hF,n39_,if_false] at e;exact Zfr hF hd fuel _ e
theorem TP.free {bt:Bool} {n:Nat} {t:SetTable} (w:TP bt n t) (h:Int):∃ j,t.freeSlot h=some (j,false)∧t.slot j=.empty:=by
 have lt:t.place.size<t.mask+1:=by rw [w.sz];have:=w.few;omega
 rcases Znq (t:=t) (f:=fun _=>h+1) (h:=h) w.tw.dum (10*(t.mask+13)) (10*SetTable.turns t.mask) (t.probeStart h) rfl (Zls w.msk w.tw.dum lt) (by unfold SetTable.turns;omega) with ⟨j,e,z⟩|⟨j,i,q,e,_⟩
 · refine ⟨j,?_,z⟩;unfold SetTable.freeSlot SetTable.probe;rw [e];rfl
 · exact absurd e (Zfr (fun i=>by simp;omega) w.tw.dum _ _)
theorem TP.layNew {bt:Bool} {t:SetTable} {es:?aa} (w:TP bt es.size t) (h:Int) (x:Value):∃ es1 t1,PySem.layNew t es h x=(es1,t1,false,false)∧TW bt t1∧t1.plain=true∧t1.mask=t.mask∧t1.place.size=es.size+1:=by
 obtain ⟨j,e,z⟩:=w.free h;obtain ⟨u1,u2,u3⟩:=L2.Zmo t j;have few:=w.few
 have fit:((t.put j).1).fits (SetTable.insertAt es (t.put j).2 (h,x)).size=true:=by
  rw [insertAt_size];exact Zir (by rw [u1,w.sz]) (u2 w.tw.dum) (by rw [u3];omega)
 refine ⟨SetTable.insertAt es (t.put j).2 (h,x),(t.put j).1,?_,w.tw.put z,w.pl,u3,by rw [u1,w.sz]⟩;unfold PySem.layNew;rw [e];show (SetTable.insertAt es (t.put j).2 (h,x),SetTable.orStandIn (t.put j).1 (SetTable.insertAt es (t.put j).2 (h,x)).size,false,!((t.put j).1).fits (SetTable.insertAt es (t.put j).2 (h,x)).size)=_
 rw [fit];unfold SetTable.orStandIn;rw [if_pos fit];rfl
theorem relay_TP {bt:Bool} {t:SetTable} {es:?aa} (w:TW bt t) (pl:t.plain=true) (msk:masks t.mask) (sz:t.place.size=es.size) (hn:es.size≤30) (full:es.size*5 ≥ t.mask*3) (h2:(es.size-1)*5<t.mask*3):TP bt es.size (PySem.relayAll t es (SetTable.grown es.size)).2.1:=by
 obtain ⟨g1,g2,g3,_⟩:=L2.Zte hn msk full h2;have z:(es.map (·.1)).size=es.size:=by simp
 obtain ⟨t',order,e,r1,r2,r3,r4,r5⟩:=relaid_perm (t:=t) (hs:=es.map (·.1)) (wanted:=SetTable.grown es.size) rfl g1 (by rw [z];exact g2);rw [z] at r3 r5;have os:order.size=es.size:=by rw [← Array.length_toList,r5.length_eq,n69_]
 have ok:∀ k∈order.toList,k<es.size:=fun k hk=>n32_.mp (r5.mem_iff.mp hk);have ps:=(pick_size os ok).1
 have cov:coversAll order es.size=true:=by
  unfold coversAll;exact List.isPerm_iff.mpr r5
 have fit:t'.fits (order.filterMap (es[·]?)).size=true:=by
  rw [ps];exact Zir r3 r2 (by rw [r1];omega)
 unfold PySem.relayAll;rw [e];dsimp only;rw [cov,fit];simp only [Bool.and_self,if_true];refine ⟨?_,by rw [r4,pl],by rw [r1];exact g1,r3,by rw [r1];exact g3⟩;exact TW.laid w.led e
end STb
namespace L2
open PySem PySem.Spec PyProof.Rows
noncomputable def Z3 (w:World):Bool:=w.params.followText "set-order"
structure IsW (bt:Bool) (ks:?g) (es:?aa) (t:SetTable):Prop where
 el:∀ e∈es.toList,(∃ k,Value.isInt k e.2=true∧e.1=hashInt k)∧e.2.scannable=true
 ns:∃ ns,IntsAre (es.toList.map (·.2)) ns∧ns.Perm ks
 nd:ks.Nodup
 tw:STb.TP bt es.size t
def SetI (bt:Bool) (h:Heap) (a:Addr) (ks:?g):Prop:=∃ o es ep t,h.get? a=some o∧o.ExactSet∧o.data=.set es ep t∧es.size<scanBound∧IsW bt ks es t
def setI (bt:Bool) (a:Addr) (ks:?g):HO:=.ext fun h=>SetI bt h a ks
variable {α:Type} {S a l:Addr} {es:?aa} {items:?L} {bt:Bool} {X:Cx} {h h':Heap} {H:Hp} {ks ns:?g} {us:?t} {ep i n:Nat} {o:Obj} {P:Program} {s:Shared} {Q:Value→?j} {w:World}
theorem SetI.stay (h1 h2:Heap) (s:SetI bt h1 a ks) (e:∀ o,h1.get? a=some o→h2.get? a=some o):SetI bt h2 a ks:=let ⟨o,es,ep,t,g,r⟩:=s;⟨o,es,ep,t,e _ g,r⟩
theorem Zjr (s:SetI bt h a ks):ObjOk P w H h a (setI bt a ks):=⟨s,let ⟨o,_,_,_,g,_⟩:=s;⟨o,g⟩,fun h1 h2 x e=>SetI.stay h1 h2 x e⟩
theorem Zjb (x:ObjOk P w H h a (setI bt a ks)):SetI bt h a ks:=x.1
theorem Zkv:∀ {vs:?t} {ns:?g} {k:Int},IntsAre vs ns→(k∈ns↔∃ v∈vs,Value.isInt k v=true)
 | _,_,k,.nil=>by simp
 | _,_,k,.cons n t r=>by
   rw [n12_,Zkv r];constructor
   · rintro (rfl|⟨v,hv,e⟩)
     · exact ⟨_,n20_,by simp [Value.isInt]⟩
     · exact ⟨v,n15_ _ hv,e⟩
   · rintro ⟨v,hv,e⟩
     rcases n12_.mp hv with rfl|hv
     · left;exact (show n=k by simpa [Value.isInt] using e).symm
     · exact .inr ⟨v,hv,e⟩
theorem Zj4:∀ {vs us:?t} {ns ms:?g},IntsAre vs ns→IntsAre us ms→IntsAre (vs++us) (ns++ms)
 | _,_,_,_,.nil,h=>h
 | _,_,_,_,.cons n t r,h=>.cons n t (Zj4 r h)
theorem Zdq:∀ {vs:?t} {ns:?g},IntsAre vs ns→vs.length=ns.length
 | _,_,.nil=>rfl
 | _,_,.cons n t r=>by simp [Zdq r]
theorem Zb3 {vs:?t} (p:List.Perm us vs):∀ {ns:?g},IntsAre vs ns→∃ ms,IntsAre us ms∧ms.Perm ns:=by
 induction p with
 | nil=>intro ns h;exact ⟨ns,h,.refl _⟩
 | cons x _ ih=>intro ns h;cases h with|cons n t r=>obtain ⟨ms,a,b⟩:=ih r;exact ⟨n :: ms,.cons n t a,.cons _ b⟩
 | swap x y l=>intro ns h;cases h with|cons n t r=>cases r with|cons m u r=>exact ⟨m :: n :: _,.cons m u (.cons n t r),.swap ..⟩
 | trans p1 p2 ih1 ih2=>intro ns h;obtain ⟨ms,a,b⟩:=ih2 h;obtain ⟨ks,c,d⟩:=ih1 a;exact ⟨ks,c,d.trans b⟩
theorem IsW.len {t:SetTable} (i:IsW bt ks es t):es.size=ks.length:=by
 obtain ⟨ns,a,p⟩:=i.ns
 have:=Zdq a
 rw [n3_,Array.length_toList] at this;rw [this,p.length_eq]
theorem IsW.mem {t:SetTable} (i:IsW bt ks es t) (k:Int):k∈ks↔∃ e∈es.toList,Value.isInt k e.2=true:=by
 obtain ⟨ns,a,p⟩:=i.ns;rw [← p.mem_iff,Zkv a];exact ⟨fun ⟨v,hv,e⟩=>let ⟨x,hx,ex⟩:=n21_.mp hv;⟨x,hx,by rw [ex];exact e⟩,fun ⟨x,hx,e⟩=>⟨x.2,n21_.mpr ⟨x,hx,rfl⟩,e⟩⟩
def addI (ks:?g) (k:Int):?g:=if k∈ks then ks else ks++[k]
section
variable {P:Program} {w:World} {bt:Bool} {A:Around} {E:Value→?j} {s:Shared}
theorem SetI.store {es':?aa} {t t':SetTable} (get:h.get? a=some o) (ex:o.ExactSet) (dat:o.data=.set es ep t) (hb:es'.size<scanBound) (i:IsW bt ks es' t') :
 (h.update a (Obj.putSet es' t')).get? a=some { o with data:=.set es' (ep+1) t' }∧SetI bt (h.update a (Obj.putSet es' t')) a ks:=by
 have hg:(h.update a (Obj.putSet es' t')).get? a=some { o with data:=.set es' (ep+1) t' }:=by
  have:=n65_ (Obj.putSet es' t') get (by rw [putSet_of es' t' dat];rfl)
  rw [putSet_of es' t' dat] at this;exact this
 exact ⟨hg,_,_,_,_,hg,ex,rfl,hb,i⟩
theorem Zpl {g:Bool→Sem Unit} (hg:∀ (b:Bool) (s₁:Shared) (Q':Unit→?j),Q' () s₁→wpAny (model P w) A (g b) Q' E s₁)
 {t:SetTable} (ho:s.heap.get? a=some o) (hex:o.ExactSet) (hd:o.data=.set es ep t)
 {es1:?aa} {t2:SetTable} (el:ElemsOf (intKind P w) es1.toList) (ns:∃ ns,IntsAre (es1.toList.map (·.2)) ns∧ns.Perm ks) (nd:ks.Nodup)
 (tw:STb.TW bt t2) (pl:t2.plain=true) (msk:STb.masks t2.mask) (sz:t2.place.size=es1.size) (hn:es1.size≤30) (h2:(es1.size-1)*5<t2.mask*3) {R:Option Bool→?j}
 (h:∀ h',Heap.SameBut a s.heap h'→SetI bt h' a ks→R (some true) ?T) :
 wpAny (model P w) A (do
  storeSet a es1 t2
  if (!false&&t2.tooFull)=true then do
      g (relayAll t2 es1 (SetTable.grown es1.size)).2.2
      storeSet a (relayAll t2 es1 (SetTable.grown es1.size)).1 (relayAll t2 es1 (SetTable.grown es1.size)).2.1
      pure (some true)
   else pure (some true)) R E s:=by
 have hb1:es1.size<scanBound:=n14_ hn ?e
 have full:t2.tooFull=decide (es1.size*5 ≥ t2.mask*3):=by
  unfold SetTable.tooFull SetTable.fill;rw [tw.dum,sz];rfl
 refine n1_ (wpAny_storeSet_of ho hd ?_ (fits_of_scanBound hb1));have hsb1:=Heap.SameBut.update s.heap a (Obj.putSet es1 t2)
 have ho1:(s.heap.update a (Obj.putSet es1 t2)).get? a=some { o with data:=.set es1 (ep+1) t2 }:=by
  have:=n65_ (Obj.putSet es1 t2) ho (by rw [putSet_of es1 t2 hd];rfl)
  rw [putSet_of es1 t2 hd] at this;exact this
 by_cases hf:es1.size*5 ≥ t2.mask*3
 · rw [full,n44_ hf];simp only [Bool.not_false,Bool.true_and,if_true];have hp:=relayAll_perm t2 es1 (SetTable.grown es1.size);have htw:=STb.relay_TP (es:=es1) tw pl msk sz hn hf h2;generalize hRl:relayAll t2 es1 (SetTable.grown es1.size)=Rl at hp htw ⊢;obtain ⟨es2,t3,gave2⟩:=Rl;dsimp only at hp htw ⊢;have hsz:es2.size=es1.size:=by rw [← Array.length_toList,hp.length_eq,Array.length_toList]
   have hb2:es2.size<scanBound:=by rw [hsz];exact hb1
   have i2:IsW bt ks es2 t3:=by
    obtain ⟨ns,x,y⟩:=ns;obtain ⟨ms,x',y'⟩:=Zb3 (hp.map (·.2)) x;exact ⟨el.perm hp,⟨ms,x',y'.trans y⟩,nd,by rw [hsz];exact htw⟩
   refine n1_ (hg _ _ _ ?_);refine n1_ (wpAny_storeSet_of ho1 rfl ?_ (fits_of_scanBound hb2));obtain ⟨_,hS2⟩:=SetI.store ho1 hex rfl hb2 i2;exact n6_ (h _ (hsb1.trans (Heap.SameBut.update _ a _)) hS2)
 · rw [full,n35_ hf];simp only [Bool.not_false,Bool.true_and,n39_,if_false];exact n6_ (h _ hsb1 ⟨_,_,_,_,ho1,hex,rfl,hb1,el,ns,nd,tw,pl,msk,sz,?d⟩)
theorem Zfc {k:Int} {u:Tok} {Q:Bool→?j} (hS:SetI bt s.heap a ks) (hroom:ks.length<30)
 (h:∀ b h',Heap.SameBut a s.heap h'→SetI bt h' a (addI ks k)→Q b ?T) :
 wpAny (model P w) A (setAddHashed a (.int k u) (hashInt k)) Q E s:=by
 obtain ⟨o,es,ep,t,ho,hex,hd,hb,i⟩:=hS;have hkey:(intKind P w).is k (.int k u)=true:=intKind_is _ _ _ _;have hlen:=i.len;unfold setAddHashed setAddHashedIn;refine n38_ (n1_ (wpAny_setState_of ho hd i.tw.fits ?_));dsimp only;rw [byScan_of (knd:=intKind P w) rfl hb (show ElemsOf (intKind P w) es.toList from i.el)];simp only [↓reduceIte];unfold setAddByScan;refine n1_ ?_;refine n1_ (wpAny_rule ?_);refine n1_ (wpAny_setScan_of (knd:=intKind P w) hkey ho hd i.tw.fits (show ElemsOf (intKind P w) es.toList from i.el) ?_);cases hr:List.findIdx? (fun e=>(intKind P w).is k e.2) es.toList with
 | some j =>
   dsimp only;obtain ⟨hj,hpj,_⟩:=List.findIdx?_eq_some_iff_getElem.mp hr;have hk:k∈ks:=(i.mem k).mpr ⟨es.toList[j],n24_ hj,hpj⟩;refine n6_ (n6_ ?_)
   have:=h false s.heap (Heap.SameBut.refl a s.heap) ⟨o,es,ep,t,ho,hex,hd,hb,by rw [addI,if_pos hk];exact i⟩
   have e:s={ s with heap:=s.heap }:=by cases s;rfl
   rw [e];exact this
 | none =>
   dsimp only
   have hk:k∉ks:=fun z=>by
    obtain ⟨e,he,hp⟩:=(i.mem k).mp z
    have:=List.findIdx?_eq_none_iff.mp hr e he
    rw [show (intKind P w).is k e.2=true from hp] at this;cases this
   have hperm:=layNew_perm t es (hashInt k) (.int k u);obtain ⟨es1,t1,hL,htw,hpl,hmk,hsz⟩:=i.tw.layNew (hashInt k) (.int k u);rw [hL] at hperm ⊢;dsimp only at hperm ⊢;rw [Array.toList_push] at hperm;have hel1:ElemsOf (intKind P w) es1.toList:=((show ElemsOf (intKind P w) es.toList from i.el).push hkey rfl).perm hperm;have hsz1:es1.size=es.size+1:=by rw [← Array.length_toList,hperm.length_eq,n33_,Array.length_toList];rfl
   have hns:∃ ns,IntsAre (es1.toList.map (·.2)) ns∧ns.Perm (addI ks k):=by
    obtain ⟨ns,x,y⟩:=i.ns
    have z:IntsAre ((es.toList++[(hashInt k,Value.int k u)]).map (·.2)) (ns++[k]):=by
     rw [n62_];exact Zj4 x (.cons k u .nil)
    obtain ⟨ms,x',y'⟩:=Zb3 (hperm.map (·.2)) z;exact ⟨ms,x',y'.trans (by rw [addI,if_neg hk];exact y.append_right _)⟩
   have hnd:(addI ks k).Nodup:=by
    rw [addI,if_neg hk,List.nodup_append];exact ⟨i.nd,by simp,fun a ha b hb=>by rw [n18_.mp hb];exact fun z=>hk (z ▸ ha)⟩
   have few:=i.tw.few;refine n1_ (n6_ ?_);rw [hpl];simp only [↓reduceIte];refine n1_ ?_;rw [hashByValue_scannable 8 rfl];refine n6_ ?_;refine Zpl ?_ ho hex hd hel1 hns hnd htw hpl (by rw [hmk];exact i.tw.msk) (by rw [hsz,hsz1]) (?d) (by rw [hmk,hsz1];simpa using few) ?_
   · intro b s₁ Q' hq;cases b<;>first|exact n6_ hq|exact wpAny_rule hq
   · intro h' hsb hS';dsimp only;exact n6_ (h _ h' hsb hS')
theorem Zsg
 (h:∀ o0,SetI (Z3 w) (s.heap.push o0) s.z []→Q (.ref s.z) { s with heap:=s.heap.push o0 }):wpAny (model P w) A (newSet (.type "set")) Q E s:=by
 unfold newSet setsByText;refine n1_ (n1_ (wpAny_askSetting (n6_ ?_)));dsimp only;simp only [newObj];exact n1_ (wpAny_alloc (n6_ (h _ ⟨_,#[],0,_,n8_ _ rfl,⟨rfl,rfl,rfl⟩,rfl,?k,fun e he=>by simp at he,⟨[],.nil,.refl _⟩,.nil,STb.TP.fresh _⟩)))
end
theorem Zaf:∀ {l:List α} {i:Nat} (h:i<l.length),(l[i] :: l.eraseIdx i).Perm l
 | x :: l,0,h=>.refl _
 | x :: l,i+1,h=>(List.Perm.swap ..).trans ((Zaf (l:=l) (i:=i) (by simpa using h)).cons x)
theorem Zoq (next:Nat→Nat):∀ (fuel k:Nat) (left:List α) (out:Array α),left.length=fuel→(pickOrder.go next fuel k left out).toList.Perm (out.toList++left)
 | 0,k,left,out,h=>by
   have:left=[]:=List.eq_nil_of_length_eq_zero h
   subst this;unfold pickOrder.go
   simp
 | fuel+1,k,left,out,h=>by
   have hp:0<left.length:=?d
   have hi:next k % left.length<left.length:=Nat.mod_lt _ hp
   unfold pickOrder.go;rw [n0_ hi];dsimp only;refine (Zoq next fuel (k+1) _ _ (by rw [List.length_eraseIdx_of_lt hi];omega)).trans ?_;rw [Array.toList_push,List.append_assoc];exact List.Perm.append_left _ (Zaf hi)
theorem Zd8 (next:Nat→Nat) (xs:Array α):(pickOrder next xs).toList.Perm xs.toList:=by
 have:=Zoq next xs.size 0 xs.toList #[] ?f
 simpa [pickOrder] using this
def Za0 (w:World) (S:Addr) (ep:Nat) (es:?aa):?t:=(if Z3 w=true then (pickOrder (w.params.setOrder S ep) es).toList else es.toList).map (·.2)
theorem Zid (w:World) (S:Addr) (ep:Nat) (es:?aa):(Za0 w S ep es).Perm (es.toList.map (·.2)):=by
 unfold Za0;split
 · exact (Zd8 _ es).map _
 · exact .refl _
def X6 (w:World) (t:SetTable):Nat→Nat
 | 0=>0
 | i+1=>if Z3 w=true then 0 else t.place.getD i 0+1
theorem Ziz {t:SetTable} (h:Z3 w=true):∀ i,X6 w t i=0
 | 0=>rfl
 | i+1=>if_pos h
structure SetAt (w:World) (h:Heap) (S:Addr) (es:?aa) (ep:Nat) (t:SetTable):Prop where
 get:∃ o,h.get? S=some o∧o.ExactSet∧o.data=.set es ep t
 tp:STb.TP (Z3 w) es.size t
theorem SetAt.stay {t:SetTable} (x:SetAt w h S es ep t) (e:∀ o,h.get? S=some o→h'.get? S=some o):SetAt w h' S es ep t:=⟨let ⟨o,a,b⟩:=x.get;⟨o,e _ a,b⟩,x.tp⟩
section
variable {P:Program} {w:World} {A:Around} {E:Value→?j} {s:Shared}
theorem Zah {Q:Bool→?j} (h:Q (Z3 w) s):wpAny (model P w) A setsByText Q E s:=n1_ (wpAny_askSetting (n6_ h))
theorem Zba {t:SetTable} {Q:?aa→?j} (x:SetAt w s.heap S es ep t) (ht:Z3 w=true) (h:Q (pickOrder (w.params.setOrder S ep) es) s):wpAny (model P w) A (setWalk S) Q E s:=by
 obtain ⟨o,g,ex,d⟩:=x.get;unfold setWalk;refine n1_ (wpAny_setState_of g d x.tp.fits ?_);dsimp only;refine n1_ (Zah ?_);rw [ht];simp only [if_true];exact n1_ (wpAny_askSetting (n6_ h))
theorem Znj {t:SetTable} {v:Value} {Q:Option (Value×Nat)→?j} (x:SetAt w s.heap S es ep t) (hv:(Za0 w S ep es)[i]? = some v) (h:Q (some (v,X6 w t (i+1))) s) :
 wpAny (model P w) A (setNext S (X6 w t i) i ep) Q E s:=by
 obtain ⟨o,g,ex,d⟩:=id x.get;unfold setNext;refine n1_ (wpAny_setState_of g d x.tp.fits ?_);dsimp only;refine n1_ (Zah ?_);cases ht:Z3 w with
 | true =>
   simp only [if_true];rw [if_neg ?f];refine n1_ (Zba x ht (n6_ ?_));unfold Za0 at hv;rw [if_pos ht,n5_,Array.getElem?_toList] at hv;cases q:(pickOrder (w.params.setOrder S ep) es)[i]? with
   | none=>rw [q] at hv;cases hv
   | some e =>
     rw [q] at hv;have hv:e.2=v:=by simpa using hv
     rw [Ziz ht] at h ⊢;show Q (some (e.2,0)) s
     rw [hv];exact h
 | false =>
   simp only [n39_,if_false];rw [if_neg (by show ¬ ((!t.plain&&decide (es.size>1))=true);rw [x.tp.pl];simp)];have led:t.led=true:=by rw [x.tp.tw.led,ht];rfl
   refine n1_ ?_;show wpAny _ _ (if (!t.led&&!es.isEmpty)=true then _ else _) _ _ _
   rw [if_neg (by rw [led];simp)];refine n6_ (n6_ ?_)
   have hv':es[i]? = some (es.getD i default)∧(es.getD i default).2=v:=by
    unfold Za0 at hv;rw [if_neg (by rw [ht];decide),n5_,Array.getElem?_toList] at hv;cases q:es[i]? with
    | none=>rw [q] at hv;cases hv
    | some e =>
      rw [q] at hv
      have:es.getD i default=e:=by rw [Array.getD_eq_getD_getElem?,q];rfl
      rw [this];exact ⟨rfl,by simpa using hv⟩
   have hi:i<t.place.size:=by
    rw [x.tp.sz];exact (Array.getElem?_eq_some_iff.mp hv'.1).1
   have ej:t.place[i]? = some (t.place.getD i 0):=by rw [Array.getD_eq_getD_getElem?,Array.getElem?_eq_getElem hi];rfl
   have eb:SetTable.below t.place (X6 w t i)=i:=by
    cases i with
    | zero=>exact STb.below_zero x.tp.tw.ris
    | succ k =>
      show SetTable.below t.place (if Z3 w=true then 0 else t.place.getD k 0+1)=k+1
      rw [if_neg (by rw [ht];decide)];have hk:k<t.place.size:=?d
      refine STb.below_next x.tp.tw.ris ?_;rw [Array.getElem?_toList,Array.getD_eq_getD_getElem?,Array.getElem?_eq_getElem hk];rfl
   rw [eb,hv'.1,ej];show Q (some ((es.getD i default).2,t.place.getD i 0+1)) s
   rw [hv'.2]
   have:X6 w t (i+1)=t.place.getD i 0+1:=if_neg (by rw [ht];decide)
   rw [this] at h;exact h
theorem Zp6 {t:SetTable} {Q:Option (Value×Nat)→?j} (x:SetAt w s.heap S es ep t) (h:Q none s) :
 wpAny (model P w) A (setNext S (X6 w t es.size) es.size ep) Q E s:=by
 obtain ⟨o,g,ex,d⟩:=id x.get;unfold setNext;refine n1_ (wpAny_setState_of g d x.tp.fits ?_);dsimp only;refine n1_ (Zah ?_);cases ht:Z3 w with
 | true =>
   simp only [if_true];rw [if_neg ?f];refine n1_ (Zba x ht (n6_ ?_))
   have:(pickOrder (w.params.setOrder S ep) es)[es.size]? = none:=by
    refine Array.getElem?_eq_none ?_
    have:=(Zd8 (w.params.setOrder S ep) es).length_eq
    rw [Array.length_toList,Array.length_toList] at this;omega
   rw [this];exact h
 | false =>
   simp only [n39_,if_false];rw [if_neg (by show ¬ ((!t.plain&&decide (es.size>1))=true);rw [x.tp.pl];simp)];have led:t.led=true:=by rw [x.tp.tw.led,ht];rfl
   refine n1_ ?_;show wpAny _ _ (if (!t.led&&!es.isEmpty)=true then _ else _) _ _ _
   rw [if_neg (by rw [led];simp)];refine n6_ (n6_ ?_)
   have eb:es[SetTable.below t.place (X6 w t es.size)]? = none:=by
    have:SetTable.below t.place (X6 w t es.size)=es.size:=by
     have sz:=x.tp.sz;cases q:es.size with
     | zero=>exact STb.below_zero x.tp.tw.ris
     | succ k =>
       show SetTable.below t.place (if Z3 w=true then 0 else t.place.getD k 0+1)=k+1
       rw [if_neg (by rw [ht];decide)];have hk:k<t.place.size:=?d
       refine STb.below_next x.tp.tw.ris ?_;rw [Array.getElem?_toList,Array.getD_eq_getD_getElem?,Array.getElem?_eq_getElem hk];rfl
    rw [this];exact Array.getElem?_eq_none (n7_ _)
   rw [eb];exact h
end
def IsSetIter (h:Heap) (I S:Addr) (n ep slot i:Nat):Prop:=∃ o,h.get? I=some o∧o.cls=.type "set_iterator" ∧ o.data=.fields #[.int slot 0,.int i 0,.ref S,.int n 0,.int ep 0]
theorem IsSetIter.typeIs {I:Addr} {slot:Nat} (x:IsSetIter s.heap I S n ep slot i):s.TypeIs (.ref I) "set_iterator" := let ⟨o,a,b,_⟩:=x;⟨o,a,b⟩
theorem IsSetIter.stay {I:Addr} {slot:Nat} (x:IsSetIter h I S n ep slot i) (e:∀ o,h.get? I=some o→h'.get? I=some o):IsSetIter h' I S n ep slot i:=let ⟨o,a,r⟩:=x;⟨o,e _ a,r⟩
theorem Zc8:Slot "set" "__iter__" "set.__iter__" :=
 .of (owner := "set") (n := "__iter__") (by rw [typeLookup_type,builtinLookup_eq_fast];kernel_rfl) (?i) (?i) (?i)
  (by first|exact .inl (?i)|exact .inr (?i)) (by rw [isSubtype_type];kernel_rfl)
theorem Y2:Slot "set_iterator" "__next__" "set_iterator.__next__" :=
 .of (owner := "set_iterator") (n := "__next__") (by rw [typeLookup_type,builtinLookup_eq_fast];kernel_rfl) (?i) (?i) (?i)
  (by first|exact .inl (?i)|exact .inr (?i)) (by rw [isSubtype_type];kernel_rfl)
theorem Za1:Slot "set_iterator" "__iter__" "set_iterator.__iter__" :=
 .of (owner := "set_iterator") (n := "__iter__") (by rw [typeLookup_type,builtinLookup_eq_fast];kernel_rfl) (?i) (?i) (?i)
  (by first|exact .inl (?i)|exact .inr (?i)) (by rw [isSubtype_type];kernel_rfl)
theorem Zgn:entryFor table "set.__iter__" = some Builtin.«frozenset.__iter__»:=entryFor_alias (id' := "frozenset.__iter__") (?q) rfl (?i) (?q)
theorem Zcn:entryFor table "set_iterator.__iter__" = some Builtin.«dict_keyiterator.__iter__»:=entryFor_alias (id' := "dict_keyiterator.__iter__") (?q) rfl (?i) (?q)
theorem Zdi (a:Value):argsOk "set_iterator.__iter__" ⟨[a],[]⟩:=by unfold argsOk;kernel_rfl
theorem Zb5:entryFor table "set_iterator.__next__" = some Builtin.«set_iterator.__next__»:=entryFor_of_fast (?q)
theorem Zhe (a:Value):argsOk "set.__iter__" ⟨[a],[]⟩:=by unfold argsOk;kernel_rfl
theorem Zc5 (a:Value):argsOk "set_iterator.__next__" ⟨[a],[]⟩:=by unfold argsOk;kernel_rfl
section
variable {P:Program} {w:World} {A:Around} {E:Value→?j} {s:Shared} {I S:Addr} {es:?aa} {ep i:Nat} {t:SetTable}
theorem SetAt.typeIs (x:SetAt w s.heap S es ep t):s.TypeIs (.ref S) "set" := let ⟨o,a,b,_⟩:=x.get;⟨o,a,b.1⟩
theorem SetAt.ents {Q:?aa→?j} (x:SetAt w s.heap S es ep t) (h:Q es s):wpAny (model P w) A (setEntries S) Q E s:=by
 obtain ⟨o,g,ex,d⟩:=x.get;exact wpAny_setEntries_of g d x.tp.fits h
theorem Zpu (x:SetAt w s.heap S es ep t)
 (hQ:Q (.ref s.z) { s with heap:=s.heap.push { cls:=.type "set_iterator",data:=.fields #[.int (0:Nat) 0,.int (0:Nat) 0,.ref S,.int es.size 0,.int ep 0] } }) :
 wpAny (model P w) A (pyIter (.ref S)) Q E s:=by
 obtain ⟨o,g,ex,d⟩:=id x.get;refine wpAny_pyIter_slot x.typeIs Zc8 (wpAny_call_entry Zc8 x.typeIs Zgn ?_ (Zhe _));unfold Builtin.«frozenset.__iter__»;show wpAny _ _ (Builtin.Frozenset.sizeOf S >>= _) _ _ s
 unfold Builtin.Frozenset.sizeOf;refine n1_ (n1_ (x.ents (n6_ ?_)));refine n1_ ?_;unfold setDrawn;refine n1_ (wpAny_setState_of g d x.tp.fits ?_);dsimp only;refine n1_ (Zah (n6_ ?_));have nd:(!Z3 w&&(!t.plain&&decide (es.size>1)))=false:=by rw [x.tp.pl];simp
 show wpAny _ _ (if (!Z3 w&&(!t.plain&&decide (es.size>1)))=true then _ else _) _ _ s
 rw [nd];simp only [n39_,if_false];refine n1_ (n6_ ?_);unfold setEpoch;refine n1_ (n1_ (wpAny_setState_of g d x.tp.fits (n6_ ?_)));exact n1_ (wpAny_newObj_type (n6_ ⟨_,rfl,"set_iterator",_,⟨_,n8_ _ rfl,rfl⟩,Y2.lookup,hQ⟩))
theorem Zmz {slot:Nat} (hit:IsSetIter s.heap I S n ep slot i) (h:Q (.ref I) s):wpAny (model P w) A (pyIter (.ref I)) Q E s:=by
 refine wpAny_pyIter_slot hit.typeIs Za1 (wpAny_call_entry Za1 hit.typeIs Zcn ?_ (Zdi _));show wpAny _ _ (ret (.ref I)) _ _ s
 exact n6_ ⟨_,rfl,"set_iterator",_,hit.typeIs,Y2.lookup,h⟩
theorem Zlh {v:Value} {Q:?C→?j} (hne:S≠I) (hit:IsSetIter s.heap I S es.size ep (X6 w t i) i) (x:SetAt w s.heap S es ep t) (hv:(Za0 w S ep es)[i]? = some v)
 (hQ:∀ h',IsSetIter h' I S es.size ep (X6 w t (i+1)) (i+1)→Heap.SameBut I s.heap h'→Q (some v) ?T):wpAny (model P w) A (pyNext (.ref I)) Q E s:=by
 obtain ⟨o,ho,hc,hd⟩:=id hit;unfold pyNext;refine n1_ (wpAny_attempt (wpAny_callSpecial?_slot (name:=Str.ofString "__next__") hit.typeIs Y2 (wpAny_call_entry Y2 hit.typeIs Zb5 ?_ (Zc5 _))));unfold Builtin.«set_iterator.__next__»;refine n1_ (n6_ ?_);refine n1_ (wpAny_fieldsOf ho hd ?_);dsimp only;refine n1_ (x.ents ?_);rw [if_neg ?f];simp only [n63_];refine n1_ (Znj x hv ?_);dsimp only;refine n1_ (wpAny_setField ho hd ?f ?_);have hd1:=Obj.data_mapFields hd (·.setIfInBounds 0 (rawInt (X6 w t (i+1))));have ho1:=n65_ (Obj.mapFields (·.setIfInBounds 0 (rawInt (X6 w t (i+1))))) ho (Obj.isFreed_of_fields hd1);refine n1_ (wpAny_setField ho1 hd1 ?f ?_);have hd2:=Obj.data_mapFields hd1 (·.setIfInBounds 1 (rawInt ((i:Int)+1)));have ho2:=n65_ (Obj.mapFields (·.setIfInBounds 1 (rawInt ((i:Int)+1)))) ho1 (Obj.isFreed_of_fields hd2);refine n6_ ⟨v,rfl,n6_ (hQ _ ⟨_,ho2,?_,?_⟩ ((Heap.SameBut.update ..).trans (Heap.SameBut.update ..)))⟩
 · exact (Obj.cls_mapFields ..).trans ((Obj.cls_mapFields ..).trans hc)
 · rw [hd2];simp [rawInt]
theorem Zgf {Q:?C→?j} (hh:A.handled=none) (hit:IsSetIter s.heap I S es.size ep (X6 w t es.size) es.size) (x:SetAt w s.heap S es ep t)
 (hQ:∀ h',Heap.ExtBut I s.heap h'→Q none ?T):wpAny (model P w) A (pyNext (.ref I)) Q E s:=by
 obtain ⟨o,ho,hc,hd⟩:=id hit;unfold pyNext;refine n1_ (wpAny_attempt (wpAny_callSpecial?_slot (name:=Str.ofString "__next__") hit.typeIs Y2 (wpAny_call_entry Y2 hit.typeIs Zb5 ?_ (Zc5 _))));unfold Builtin.«set_iterator.__next__»;refine n1_ (n6_ ?_);refine n1_ (wpAny_fieldsOf ho hd ?_);dsimp only;refine n1_ (x.ents ?_);rw [if_neg ?f];simp only [n63_];refine n1_ (Zp6 x ?_);dsimp only;refine n1_ (wpAny_setField ho hd ?f ?_);show wpAny _ _ (newExc (.type "StopIteration") [] >>= _) _ _ _
 refine n1_ ?_;simp only [newExc,newTuple];refine n1_ (wpAny_newObj_type ?_ (by size_fits));refine n1_ (m:=firstArgMember _ _) (wpAny_of_eq (a:=Value.none) (by first|rfl|(simp only [firstArgMember];rfl)) ?_);refine wpAny_newObj_type ?_ (by size_fits);simp only [raiseNew];refine n1_ (wpAny_handled ?_);rw [show A.in1.handled=none from hh];refine n1_ (n6_ (wpAny_throw ?_));refine n1_ (wpAny_isInstance (T := "StopIteration") (b:=true) ⟨_,n8_ _ rfl,rfl⟩ isSubtype_stop ?_);exact n6_ (hQ _ (((Heap.SameBut.update ..).extBut.push _).push _))
end
section
variable {P:Program} {w:World} {A:Around} {E:Value→?j} {s:Shared} {S:Addr} {es:?aa} {ep:Nat} {t:SetTable}
theorem Zgs:(Za0 w S ep es).length=es.size:=by rw [(Zid w S ep es).length_eq,n3_,Array.length_toList]
theorem Zor (hh:A.handled=none) (I:Addr) (hne:S≠I) :
 Walks P w A I [I,S] [I] es.size (fun i v=>(Za0 w S ep es)[i]? = some v) (fun i h=>IsSetIter h I S es.size ep (X6 w t i) i∧SetAt w h S es ep t) where
 sub:=fun b hb=>by simp at hb;simp [hb]
 frame:=fun _ _ _ st hk=>⟨st.1.stay fun o e=>hk I ?f o e,st.2.stay fun o e=>hk S ?f o e⟩
 item:=fun i s Q E hi st hQ=>by
  have hl:i<(Za0 w S ep es).length:=by rw [Zgs];exact hi
  have hv:=n0_ hl;exact Zlh hne st.1 st.2 hv fun h' hit' hs'=>hQ _ h' s.toks hv ⟨hit',st.2.stay fun o e=>(hs'.2 S hne).trans e⟩ fun b o hb e=>(hs'.2 b (fun z=>hb (by simp [z]))).trans e
 done:=fun s Q E st hQ=>Zgf hh st.1 st.2 fun h' he'=>hQ h' s.toks fun b o hb e=>he' b o (fun z=>hb (by simp [z])) e
 self:=fun _ _ _ _ st hQ=>Zmz st.1 hQ
theorem Ztc:typeLookup (.type "set") "__len__" = pure (some (.builtin "set.__len__")):=by rw [typeLookup_type,builtinLookup_eq_fast];kernel_rfl
theorem Zl7 {vs:?t} {acc:?L} (h:ItemsOf (fun i v=>vs[i]? = some v) acc vs.length):acc.toList=vs:=by
 refine List.ext_getElem? fun j=>?_;rw [Array.getElem?_toList];cases e:acc[j]? with
 | some v=>exact (h.2 j v e).symm
 | none =>
   have:vs.length≤j:=by
    have:=Array.getElem?_eq_none_iff.mp e
    rw [h.1] at this;exact this
   exact (n58_ this).symm
set_option maxHeartbeats 4000000 in
theorem Zjg {Q:?t→?j} (hh:A.handled=none) (x:SetAt w s.heap S es ep t) (hn:es.size≤sizeLine)
 (h:∀ h' tk,(∀ b o,?ag)→s.z≤h'.objs.size→Q (Za0 w S ep es) { s with heap:=h',toks:=tk }):wpAny (model P w) A (collect (.ref S)) Q E s:=by
 have hSz:S<s.z:=by obtain ⟨o,g,_⟩:=x.get;exact n13_ g
 unfold collect;refine n1_ (wpAny_runValue (codeAny_builtin F.entry_proto_collect ?_));rw [Around.under_plainId F.plain_proto_collect _];show wpAny _ A.in1 (newList [] >>= fun l=>again (.builtin "list.__iadd__" ⟨[l,.ref S],[]⟩)) _ _ s
 refine n1_ (wpAny_newObj_type ?_);refine n6_ ⟨plainId_quiet F.plain_list_iadd _,codeAny_builtin F.entry_list_iadd ?_⟩;rw [Around.under_plainId F.plain_list_iadd _];generalize hs1:({ s with heap:=s.heap.push { cls:=.type "list",data:=.seq ([]:?t).toArray } }:Shared)=s1;have x1:SetAt w s1.heap S es ep t:=by rw [← hs1];exact x.stay fun o e=>n2_ _ e
 have g1:s1.heap.get? s.z=some { cls:=.type "list",data:=.seq ([]:?t).toArray }:=by rw [← hs1];exact n8_ _ rfl
 have z1:s1.z=s.z+1:=by rw [← hs1];exact n48_ ..
 have k1:∀ b o,s.heap.get? b=some o→s1.heap.get? b=some o:=fun b o e=>by rw [← hs1];exact n2_ _ e
 show wpAny _ A.in1 (Builtin.List.listExtendWith (.ref s.z) (.ref S) (.ref s.z)) _ _ s1
 unfold Builtin.List.listExtendWith;refine n1_ (wpAny_typeOf x1.typeIs ?_);have h1:Builtin.List.listSameRef (.ref s.z) (.ref S)=false:=by simp [Builtin.List.listSameRef,n75_ hSz]
 have h2:(Value.type "set" == Value.type "list")=false:=?k
 have h3:(Value.type "set" == Value.type "tuple")=false:=?k
 simp only [h1,h2,h3,Bool.or_false,n39_,if_false];refine n1_ (Zpu x1 ?_);generalize hs2:({ s1 with heap:=s1.heap.push { cls:=.type "set_iterator",data:=.fields #[.int (0:Nat) 0,.int (0:Nat) 0,.ref S,.int es.size 0,.int ep 0] } }:Shared)=s2;have x2:SetAt w s2.heap S es ep t:=by rw [← hs2];exact x1.stay fun o e=>n2_ _ e
 have it2:IsSetIter s2.heap (s.z+1) S es.size ep 0 0:=by rw [← hs2,← z1];exact ⟨_,n8_ _ rfl,rfl,rfl⟩
 have g2:s2.heap.get? s.z=some { cls:=.type "list",data:=.seq ([]:?t).toArray }:=by rw [← hs2];exact n2_ _ g1
 have k2:∀ b o,s.heap.get? b=some o→s2.heap.get? b=some o:=fun b o e=>by rw [← hs2];exact n2_ _ (k1 b o e)
 refine n1_ (n38_ ?_);unfold Builtin.List.listLengthHint;refine n1_ (wpAny_specialOf x2.typeIs Ztc ?_);have hsp:splitId "set.__len__" = some ("set","__len__"):=?i
 dsimp only;rw [hsp];dsimp only;refine n1_ (wpAny_isInstance (b:=true) x2.typeIs sub_set_self ?_);simp only [Bool.not_true,n39_,if_false];rw [if_pos (?i)];refine n1_ (wpAny_typeOf x2.typeIs ?_);dsimp only;refine n6_ ?_;rw [if_pos (?i)];refine n1_ (wpAny_rule ?_);refine n1_ ?_;show wpAny _ A.in1 (updateSeq s.z (·.push .none) >>= fun _=>updateSeq s.z (·.pop)) _ _ _
 refine n1_ (wpAny_updateSeq g2 rfl ?_);have g3:=n65_ (Obj.mapSeq (·.push Value.none)) g2 rfl;refine wpAny_updateSeq g3 rfl ?_;have g4:=n65_ (Obj.mapSeq (·.pop)) g3 rfl
 have oth:∀ b o,b≠s.z→s2.heap.get? b=some o→((s2.heap.update s.z (Obj.mapSeq (·.push Value.none))).update s.z (Obj.mapSeq (·.pop))).get? b=some o :=
  fun b o hb e=>(Heap.get?_update_other _ _ (Ne.symm hb)).trans ((Heap.get?_update_other _ _ (Ne.symm hb)).trans e)
 rw [z1];have hne:S≠s.z+1:=n23_ (n55_ hSz);have hh1:A.in1.handled=none:=by simp [hh]
 have W:=(Zor (P:=P) (w:=w) (ep:=ep) (es:=es) (t:=t) hh1 (s.z+1) hne).toS
 have hSf:s.z∉[s.z+1,S]:=by
  simp only [n12_,n16_,or_false,not_or];exact ⟨n23_ (n87_ _),n75_ hSz⟩
 refine n6_ ⟨plainId_quiet F.plain_extend_loop _,codeAny_extend_loopS W hn _ hSf _ es.size 0 _ _ _ rfl (n47_ _)
  ⟨it2.stay fun o e=>oth _ o (n75_ (n87_ _)) e,x2.stay fun o e=>oth _ o (n23_ hSz) e⟩ g4 (ItemsOf.nil _) fun s' acc' c' hm hS' hacc=>?_⟩
 show wpAny _ A (load s.z >>= _) _ _ s'
 refine n1_ (wpAny_load hS' ?_);rw [← Zgs (w:=w) (S:=S) (ep:=ep)] at hacc;have ea:=Zl7 hacc;have em:=hm.eq_with;rw [em];show wpAny _ _ (pure acc'.toList) _ _ _
 rw [ea];refine n6_ ?_;subst hs2;subst hs1;refine h _ _ (fun b o e=>?_) ?_
 · have lb:=n13_ e;exact hm.heap b o (by simp only [n12_,n16_,or_false,not_or];exact ⟨n23_ lb,n23_ (n55_ lb)⟩) (oth b o (n23_ lb) (k2 b o e))
 · exact Nat.le_of_lt (n13_ hS')
end
def metI (ns:?g):?g:=ns.foldl addI []
theorem Zmi (ns:?g) (k:Int):metI (ns++[k])=addI (metI ns) k:=by unfold metI;rw [List.foldl_append];rfl
theorem Zky {k x:Int}:x∈addI ks k↔x∈ks∨x=k:=by
 unfold addI;split
 · exact ⟨.inl,fun h=>h.elim id fun e=>by rw [e];assumption⟩
 · simp
theorem Zkz (ks:?g) (k:Int):(addI ks k).length≤ks.length+1:=by
 unfold addI;split
 · omega
 · simp
theorem Zml {k:Int} (h:ks.Nodup):(addI ks k).Nodup:=by
 unfold addI;split
 · exact h
 · rename_i hk
   rw [List.nodup_append];exact ⟨h,by simp,fun a ha b hb=>by rw [n18_.mp hb];exact fun z=>hk (z ▸ ha)⟩
theorem Zk5:∀ (ns ks:?g) (x:Int),x∈ns.foldl addI ks↔x∈ks∨x∈ns
 | [],ks,x=>by simp
 | n :: ns,ks,x=>by
   rw [List.foldl_cons,Zk5 ns,Zky,n12_];constructor
   · rintro ((h|h)|h)
     · exact .inl h
     · exact .inr (.inl h)
     · exact .inr (.inr h)
   · rintro (h|h|h)
     · exact .inl (.inl h)
     · exact .inl (.inr h)
     · exact .inr h
theorem Zdt {x:Int}:x∈metI ns↔x∈ns:=by rw [metI,Zk5];simp
theorem Zn4:∀ (ns ks:?g),ks.Nodup→(ns.foldl addI ks).Nodup
 | [],ks,h=>h
 | n :: ns,ks,h=>Zn4 ns _ (Zml h)
theorem Znh (ns:?g):(metI ns).Nodup:=Zn4 ns [] .nil
theorem Zkq:∀ (ns ks:?g),(ns.foldl addI ks).length≤ks.length+ns.length
 | [],ks=>by simp
 | n :: ns,ks=>by
   have:=Zkq ns (addI ks n)
   have:=Zkz ks n
   rw [List.foldl_cons,n29_];omega
theorem Zb8 (ns:?g):(metI ns).length≤ns.length:=by have:=Zkq ns [];simpa [metI] using this
section
variable {P:Program} {w:World} {bt:Bool} {A:Around} {E:Value→?j} {s:Shared}
theorem SetI.typeIs (h:SetI bt s.heap a ks):s.TypeIs (.ref a) "set" := by
 obtain ⟨o,es,ep,t,g,x,_⟩:=h;exact ⟨o,g,x.1⟩
end
section
variable {P:Program} {w:World} {bt:Bool} {A:Around} {R:Result→?j} {I:Addr} {fp wr:List Addr} {G:Array GenState→Array GenState→Prop} {St:Nat→?j}
theorem Zc7 {Pv:Nat→Value→Prop} (W:WalksS P w A.in1 I fp wr G ns.length Pv St) (S:Addr) (hSf:S∉fp) (hval:∀ i v,i<ns.length→Pv i v→∃ t,v=.int (ns.getD i 0) t) (hb:ns.length≤30) :
 ∀ (k i:Nat) (s:Shared),ns.length-i=k→i≤ns.length→St i s→SetI bt s.heap S (metI (ns.take i)) →
   (∀ s',Moved (S :: wr) G s s'→SetI bt s'.heap S (metI ns)→R (.ok (.ret .none)) s') →
   codeAny (model P w) A (.builtin "set.update.loop" ⟨[.ref S,.ref I],[]⟩) R s:=by
 have hSw:S∉wr:=fun h=>hSf (W.sub _ h);have hsub:∀ b∈wr,b∈S :: wr:=fun b hb=>n15_ _ hb;intro k
 induction k with
 | zero =>
   intro i s hk hi hst hS hR;obtain rfl:i=ns.length:=?d
   rw [List.take_length] at hS;refine codeAny_builtin F.entry_set_update_loop ?_;rw [Around.under_plainId F.plain_set_update_loop _];show wpAny _ A.in1 (pyNext (.ref I) >>= _) _ _ s
   refine n1_ (W.done s _ _ hst fun s' hm=>?_);show wpAny _ A.in1 (ret Value.none) _ _ s'
   exact n6_ (hR s' (hm.mono hsub) (SetI.stay _ _ hS fun o e=>hm.heap S o hSw e))
 | succ k ih =>
   intro i s hk hi hst hS hR;have hlt:i<ns.length:=?d
   refine codeAny_builtin F.entry_set_update_loop ?_;rw [Around.under_plainId F.plain_set_update_loop _];show wpAny _ A.in1 (pyNext (.ref I) >>= _) _ _ s
   refine n1_ (W.item i s _ _ hlt hst fun v s' hP hst' hm=>?_);obtain ⟨t,rfl⟩:=hval i v hlt hP;have hS':=SetI.stay _ s'.heap hS fun o e=>hm.heap S o hSw e;show wpAny _ A.in1 (holding [Value.int (ns.getD i 0) t] (setAdd S (.int (ns.getD i 0) t)) >>= _) _ _ s'
   refine n1_ (n38_ ?_);unfold setAdd;refine n38_ ?_;refine n1_ ((intKind P w).pyHash (k:=ns.getD i 0) (intKind_is _ _ _ _) ?_)
   have hroom:(metI (ns.take i)).length<30:=by
    have:=Zb8 (ns.take i)
    rw [n60_] at this;omega
   refine Zfc (s:={ s' with toks:=s'.toks+1 }) hS' hroom fun bb h' hsb hS2=>?_
   have et:ns.take (i+1)=ns.take i++[ns.getD i 0]:=by
    rw [List.take_succ_eq_append_getElem hlt,n4_,n0_ hlt];rfl
   rw [← Zmi,← et] at hS2;refine n6_ ⟨plainId_quiet F.plain_set_update_loop _,ih (i+1) _ (?d) hlt (W.frame _ s' _ _ hst' (Nat.le_succ _) fun b hb o e=>?_) hS2 fun s'' hm'' hS''=>?_⟩
   · rw [hsb.2 b (fun h:b=S=>hSf (by rw [← h];exact hb))];exact e
   · refine hR s'' (Moved.trans W.gtrans ((hm.mono hsub).then_heap (Nat.le_succ _) fun b o hb e=>?_) hm'') hS'';rw [hsb.2 b (fun h:b=S=>hb (by rw [h];exact n20_))];exact e
end
abbrev set0 (w:World):Obj:={ cls:=.type "set",dict:=none,data:=.set #[] 0 (.fresh 0 0 (!Z3 w)) }
theorem Zrd (e:h.get? a=some (set0 w)):SetI (Z3 w) h a [] :=
 ⟨_,#[],0,_,e,⟨rfl,rfl,rfl⟩,rfl,?k,fun e he=>by simp at he,⟨[],.nil,.refl _⟩,.nil,STb.TP.fresh _⟩
section
variable {P:Program} {w:World} {A:Around} {E:Value→?j} {s:Shared}
theorem Zk6 (a:Value) {Q₁:Value→?j} (h:Q₁ (.ref s.z) { s with heap:=s.heap.push (set0 w) }) :
 codeAny (model P w) A (.call (.builtin "set.__new__") ⟨[.type "set",a],[]⟩) (wants Q₁ E) s:=by
 refine codeAny_of_tree ?_;show wpAny _ A.in1 (do checkBuiltinCall "set.__new__" ⟨[.type "set",a],[]⟩;again (.builtin "set.__new__" ⟨[.type "set",a],[]⟩)) _ _ s
 refine n1_ (wpAny_of_eq (F.newCall_set_1 a) (n6_ ⟨plainId_quiet F.plain_set_new _,codeAny_builtin F.entry_set_new ?_⟩));rw [Around.under_plainId F.plain_set_new _];unfold Builtin.«set.__new__» Builtin.Frozenset.newClass;have hsub:=sub_set_self;obtain ⟨hp,g,d,tk,os⟩:=s;dsimp only
 wp_walk
 refine wpAny_askSetting (n6_ ?_);dsimp only;simp only [newObj];refine n1_ (wpAny_alloc (n6_ ?_));exact n6_ h
set_option maxHeartbeats 3200000 in
theorem Znn
 (hh:A.handled=none) (hl:s.heap.IsList l items) (hi:IntsAre items.toList ns) (hb:items.size≤30)
 (h:∀ (h':Heap) (tk:Nat),SetI (Z3 w) h' s.z (metI ns)→(∀ b o,b<s.z→?ag)→Q (.ref s.z) { s with heap:=h',toks:=tk }) :
 wpAny (model P w) A (call (.type "set") [.ref l]) Q E s:=by
 obtain ⟨c,tl,hmro⟩:=F.called_set.mro;have hmade:=F.called_set.made;have hsub:=F.called_set.sub;have hlen:items.size=ns.length:=by have:=Zdq hi;rwa [Array.length_toList] at this
 refine wpAny_call (codeAny_of_tree ?_);show wpAny _ _ (callAny (.type "set") _) _ _ _
 refine n6_ ⟨Code.quiet_builtin _ (?i),codeAny_builtin F.entry_type_call ?_⟩;rw [Around.under_plain (weight_type_call_type "set" [.ref l] []) rfl];have h1:=F.called_set.notType;have h2:=F.called_set.canCreate;have hct:=F.typeCall_set_1 (.ref l)
 repeat (any_goals (first|assumption|wp_step))
 refine codeAny_mono (Zk6 (.ref l) (E:=E) (Q₁:=fun obj s₁=>obj=.ref s.z∧s₁={ s with heap:=s.heap.push (set0 w) }) ⟨rfl,rfl⟩) fun r s₁ hr=>?_;cases r with
 | error e=>exact hr
 | ok fl =>
   cases fl with
   | ret obj =>
     obtain ⟨rfl,rfl⟩:=hr;have hS:(s.heap.push (set0 w)).get? s.z=some (set0 w):=n8_ _ rfl;have hT:Shared.TypeIs { s with heap:=s.heap.push (set0 w) } (.ref s.z) "set" := ⟨_,hS,rfl⟩;have hli:=F.called_set.init.lookup;have hbi:=F.called_set.init.bind (.ref s.z)
     repeat (any_goals (first|assumption|wp_step))
     refine codeAny_mono (codeAny_call_builtin (R:=wants (fun r s₂=>r=.none∧∃ h' tk,s₂={ s with heap:=h',toks:=tk }∧SetI (Z3 w) h' s.z (metI ns)∧(∀ b o,b<s.z→?ag)) E) F.called_set.init.plain F.entry_set_init (check_set_init_1 hT ?_)) fun r₂ s₂ hr₂=>?_
     · obtain ⟨ol,hol,hcl,nl,hdl⟩:=hl;obtain ⟨ocls,odict,odata,oslots⟩:=ol;simp only at hcl hdl;subst hcl;subst hdl;have hol':(s.heap.push (set0 w)).get? l=some { cls:=.type "list",dict:=odict,data:=.seq items nl,slots:=oslots }:=n2_ _ hol;have hsls:=F.sub_list_set;have hslf:=F.sub_list_frozenset;have hne:(Value.type "list" == Value.type "dict")=false:=?k
       have hl1:(s.heap.push (set0 w)).IsList l items:=⟨_,hol',rfl,nl,rfl⟩;unfold Builtin.«set.__init__» noKeywords Builtin.Frozenset.updateFrom;generalize hPI:pyIter=PI
       wp_walk
       subst hPI;refine wpAny_pyIter_list hl1 ?_;refine n1_ (wpAny_runValue ?_);have hlS:l<s.z:=n13_ hol;have hh3:A.in1.in1.in1.handled=none:=by simp [hh]
       have hneI:l≠(s.heap.push (set0 w)).objs.size:=by
        rw [n48_];exact n23_ (n55_ hlS)
       have hSf:s.z∉[(s.heap.push (set0 w)).objs.size,l]:=by
        rw [n48_];simp only [n12_,n18_,n16_,or_false,not_or];exact ⟨n23_ (n87_ _),n75_ hlS⟩
       have hval:∀ (i:Nat) (v:Value),i<ns.length→items[i]? = some v→∃ t,v=.int (ns.getD i 0) t:=fun i v _ hv=>IntsAre.int_at hi i v (by rw [Array.getElem?_toList];exact hv);have hW:=(Walks.list (prog:=P) (w:=w) hh3 _ l hneI items).toS;rw [hlen] at hW;refine Zc7 hW s.z hSf hval (?d) (ns.length-0) 0 _ rfl (n47_ _) ⟨⟨_,n8_ _ rfl,rfl,rfl⟩,(hl1.push _)⟩ (Zrd (n2_ _ hS)) ?hR
       case hR =>
        intro s' hm hS';obtain ⟨h',g',d',tk',os'⟩:=s';have eg:g'=s.gens:=hm.gens;have ed:d'=s.drawn:=hm.drawn;have eo:os'=s.os:=hm.os;subst eg;subst ed;subst eo;show wpAny _ _ _ _ _ _
        refine n6_ ?_;show wpAny _ _ (ret Value.none) _ _ _
        refine n6_ ⟨rfl,h',tk',rfl,hS',fun b o hb e=>?_⟩;have hb1:b≠s.z:=n23_ hb
        have hb2:b≠(s.heap.push (set0 w)).objs.size:=by
         rw [n48_];exact n23_ (n55_ hb)
        exact hm.heap b o (by simp only [n12_,n18_,n16_,or_false,not_or];exact ⟨hb1,hb2⟩) (n2_ _ (n2_ _ e))
     · cases r₂ with
       | error e=>exact hr₂
       | ok fl₂ =>
         cases fl₂ with
         | ret r =>
           obtain ⟨rfl,h',tk,rfl,hS',hk'⟩:=hr₂
           repeat (any_goals (first|assumption|wp_step))
           exact h _ _ hS' hk'
         | _=>exact hr₂.elim
   | _=>exact hr.elim
end
theorem Zm6 (hc:X.calm=true):Xl X (.type "set") (fun xs H Q=>∃ (p:Addr) (ns:?g),xs=[.ref p]∧SqL X.K H p ?U∧ns.length≤30∧∀ S,H S=none→Q (.ref S) (upd H S (setI (Z3 X.w) S (metI ns)))):=by
 intro pins s σ H xs us Q I r h;obtain ⟨p,ns,rfl,hq,hb,q⟩:=h;cases r with
 | cons rx r =>
   cases r
   cases (show _=Value.ref p from rx)
   obtain ⟨its,rv,pl,hz⟩:=I.list hq;have hlen:=rv.length;rw [n3_] at hlen;have ia:=Zbg rv;refine Znn (I.ok.hd hc) pl.isList (by simpa using ia) (by simp;omega) fun h' tk hS hk=>?_;exact ⟨.ref s.z,_,I.laid (o:=setI (Z3 X.w) s.z (metI ns)) (t':=tk) (fun b o e=>hk b o (n13_ e) e) (n7_ _) (Zjr hS),rfl,q _ (I.hok.fresh (n7_ _))⟩
section
variable {P:Program} {w:World} {A:Around} {E:Value→?j} {s:Shared} {S:Addr}
theorem Zl1 (hh:A.handled=none) (x:SetI (Z3 w) s.heap S ks) (h30:ks.length≤30)
 (h:∀ (L:Addr) (h':Heap) (tk:Nat) (out:?L) (e:Nat) (ns:?g),s.z≤L→(∀ b o,?ag)→h'.get? L=some (seqObj "list" out e)→IntsAre out.toList ns→ns.Perm ks→ns.Pairwise (·≤·)→Q (.ref L) { s with heap:=h',toks:=tk }) :
 wpAny (model P w) A (call (.builtin "sorted") [.ref S]) Q E s:=by
 obtain ⟨o,es,ep,t,g,ex,d,hb,i⟩:=x;have sa:SetAt w s.heap S es ep t:=⟨⟨o,g,ex,d⟩,i.tw⟩;obtain ⟨ns0,ia,pm⟩:=i.ns;obtain ⟨ms,iw,pw⟩:=Zb3 (Zid w S ep es) ia;have hl:(Za0 w S ep es).length<64:=by rw [Zgs,i.len];omega
 refine Calls.call_function_entry kind_sorted plain_sorted entry_sorted (args_sorted1 _) ?_;unfold Builtin.«sorted»;refine n1_ (m:=checkCount "sorted" 1 1 _) (n6_ ?_);refine n1_ (Zjg (by simp [hh]) sa (by rw [i.len,sizeLine_eq];omega) fun h' tk keep le=>?_);generalize hvs:Za0 w S ep es=vs at iw hl;refine n1_ (wpAny_newList ?_);have hoL:(h'.push (seqObj "list" vs.toArray 0)).get? h'.objs.size=some (seqObj "list" vs.toArray 0):=n8_ _ rfl;refine n1_ (n38_ (wpAny_call_entry (s:={ s with heap:=h'.push (seqObj "list" vs.toArray 0),toks:=tk }) slot_list_sort ⟨_,hoL,rfl⟩ entry_list_sort (list_sort_tree hoL iw hl fun out ns' a1 a2 a3=>⟨_,rfl,?_⟩) (args_list_sort _)));obtain ⟨e,he⟩:=sortedHeap_at (out:=out) hoL;refine n6_ ⟨_,rfl,h _ _ _ out e ns' le (fun b o eb=>?_) he a1 (a2.trans (pw.trans pm)) a3⟩;have hk:=keep b o eb;have hlt:=n13_ hk;rw [sortedHeap_old (n23_ hlt) (by rw [n48_];exact n55_ hlt)];exact n2_ _ hk
end
theorem Za6 (hc:X.calm=true):Xl X (.builtin "sorted") (fun xs H Q=>∃ (p:Addr) (ks:?g),xs=[.ref p]∧H p=some (setI (Z3 X.w) p ks)∧ks.length≤30∧∀ (l:Addr) (ns:?g),H l=none→ns.Perm ks→ns.Pairwise (·≤·)→Q (.ref l) (upd H l (.lst ?U))):=by
 intro pins s σ H xs us Q I r h;obtain ⟨p,ks,rfl,hp,h30,q⟩:=h;cases r with
 | cons rx r =>
   cases r
   cases (show _=Value.ref p from rx)
   have sI:SetI (Z3 X.w) s.heap p ks:=Zjb (I.hok p _ hp);refine Zl1 (I.ok.hd hc) sI h30 fun L h' tk out e ns le keep he ia pm so=>?_;exact ⟨.ref L,_,I.laid (o:=.lst ?U) (t':=tk) (fun b u eb=>keep b u eb) le ⟨by rw [n3_,pm.length_eq,sizeLine_eq];omega,out.toList,e,Zdu ia,by simpa using he⟩,rfl,q L ns (I.hok.fresh le) pm so⟩
section
variable {P:Program} {w:World} {bt:Bool} {A:Around} {E:Value→?j} {s:Shared}
end
section
variable {P:Program} {w:World} {bt:Bool} {A:Around} {E:Value→?j} {s:Shared}
theorem Zck {t:SetTable} (es':?aa) (t':SetTable) (get:h.get? S=some o) (dat:o.data=.set es ep t):(h.update S (Obj.putSet es' t')).get? S=some { o with data:=.set es' (ep+1) t' }:=by
 have:=n65_ (Obj.putSet es' t') get (by rw [putSet_of es' t' dat];rfl)
 rw [putSet_of es' t' dat] at this;exact this
theorem Zbn {es:Array α} {order:Array Nat} (h:order.toList.Perm (List.range es.size)):(order.filterMap (es[·]?)).toList.Perm es.toList:=by
 rw [Array.toList_filterMap];refine (h.filterMap _).trans ?_
 have:(List.range es.size).filterMap (es[·]?)=es.toList:=by
  refine List.ext_getElem? fun i=>?_
  have fm:∀ (l:?p),(∀ k∈l,k<es.size)→∀ i:Nat,(l.filterMap (es[·]?))[i]? = l[i]?.bind (es[·]?):=by
   intro l
   induction l with
   | nil=>intro _ i;rfl
   | cons k l ih =>
     intro hk i;obtain ⟨x,hx⟩:∃ x,es[k]? = some x:=⟨_,Array.getElem?_eq_getElem (hk k n20_)⟩;rw [List.filterMap_cons_some hx];cases i with
     | zero=>simp [hx]
     | succ i=>rw [List.getElem?_cons_succ,List.getElem?_cons_succ];exact ih (fun y hy=>hk y (n15_ _ hy)) i
  rw [fm _ (fun k hk=>n32_.mp hk) i]
  by_cases c:i<es.size
  · rw [n78_ c];simp
  · rw [n58_ (by simpa using c),n58_ (by simpa using c)];rfl
 rw [this]
end
open AutoSeq1 (wpAny_loadPart')
theorem Zl8 (l:Addr) (items:?L) (n:Nat) (dd:Option Addr) (sl:Array (?C)) (x:Int) (u:Tok) (h2:x=0) (he:items.isEmpty=false) :
 Meets (Builtin.«tuple.__mul__» ⟨[.ref l,.int x u],[]⟩) (fun _ R s=>s.heap.get? l=some { cls:=?M,dict:=dd,data:=.seq items n,slots:=sl }∧R (.ok (.ret (Value.ref s.z))) { s with heap:=s.heap.push { cls:=Value.type "tuple",data:=Data.seq #[] },toks:=s.toks }) :=
 .of_wp fun prog w A R s h=>by
  obtain ⟨hp,g,d,tk,os⟩:=s;obtain ⟨hl,h⟩:=h;have f1:=AutoSeq1.idx_int;have f2:=AutoSeq1.sub_tuple_tuple;have f3:=AutoSeq1.sub_list_list;have f4:=AutoSeq1.sub_tuple_list;have f5:=AutoSeq1.sub_list_tuple;have hc0:(decide (x < -2^63)||decide (x ≥ 2^63))=false:=by rw [h2];decide
  have hc1:(items.isEmpty||x == 1)=false:=by rw [he,h2];decide
  have hc2:(decide (x≤0)||items.isEmpty)=true:=by rw [h2];rfl
  wp_walk using wpAny_loadPart' hl
  exact ⟨_,rfl,h⟩
section
variable {X:Cx}
inductive BxRRepZ (x y:V) (H:Hp) (Q:VK):Prop
 | mk (l:_) (k:_) (xs:_) (q1:x=.ref l) (q2:y=.int k) (q3:H l=some (.tup xs)) (q4:k=0∨2≤k) (q5:k≤1000) (q6:xs≠[]) (q7:xs.length≤1000) (q8:∀ p H',?H→H' p=some (.tup (List.replicate k.toNat xs).flatten)→Q (.ref p) H'):BxRRepZ x y H Q
def Zwe:R2:=fun x y H Q=>BxRRepZ x y H Q
theorem Zsx:OpR X (binaryOp .Mult) Zwe:=by
 intro pins s σ H x y v u Q I rx ry h;obtain ⟨l,k,xs,rfl,rfl,hH,h2,h3,hne,hz,q⟩:=h
 rcases h2 with h0|h2
 case inr=>exact Ztb pins s σ H _ _ v u Q I rx ry ⟨l,k,xs,rfl,rfl,hH,h2,h3,hne,hz,q⟩
 cases rx
 obtain ⟨t,rfl⟩:=ry;obtain ⟨its,r,p,hzz⟩:=I.tuple (SqT.of hH);obtain ⟨⟨cls,dd,data,sl⟩,ho,hc,n,hd⟩:=id p;simp only at hc hd;subst hc hd;have hl:=r.length
 have he:its.toArray.isEmpty=false:=by
  cases its with
  | nil=>exact absurd (List.length_eq_zero_iff.mp hl) hne
  | cons a b=>rfl
 refine wpAny_binaryOp_repeat_ref (T := "tuple") (U := "int") ?e ⟨_,ho,rfl⟩ (fun s'=>typeIs_int s' k t) Za2 F.fills_int_mul F.slot_int_rmul Zc1 F.slot_int_index.lookup
  (call_meets F.slot_int_rmul (typeIs_int s k t) F.entry_int_rmul (F.args_int_rmul_2 _ _) (Zbo k t l its.toArray n dd sl)
    ⟨ho,rfl,⟨_,ho,rfl⟩,call_meets F.slot_tuple_mul ⟨_,ho,rfl⟩ F.entry_tuple_mul (F.args_tuple_mul_2 _ _) (Zl8 l its.toArray n dd sl k t h0 he) ⟨ho,?_⟩⟩)
 subst h0;exact ⟨.ref _,_,I.laid (t':=s.toks) (o:=.tup []) (fun b ob q=>n2_ _ q) (n7_ _) ⟨n47_ _,[],.nil,IsTupN.new _ _⟩,rfl,q _ _ (Same.new I.fresh) Zc⟩
end
section
variable {P:Program} {w:World} {A:Around} {E:Value→?j} {s:Shared}
set_option maxHeartbeats 3200000 in
theorem Zqa
 (hh:A.handled=none) (hl:s.heap.IsTuple l items) (hi:IntsAre items.toList ns) (hb:items.size≤30)
 (h:∀ (h':Heap) (tk:Nat),SetI (Z3 w) h' s.z (metI ns)→(∀ b o,b<s.z→?ag)→Q (.ref s.z) { s with heap:=h',toks:=tk }) :
 wpAny (model P w) A (call (.type "set") [.ref l]) Q E s:=by
 obtain ⟨c,tl,hmro⟩:=F.called_set.mro;have hmade:=F.called_set.made;have hsub:=F.called_set.sub;have hlen:items.size=ns.length:=by have:=Zdq hi;rwa [Array.length_toList] at this
 refine wpAny_call (codeAny_of_tree ?_);show wpAny _ _ (callAny (.type "set") _) _ _ _
 refine n6_ ⟨Code.quiet_builtin _ (?i),codeAny_builtin F.entry_type_call ?_⟩;rw [Around.under_plain (weight_type_call_type "set" [.ref l] []) rfl];have h1:=F.called_set.notType;have h2:=F.called_set.canCreate;have hct:=F.typeCall_set_1 (.ref l)
 repeat (any_goals (first|assumption|wp_step))
 refine codeAny_mono (Zk6 (.ref l) (E:=E) (Q₁:=fun obj s₁=>obj=.ref s.z∧s₁={ s with heap:=s.heap.push (set0 w) }) ⟨rfl,rfl⟩) fun r s₁ hr=>?_;cases r with
 | error e=>exact hr
 | ok fl =>
   cases fl with
   | ret obj =>
     obtain ⟨rfl,rfl⟩:=hr;have hS:(s.heap.push (set0 w)).get? s.z=some (set0 w):=n8_ _ rfl;have hT:Shared.TypeIs { s with heap:=s.heap.push (set0 w) } (.ref s.z) "set" := ⟨_,hS,rfl⟩;have hli:=F.called_set.init.lookup;have hbi:=F.called_set.init.bind (.ref s.z)
     repeat (any_goals (first|assumption|wp_step))
     refine codeAny_mono (codeAny_call_builtin (R:=wants (fun r s₂=>r=.none∧∃ h' tk,s₂={ s with heap:=h',toks:=tk }∧SetI (Z3 w) h' s.z (metI ns)∧(∀ b o,b<s.z→?ag)) E) F.called_set.init.plain F.entry_set_init (check_set_init_1 hT ?_)) fun r₂ s₂ hr₂=>?_
     · obtain ⟨ol,hol,hcl,nl,hdl⟩:=hl;obtain ⟨ocls,odict,odata,oslots⟩:=ol;simp only at hcl hdl;subst hcl;subst hdl;have hol':(s.heap.push (set0 w)).get? l=some { cls:=?M,dict:=odict,data:=.seq items nl,slots:=oslots }:=n2_ _ hol;have hsls:=Zf1;have hslf:=Zbt;have hne:(Value.type "tuple" == Value.type "dict")=false:=?k
       have hl1:(s.heap.push (set0 w)).IsTuple l items:=⟨_,hol',rfl,nl,rfl⟩;unfold Builtin.«set.__init__» noKeywords Builtin.Frozenset.updateFrom;generalize hPI:pyIter=PI
       wp_walk
       subst hPI;refine wpAny_pyIter_tuple hl1 ?_;refine n1_ (wpAny_runValue ?_);have hlS:l<s.z:=n13_ hol;have hh3:A.in1.in1.in1.handled=none:=by simp [hh]
       have hneI:l≠(s.heap.push (set0 w)).objs.size:=by
        rw [n48_];exact n23_ (n55_ hlS)
       have hSf:s.z∉[(s.heap.push (set0 w)).objs.size,l]:=by
        rw [n48_];simp only [n12_,n18_,n16_,or_false,not_or];exact ⟨n23_ (n87_ _),n75_ hlS⟩
       have hval:∀ (i:Nat) (v:Value),i<ns.length→items[i]? = some v→∃ t,v=.int (ns.getD i 0) t:=fun i v _ hv=>IntsAre.int_at hi i v (by rw [Array.getElem?_toList];exact hv);have hW:=(Walks.tuple (prog:=P) (w:=w) hh3 _ l hneI items).toS;rw [hlen] at hW;refine Zc7 hW s.z hSf hval (?d) (ns.length-0) 0 _ rfl (n47_ _) ⟨⟨_,n8_ _ rfl,rfl,rfl⟩,(hl1.push _)⟩ (Zrd (n2_ _ hS)) ?hR
       case hR =>
        intro s' hm hS';obtain ⟨h',g',d',tk',os'⟩:=s';have eg:g'=s.gens:=hm.gens;have ed:d'=s.drawn:=hm.drawn;have eo:os'=s.os:=hm.os;subst eg;subst ed;subst eo;show wpAny _ _ _ _ _ _
        refine n6_ ?_;show wpAny _ _ (ret Value.none) _ _ _
        refine n6_ ⟨rfl,h',tk',rfl,hS',fun b o hb e=>?_⟩;have hb1:b≠s.z:=n23_ hb
        have hb2:b≠(s.heap.push (set0 w)).objs.size:=by
         rw [n48_];exact n23_ (n55_ hb)
        exact hm.heap b o (by simp only [n12_,n18_,n16_,or_false,not_or];exact ⟨hb1,hb2⟩) (n2_ _ (n2_ _ e))
     · cases r₂ with
       | error e=>exact hr₂
       | ok fl₂ =>
         cases fl₂ with
         | ret r =>
           obtain ⟨rfl,h',tk,rfl,hS',hk'⟩:=hr₂
           repeat (any_goals (first|assumption|wp_step))
           exact h _ _ hS' hk'
         | _=>exact hr₂.elim
   | _=>exact hr.elim
end
theorem Zmf (hc:X.calm=true):Xl X (.type "set") (fun xs H Q=>∃ (p:Addr) (ns:?g),xs=[.ref p]∧SqT X.K H p ?U∧ns.length≤30∧∀ S,H S=none→Q (.ref S) (upd H S (setI (Z3 X.w) S (metI ns)))):=by
 intro pins s σ H xs us Q I r h;obtain ⟨p,ns,rfl,hq,hb,q⟩:=h;cases r with
 | cons rx r =>
   cases r
   cases (show _=Value.ref p from rx)
   obtain ⟨its,rv,pl,hz⟩:=I.tuple hq;have hlen:=rv.length;rw [n3_] at hlen;have ia:=Zbg rv;refine Zqa (I.ok.hd hc) pl (by simpa using ia) (by simp;omega) fun h' tk hS hk=>?_;exact ⟨.ref s.z,_,I.laid (o:=setI (Z3 X.w) s.z (metI ns)) (t':=tk) (fun b o e=>hk b o (n13_ e) e) (n7_ _) (Zjr hS),rfl,q _ (I.hok.fresh (n7_ _))⟩
end L2
namespace STb
open PySem
theorem room_sizes:∀ n,n<31→(SetTable.sizeAbove (n*2)-1=7∨SetTable.sizeAbove (n*2)-1=31∨SetTable.sizeAbove (n*2)-1=127∨SetTable.sizeAbove (n*2)-1=15∨SetTable.sizeAbove (n*2)-1=63∨SetTable.sizeAbove (n*2)-1=255)∧n<SetTable.sizeAbove (n*2)-1+1∧n*5<(SetTable.sizeAbove (n*2)-1)*3∧¬ SetTable.sizeAbove (n*2)>sizeLine:=?i
theorem laid_perm {hs:Array Int} {M finger moves:Nat} {led plain:Bool} (hm:masks M) (hl:hs.size<M+1):∃ (t':SetTable) (order:Array Nat),SetTable.laid M finger moves led plain hs=some (t',order)∧t'.mask=M∧t'.dummies=#[]∧t'.place.size=hs.size∧t'.plain=plain∧order.toList.Perm (List.range hs.size):=by
 obtain ⟨owner,e,o,p⟩:=Zcc hm hs hl;refine ⟨{ mask:=M,place:=((?ao).map (·.1)).toArray,dummies:=#[],finger,led,moves,plain },((?ao).map (·.2)).toArray,?_,rfl,rfl,?_,rfl,?_⟩
 · unfold SetTable.laid;rw [e];rfl
 · simp only [n11_,n3_];exact Zkd o
 · show (List.map (·.2) (?ao)).Perm _
   rw [Zgx o];exact p
end STb
namespace L2
open PySem PySem.Spec PyProof.Rows
variable {S a b it:Addr} {es:?aa} {X:Cx} {H2:Hp} {pins:?B} {fr:List (Option Nat)} {cl:List (Str×Addr)} {fp:List Addr} {ks ns:?g} {N:List Str} {ep m:Nat} {pos:Pos} {scope:Scope} {s3:Shared} {σ:St} {Q:Value→?j}
section
variable {P:Program} {w:World} {bt:Bool} {A:Around} {E:Value→?j} {s:Shared}
theorem IsW.of_perm {es':?aa} {t t':SetTable} (i:IsW bt ks es t) (p:es'.toList.Perm es.toList) (tp:STb.TP bt es'.size t'):IsW bt ks es' t':=by
 obtain ⟨ns,x,y⟩:=i.ns;obtain ⟨ms,x',y'⟩:=Zb3 (p.map (·.2)) x;exact ⟨fun e he=>i.el e (p.mem_iff.mp he),⟨ms,x',y'.trans y⟩,i.nd,tp⟩
theorem Zqn {Q:Unit→?j} (hS:SetI bt s.heap a ks) (h30:ks.length+m≤30)
 (q:∀ h' o es ep t,Heap.SameBut a s.heap h'→h'.get? a=some o→o.ExactSet→o.data=.set es ep t→es.size<scanBound→IsW bt ks es t→(ks.length+m)*5<t.mask*3→Q () ?T) :
 wpAny (model P w) A (setRoomFor a m) Q E s:=by
 obtain ⟨o,es,ep,t,ho,hex,hd,hb,i⟩:=hS;have hlen:=i.len
 have fill:t.fill=es.size:=by
  unfold SetTable.fill;rw [i.tw.tw.dum,i.tw.sz];rfl
 unfold setRoomFor;refine n1_ (wpAny_setState_of ho hd i.tw.fits ?_);dsimp only;unfold SetTable.roomFor;rw [fill,i.tw.sz]
 by_cases hf:(es.size+m)*5 ≥ t.mask*3
 · rw [if_pos hf];dsimp only;obtain ⟨g1,g2,g3,g4⟩:=STb.room_sizes (es.size+m) (?d);have z:(es.map (·.1)).size=es.size:=by simp
   obtain ⟨t',order,e,r1,r2,r3,r4,r5⟩:=STb.relaid_perm (t:=t) (hs:=es.map (·.1)) (wanted:=(es.size+m)*2) rfl g1 (by rw [z];omega);rw [z] at r3 r5;have os:order.size=es.size:=by rw [← Array.length_toList,r5.length_eq,n69_]
   have ps:=(STb.pick_size os (fun k hk=>n32_.mp (r5.mem_iff.mp hk))).1;have pm:=Zbn (es:=es) r5;have tw':STb.TP bt (order.filterMap (es[·]?)).size t':=⟨STb.TW.laid i.tw.tw.led e,by rw [r4];exact i.tw.pl,by rw [r1];exact g1,by rw [r3,ps],by rw [r1,ps];omega⟩;unfold setRelay;refine n1_ (wpAny_setState_of ho hd i.tw.fits ?_);dsimp only;rw [if_neg g4,e];have hbn:((order.filterMap (es[·]?)).size != es.size)=false:=by rw [ps];simp
   refine n1_ ?_
   have red:wpAny (model P w) A (if ((order.filterMap (es[·]?)).size != es.size)=true then (unsupported "internal:set-table-lost-an-element" : Sem (?aa×SetTable)) else pure (order.filterMap (es[·]?),t')) (fun r s'=>wpAny (model P w) A (storeSet a r.1 r.2) Q E s') E s:=by
    rw [hbn,if_neg ?e];refine n6_ ?_;refine wpAny_storeSet_of ho hd ?_ (by rw [ps,sizeLine_eq];omega);exact q _ _ _ _ _ (Heap.SameBut.update ..) (Zck _ _ ho hd) hex rfl (by rw [ps];exact hb) (i.of_perm pm tw') (by rw [r1,← hlen];exact g3)
   first
    | exact red
    | (refine n1_ ?_;exact red)
 · rw [if_neg hf];dsimp only;refine n6_ ?_;have e:s={ s with heap:=s.heap }:=by cases s;rfl
   rw [e];exact q _ o es ep t (Heap.SameBut.refl _ _) ho hex hd hb i (?d)
end
section
variable {P:Program} {w:World} {A:Around} {E:Value→?j} {s:Shared}
theorem Zc2 {t:SetTable} {Q:?aa→?j} (x:SetAt w s.heap S es ep t) (h:∀ ar:?aa,ar.toList.Perm es.toList→Q ar s):wpAny (model P w) A (setWalk S) Q E s:=by
 cases ht:Z3 w with
 | true=>exact Zba x ht (h _ (Zd8 _ _))
 | false =>
   obtain ⟨o,g,ex,d⟩:=id x.get;unfold setWalk;refine n1_ (wpAny_setState_of g d x.tp.fits ?_);dsimp only;refine n1_ (Zah ?_);rw [ht];simp only [n39_,if_false];rw [if_neg (by show ¬ ((!t.plain&&decide (es.size>1))=true);rw [x.tp.pl];simp)];have led:t.led=true:=by rw [x.tp.tw.led,ht];rfl
   refine n1_ ?_;show wpAny _ _ (if (!t.led&&decide (es.size>1))=true then _ else _) _ _ _
   rw [if_neg (by rw [led];simp)];exact n6_ (n6_ (h _ (.refl _)))
theorem Zer {t:SetTable} {Q:?aa→?j} {os:List Addr} {fl:Option Addr} (x:SetAt w s.heap S es ep t) (h:∀ ar:?aa,ar.toList.Perm es.toList→Q ar s):wpAny (model P w) A (setWalkUnseen S os fl) Q E s:=by
 obtain ⟨o,g,ex,d⟩:=id x.get;unfold setWalkUnseen;refine n1_ (wpAny_setState_of g d x.tp.fits ?_);dsimp only;refine n1_ (Zah ?_)
 have c:(Z3 w||(t.led&&t.plain)||decide (es.size≤1))=true:=by
  rw [x.tp.pl,x.tp.tw.led];cases Z3 w<;>rfl
 rw [if_pos c]
 first
  | exact Zc2 x h
  | exact n1_ (Zc2 x fun ar p=>n6_ (h ar p))
end
section
variable {P:Program} {w:World} {A:Around} {E:Value→?j} {s:Shared}
theorem Zp9 {vs:?t} (h:IntsAre vs ns):∀ v∈vs,∃ n t,v=.int n t∧n∈ns:=by
 induction h with
 | nil=>intro v hv;cases hv
 | cons n t r ih =>
   intro v hv
   rcases n12_.mp hv with rfl|hv
   · exact ⟨n,t,rfl,n20_⟩
   · obtain ⟨m,u,e,hm⟩:=ih v hv;exact ⟨m,u,e,n15_ _ hm⟩
theorem Zre {ms:?g} {each:Sem Unit} {Q:Unit→?j} (ne:a≠b) (hS:SetI (Z3 w) s.heap a ks) (hO:SetI (Z3 w) s.heap b ms) (h30:ks.length+ms.length≤30)
 (he:∀ (h':Heap) (Q':Unit→?j),Heap.SameBut a s.heap h'→Q' () ?T→wpAny (model P w) A each Q' E ?T)
 (q:∀ h' us,Heap.SameBut a s.heap h'→SetI (Z3 w) h' a us→us.Nodup→(∀ x,x∈us↔x∈ks∨x∈ms)→us.length≤ks.length+ms.length→Q () ?T) :
 wpAny (model P w) A (setMerge a b each) Q E s:=by
 obtain ⟨oo,eo,epo,to,hoo,hexo,hdo,hbo,io⟩:=id hO;have lo:=io.len;unfold setMerge;rw [if_neg (by simpa using ne)];refine n1_ (wpAny_setState_of hoo hdo io.tw.fits ?_);dsimp only
 by_cases emp:eo.isEmpty=true
 · rw [if_pos emp]
   have m0:ms=[]:=by
    have:eo.size=0:=by simpa [Array.isEmpty] using emp
    exact List.length_eq_zero_iff.mp (?d)
   refine n6_ ?_;have e:s={ s with heap:=s.heap }:=by cases s;rfl
   rw [e];have nd:ks.Nodup:=let ⟨_,_,_,_,_,_,_,_,i⟩:=hS;i.nd;exact q s.heap ks (Heap.SameBut.refl _ _) hS nd (by simp [m0]) (?d)
 rw [if_neg emp];refine n1_ (Zqn (m:=eo.size) hS (?d) fun h1 o1 es1 ep1 t1 sb1 g1 ex1 d1 b1 i1 few1=>?_);refine n1_ (wpAny_setState_of (s:=?V) g1 d1 i1.tw.fits ?_);dsimp only;have hoo1:h1.get? b=some oo:=(sb1.2 b (Ne.symm ne)).trans hoo
 have fill1:t1.fill=es1.size:=by
  unfold SetTable.fill;rw [i1.tw.tw.dum,i1.tw.sz];rfl
 have len1:=i1.len
 by_cases f0:es1.size=0
 · have k0:ks=[]:=List.length_eq_zero_iff.mp (?d)
   have road:t1.road to=if (t1.mask == to.mask&&to.dummies.isEmpty)=true then .slotForSlot else .clean:=by
    unfold SetTable.road;rw [fill1,f0];rfl
   have memx:∀ x:Int,x∈ms↔x∈ks∨x∈ms:=fun x=>by rw [k0];simp
   by_cases mk:(t1.mask == to.mask&&to.dummies.isEmpty)=true
   · rw [road,if_pos mk];dsimp only
     have tp:STb.TP (Z3 w) eo.size { to with finger:=t1.finger,led:=t1.led&&to.led,moves:=t1.moves,plain:=t1.plain&&to.plain } :=
      ⟨⟨by show (t1.led&&to.led)=_;rw [i1.tw.tw.led,io.tw.tw.led];cases Z3 w<;>rfl,io.tw.tw.ris,io.tw.tw.dum⟩,by show (t1.plain&&to.plain)=true;rw [i1.tw.pl,io.tw.pl];rfl,io.tw.msk,io.tw.sz,io.tw.few⟩
     refine wpAny_storeSet_of (s:=?V) g1 d1 ?_ (by rw [sizeLine_eq];omega);exact q _ ms (sb1.trans (Heap.SameBut.update ..)) ⟨_,_,_,_,Zck _ _ g1 d1,ex1,rfl,hbo,io.of_perm (.refl _) tp⟩ io.nd memx (?d)
   · rw [road,if_neg mk];dsimp only;have zs:(eo.map (·.1)).size=eo.size:=by simp
     obtain ⟨t',order,e,r1,r2,r3,r4,r5⟩:=STb.laid_perm (hs:=eo.map (·.1)) (M:=t1.mask) (finger:=t1.finger) (moves:=t1.moves) (led:=t1.led&&to.led) (plain:=t1.plain&&to.plain) i1.tw.msk (by rw [zs];omega);rw [zs] at r3 r5;have os:order.size=eo.size:=by rw [← Array.length_toList,r5.length_eq,n69_]
     have ps:=(STb.pick_size os (fun k hk=>n32_.mp (r5.mem_iff.mp hk))).1;have pm:=Zbn (es:=eo) r5;have led:(t1.led&&to.led) = !Z3 w:=by rw [i1.tw.tw.led,io.tw.tw.led];cases Z3 w<;>rfl
     have tw':STb.TP (Z3 w) (order.filterMap (eo[·]?)).size t':=⟨STb.TW.laid led e,by rw [r4,i1.tw.pl,io.tw.pl];rfl,by rw [r1];exact i1.tw.msk,by rw [r3,ps],by rw [r1,ps];omega⟩;rw [e];have hbn:((order.filterMap (eo[·]?)).size != eo.size)=false:=by rw [ps];simp
     refine n1_ ?_
     have red:wpAny (model P w) A (if ((order.filterMap (eo[·]?)).size != eo.size)=true then (unsupported "internal:set-table-lost-an-element" : Sem (?aa×SetTable)) else pure (order.filterMap (eo[·]?),t')) (fun r s'=>wpAny (model P w) A (storeSet a r.1 r.2) Q E s') E ?V:=by
      rw [hbn,if_neg ?e];refine n6_ ?_;refine wpAny_storeSet_of (s:=?V) g1 d1 ?_ (by rw [ps,sizeLine_eq];omega);exact q _ ms (sb1.trans (Heap.SameBut.update ..)) ⟨_,_,_,_,Zck _ _ g1 d1,ex1,rfl,by rw [ps];exact hbo,io.of_perm pm tw'⟩ io.nd memx (?d)
     first
      | exact red
      | (refine n1_ ?_;exact red)
 · have road:t1.road to=.oneByOne:=by
    unfold SetTable.road;rw [fill1,if_pos (by simpa using f0)]
   rw [road];dsimp only;have at1:SetAt w h1 b eo epo to:=⟨⟨oo,hoo1,hexo,hdo⟩,io.tw⟩;refine n1_ (Zer (s:=?V) at1 fun ar par=>?_)
   have ents:∀ e∈ar.toList,∃ n t,e.2=.int n t∧e.1=hashInt n:=fun e he=>by
    have he':=par.mem_iff.mp he;obtain ⟨ns,hns,_⟩:=io.ns;obtain ⟨n,t,en,_⟩:=Zp9 hns e.2 (n89_ he');obtain ⟨⟨k,hk,hh⟩,_⟩:=io.el e he';refine ⟨n,t,en,?_⟩;rw [en] at hk
    have:n=k:=by simpa [Value.isInt] using hk
    rw [this];exact hh
   have lar:ar.toList.length=ms.length:=by rw [par.length_eq,Array.length_toList];exact lo
   have mem2:∀ x:Int,x∈ms↔∃ e∈ar.toList,Value.isInt x e.2=true:=fun x=>by
    rw [io.mem];exact ⟨fun ⟨e,h1,h2⟩=>⟨e,par.mem_iff.mpr h1,h2⟩,fun ⟨e,h1,h2⟩=>⟨e,par.mem_iff.mp h1,h2⟩⟩
   refine n1_ (wpAny_forIn_array' _ (fun rest _ s'=>∃ h' us done,s'=?T∧Heap.SameBut a s.heap h'∧SetI (Z3 w) h' a us∧ar.toList=done++rest∧us.Nodup∧us.length≤ks.length+done.length∧∀ x,x∈us↔x∈ks∨∃ e∈done,Value.isInt x e.2=true) _ ?_ ?_ _ _ ⟨h1,ks,[],rfl,sb1,⟨_,_,_,_,g1,ex1,d1,b1,i1⟩,rfl,i1.nd,by simp,by simp⟩)
   · rintro ⟨hh,x⟩ rest _ s' ⟨h',us,done,rfl,sb',hS',ear,nd',len',mem'⟩
     have hx:(hh,x)∈ar.toList:=by rw [ear];simp
     obtain ⟨n,t,e1,e2⟩:=ents _ hx;simp only at e1 e2;subst e1 e2;have ld:done.length+(rest.length+1)=ms.length:=by rw [← lar,ear,n33_,n29_]
     refine n1_ (n38_ (Zfc (s:=?T) hS' (?d) fun _ h2 sb2 hS2=>?_));have sb3:=sb'.trans sb2;refine n1_ (he h2 _ sb3 ?_);have hoo2:h2.get? b=some oo:=(sb3.2 b (Ne.symm ne)).trans hoo;refine n1_ (wpAny_setState_of (s:={ s with heap:=h2 }) hoo2 hdo io.tw.fits ?_);dsimp only;rw [if_neg ?f];refine n6_ ⟨h2,addI us n,done++[(hashInt n,.int n t)],rfl,sb3,hS2,by rw [ear];simp,Zml nd',?_,fun x=>?_⟩
     · have:=Zkz us n
       rw [n33_,List.length_singleton];omega
     · rw [Zky,mem'];simp only [n36_,n18_,or_and_right,exists_or,exists_eq_left,Value.isInt,beq_iff_eq,or_assoc];exact or_congr_right (or_congr_right eq_comm)
   · rintro _ s' ⟨h',us,done,rfl,sb',hS',ear,nd',len',mem'⟩
     rw [List.append_nil] at ear;rw [ear] at lar;exact n6_ (q h' us sb' hS' nd' (fun x=>by rw [mem',mem2,ear]) (?d))
end
section
variable {P:Program} {w:World} {A:Around} {E:Value→?j} {s:Shared}
theorem Zha:entryFor table "set.__or__" = some Builtin.«frozenset.__or__»:=entryFor_alias (id' := "frozenset.__or__") (?q) rfl (?i) (?q)
theorem Znx {v:Value} {Q:Bool→?j} (hT:s.TypeIs v "set") (h:Q true s):wpAny (model P w) A (Builtin.Frozenset.isAnySet v) Q E s:=n1_ (wpAny_isInstance hT sub_set_self (n6_ h))
theorem Zwc {ms:?g} (hO:SetI (Z3 w) s.heap b ms) (h30:ms.length≤30)
 (q:∀ h' us,(∀ c o,s.heap.get? c=some o→h'.get? c=some o)→s.z<h'.objs.size→SetI (Z3 w) h' s.z us→us.Nodup→(∀ x,x∈us↔x∈ms)→us.length≤ms.length→Q (.ref s.z) ?T) :
 wpAny (model P w) A (Builtin.Frozenset.copyOf b) Q E s:=by
 unfold Builtin.Frozenset.copyOf Builtin.Frozenset.baseOf;refine n1_ (n1_ (wpAny_isInstance hO.typeIs sub_set_self (n6_ ?_)));refine n1_ (Zsg fun o0 h0=>?_);have hlt:b<s.z:=let ⟨_,_,_,_,g,_⟩:=hO;n13_ g;have hO':SetI (Z3 w) (s.heap.push o0) b ms:=SetI.stay _ _ hO fun o e=>n2_ _ e;refine n1_ (n6_ ?_);refine n1_ (Zre (s:={ s with heap:=s.heap.push o0 }) (n75_ hlt) h0 hO' (by simpa using h30) (fun h' Q' _ hq=>n6_ hq) fun h' us sb hS nd mem len=>n6_ ?_);refine q h' us (fun c o e=>?_) ?_ hS nd (fun x=>by rw [mem];simp) (by simpa using len)
 · rw [sb.2 c (n23_ (n13_ e))];exact n2_ _ e
 · rw [sb.1];simp [Heap.push]
end
section
variable {X:Cx}
theorem Zv1:OpR X (binaryOp .BitOr) (fun x y H Q=>∃ (a b:Addr) (ks ms:?g),x=.ref a∧y=.ref b∧a≠b∧H a=some (setI (Z3 X.w) a ks)∧H b=some (setI (Z3 X.w) b ms)∧ks.length+ms.length≤30∧∀ S us H',?H→us.Nodup→(∀ x,x∈us↔x∈ks∨x∈ms)→us.length≤ks.length+ms.length→H' S=some (setI (Z3 X.w) S us)→Q (.ref S) H'):=by
 intro pins s σ H x y v u Q I rx ry h;obtain ⟨a,b,ks,ms,rfl,rfl,ne,ha,hb,hz,q⟩:=h;cases rx
 cases ry
 have sa:SetI (Z3 X.w) s.heap a ks:=Zjb (I.hok a _ ha);have sb:SetI (Z3 X.w) s.heap b ms:=Zjb (I.hok b _ hb);refine wpAny_binaryOp_same sa.typeIs sb.typeIs F.fills_set_or F.slot_set_or (wpAny_call_entry F.slot_set_or sa.typeIs Zha ?_ (F.args_set_or_2 _ _));unfold Builtin.«frozenset.__or__»;show wpAny _ _ (Builtin.Frozenset.slot1 "__or__" ⟨[.ref a,.ref b],[]⟩ >>= _) _ _ s
 refine n1_ (wpAny_of_eq (show Builtin.Frozenset.slot1 "__or__" ⟨[.ref a,.ref b],[]⟩=pure (.ref a,.ref b) from rfl) ?_);dsimp only;simp only [n39_,if_false];refine n1_ (n1_ (Znx sa.typeIs ?_));refine Znx sb.typeIs ?_;simp only [Bool.not_true,n39_,if_false];refine n1_ (n6_ ?_);refine n1_ ?_;show wpAny _ _ (Builtin.Frozenset.copyOf a >>= _) _ _ s
 refine n1_ (Zwc sa (?d) fun h1 us keep lt hS nd mem len=>?_);have hbs:b<s.z:=let ⟨_,_,_,_,g,_⟩:=sb;n13_ g;have sb1:SetI (Z3 X.w) h1 b ms:=SetI.stay _ _ sb fun o e=>keep _ _ e;rw [if_pos (by simpa using Ne.symm ne)];refine n1_ (n6_ ?_);refine n1_ (n38_ ?_);unfold Builtin.Frozenset.updateFrom;refine n1_ (Znx (s:=?V) sb1.typeIs ?_);simp only [if_true];refine n1_ (n6_ ?_);unfold Builtin.Frozenset.merge setEpoch;obtain ⟨ob,es,ep,t,g1,ex,dt,hbd,iw⟩:=id sb1;refine n1_ (n1_ (wpAny_setState_of (s:=?V) g1 dt iw.tw.fits (n6_ ?_)));refine Zre (s:=?V) (n75_ hbs) hS sb1 (by have:=len;omega) (fun h' Q' sbu hq=>?_) fun h2 us2 sbu hS2 nd2 mem2 len2=>?_
 · unfold Builtin.Frozenset.unchanged setEpoch;have g2:h'.get? b=some ob:=(sbu.2 b (n23_ hbs)).trans g1;refine n1_ (n1_ (wpAny_setState_of (s:=?T) g2 dt iw.tw.fits (n6_ ?_)));rw [if_neg ?f];exact n6_ hq
 · refine n6_ (n6_ ⟨_,rfl,by simp,.ref s.z,_,I.laid (o:=setI (Z3 X.w) s.z us2) (t':=s.toks) (fun c o e=>?_) (n7_ _) (Zjr hS2),rfl,q _ us2 _ (Same.new (I.hok.fresh (n7_ _))) nd2 (fun x=>by rw [mem2,mem]) (?d) Zc⟩);rw [sbu.2 c (n23_ (n13_ e))];exact keep _ _ e
end
abbrev dc2 (kx vx t0 i0 t1 i1:Expr) (scope:Scope) (pos:Pos):Expr:=.DictComp kx vx [⟨t0,i0,[],0⟩,⟨t1,i1,[],0⟩] scope pos
def Zvy (c t1 i1 kx vx:Expr) (it:Value) (D:Addr) (env:Env):Sem Fin:=do
 standAt i1.pos
 match ← pyNext it with
 | none=>pure (.done .next)
 | some v =>
   letOwnedTupleGo t1 it v
   assign t1 env v
   let mut ok:=true
   for c in ([]:List Expr) do
    if ok then ok ← isTrue c env (eval c env)
   if ok then
    (do
      let kv ← eval kx env
      let vv ← holding [kv] (eval vx env)
      standAt { kx.pos with endLine:=vx.pos.endLine,endCol:=vx.pos.endCol }
      holding [kv,vv] (dictSet D kv vv))
   again (.compLoop c 1 it (.ref D) env)
section
variable {prog:Program} {w:World} {A:Around} {R:Result→?j} {s:Shared} {kx vx t0 i0 t1 i1:Expr} {scope:Scope} {pos:Pos} {it:Value} {D:Addr} {env:Env}
theorem Zj3 (A:Around) (k:Nat) (hk:k<2) (it acc:Value) (env:Env) (R:Result→?j) (s4:Shared) (h0:codeAny ?D A (.compLoop ?ac k it acc env) R s4) (h:∀ E,wpAny ?D A (pyIter it) (fun it' s'=>codeAny ?D A (.compLoop ?ac k it' acc env) R s') E s4):codeAny ?D A (.compStart ?ac k it acc env) R s4:=by
 refine codeAny_of_tree ?_;show wpAny _ _ ((compStart ?ac k it acc env).onRaise (fun x=>do noteFrame x env;standAt theWindowsPlace)) _ _ s4
 refine wpAny_notedAt ?_;have hk':k=0∨k=1:=?d
 rcases hk' with rfl|rfl <;>
 · unfold compStart;show wpAny _ _ (ask >>= _) _ _ s4
   refine n1_ (wpAny_askSetting (wpAny_ite ?_));split
   · first
      | exact n1_ (n6_ (n6_ (And.intro rfl h0)))
      | exact n6_ (And.intro rfl h0)
   · first
      | exact n1_ (wpAny_rule (n1_ (wpAny_standAt (n1_ (n56_ (h NoX) (fun it' s' h'=>n6_ (And.intro rfl h')) fun _ _ x=>x.elim)))))
      | (refine n1_ (wpAny_rule ?_);show wpAny _ _ (standAt _ >>= _) _ _ s4;exact n1_ (wpAny_standAt (n1_ (n56_ (h NoX) (fun it' s' h'=>n6_ (And.intro rfl h')) fun _ _ x=>x.elim))))
theorem Zpc (I:Nat→?j)
 (turn:∀ n s,I n s→Zoh ?D A t1 it env R (fun n s3=>wpAny ?D A (eval kx env) (fun k s4=>wpAny ?D A (eval vx env) (fun y s5=>wpAny ?D A (dictSet D k y) (fun _ s6=>∃ m,m<n∧I m s6) NoX s5) NoX s4) NoX s3) n s)
 (n:Nat) (h:I n s):codeAny ?D A (.compLoop ?ac 1 it (.ref D) env) R s:=by
 refine codeAny_loop rfl I (fun n s hI=>?_) n h;show wpAny _ A ((compTurn ?ac 1 it (.ref D) env).onRaise (fun x=>do noteFrame x env;theTreesLotGoes x)) _ _ s
 refine wpAny_noted ?_;rw [show compTurn ?ac 1 it (.ref D) env=Zvy ?ac t1 i1 kx vx it D env from rfl];unfold Zvy;refine n1_ (wpAny_standAt (n1_ (n56_ (turn n s hI) (fun r s1 h1=>?_) fun _ _ h'=>h'.elim)));cases r with
 | none=>exact n6_ h1
 | some v =>
   refine n1_ (n56_ h1 (fun _ s2 h2=>n1_ (n56_ h2 (fun _ s3 h3=>n1_ (n6_ ?_)) fun _ _ h'=>h'.elim)) fun _ _ h'=>h'.elim);simp only [if_true];exact n1_ (n1_ (n56_ h3 (fun k s4 h4=>n1_ (n38_ (n56_ h4 (fun y s5 h5=>n1_ (wpAny_standAt (n38_ (n56_ h5 (fun _ s6 h6=>n6_ ⟨rfl,h6⟩) fun _ _ h'=>h'.elim)))) fun _ _ h'=>h'.elim))) fun _ _ h'=>h'.elim))
theorem Zpx (hs1:∀ x,foldedSetIterable i1 env x=pure x) (I:Nat→?j)
 (turn:∀ n s,I n s→Zoh ?D A t0 it env R (fun n s3=>wpAny ?D A (eval i1 env) (fun x s4=>wpAny ?D A (pyIter x) (fun itv s5 =>
   codeAny ?D A (.compStart ?ac 1 itv (.ref D) env) (fun r s6=>match r with|.ok _=>∃ m,m<n∧I m s6|.error _=>False) s5) NoX s4) NoX s3) n s)
 (n:Nat) (h:I n s):codeAny ?D A (.compLoop ?ac 0 it (.ref D) env) R s:=by
 refine codeAny_loop rfl I (fun n s hI=>?_) n h;show wpAny _ A ((compTurn ?ac 0 it (.ref D) env).onRaise (fun x=>do noteFrame x env;theTreesLotGoes x)) _ _ s
 refine wpAny_noted ?_;rw [show compTurn ?ac 0 it (.ref D) env=Zuw ?ac t0 i0 i1 it (.ref D) env from rfl];unfold Zuw;refine n1_ (wpAny_standAt (n1_ (n56_ (turn n s hI) (fun r s1 h1=>?_) fun _ _ h'=>h'.elim)));cases r with
 | none=>exact n6_ h1
 | some v =>
   refine n1_ (n56_ h1 (fun _ s2 h2=>n1_ (n56_ h2 (fun _ s3 h3=>n1_ (n6_ ?_)) fun _ _ h'=>h'.elim)) fun _ _ h'=>h'.elim);simp only [if_true];refine n1_ (n56_ h3 (fun x s4 h4=>n1_ (wpAny_standAt (n1_ (wpAny_of_eq (hs1 x) (n1_ (n38_ (n56_ h4 (fun itv s5 h5=>n1_ (wpAny_runOwn ?_)) fun _ _ h'=>h'.elim))))))) fun _ _ h'=>h'.elim);refine codeAny_mono h5 fun r s6 h6=>?_;cases r with
   | ok f=>exact n6_ ⟨rfl,h6⟩
   | error e=>exact h6.elim
end
def D2In (J1:It) (g1:TG) (tk tv:TE) (D:Addr) (σ4:St) (H5:Hp) (fin:St→?w):Prop:=∃ W1:Nat→Nat→St→?w,(∃ m1,W1 0 m1 σ4 H5)∧∀ i1 m1 σ6 H6,W1 i1 m1 σ6 H6 →
 (J1.stop i1 H6∧fin σ6 H6)∨(J1.go i1 H6∧∀ y H7,J1.yld i1 H6 y H7→g1 y σ6 H7 fun σ8 H8=>tk σ8 H8 fun k H9=>tv σ8 H9 fun y HA=>∃ kvs key b,HA D=some (.dT kvs)∧k=.ref b∧HA b=some (.tup (key.map kV))∧kvs.length<sizeLine∧∃ m1',m1'<m1∧W1 (i1+1) m1' σ8 (upd HA D (.dT (putK kvs key y))))
def D2Go (J:It) (g0:TG) (wi1:TI) (g1:TG) (tk tv:TE) (σ0:St) (H1:Hp) (D:Addr) (Q:VK):Prop:=∃ W:Nat→Nat→St→?w,(∃ m,W 0 m σ0 (upd H1 D (.dT []))) ∧
 ∀ i m σ2 H2,W i m σ2 H2→(J.stop i H2∧Q (.ref D) H2)∨(J.go i H2∧∀ x H3,J.yld i H2 x H3→g0 x σ2 H3 fun σ4 H4=>wi1 σ4 H4 fun J1 H5=>D2In J1 g1 tk tv D σ4 H5 fun σ6 H6=>∃ m',m'<m∧W (i+1) m' σ6 H6)
theorem Zti {s2:Shared} {t0 i0 t1 i1 kx vx:Expr} {g0 g1:TG} {wi1:TI} {tk tv:TE} {J:It} {tn:Nat→Heap→Prop} {o0:Obj} {Q:VK}
 (hu:X.A.units<cLine) (hs3:s3={ s2 with heap:=s2.heap.push o0 }) (hc:X.calm=true) (L:LcO X scope cl N fr) (hg:∀ C s3 H3 fp,PG ?ab t0 g0) (hi1:∀ C s3 H3 fp,PI ?ab t1 i1 wi1) (hg1:∀ C s3 H3 fp,PG ?ab t1 g1) (hk:∀ C s3 H3 fp,PE ?ab kx tk) (hv:∀ C s3 H3 fp,PE ?ab vx tv)
 (I2:Inv X pins σ H2 s2) (T:Turn X.prog X.w X.K t0 J fp it tn) (st2:tn 0 s2.heap) (f2:∀ b∈fp,FpOk X pins H2 b)
 (ok0:ObjOk X.prog X.w (upd H2 s2.z (.dT [])) (s2.heap.push o0) s2.z (.dT [])) (h:D2Go J g0 wi1 g1 tk tv (Zbx fr σ) H2 s2.z Q) (hs1:∀ env x,foldedSetIterable i1 env x=pure x) :
 wpAny ?A X.A (newFunctionEnv scope X.env.globals cl [] X.env.qual none .none (some X.env)) (fun cenv s4=>codeAny ?A X.A (.compStart ?ac 0 (.ref it) (.ref s2.z) { cenv with scope:=relabel scope X.env }) (compPost ?A X.A X.xe none (EP X pins σ Q) (.ref s2.z) cenv.locals) s4) X.xe s3:=by
 obtain ⟨W,⟨m0,w0⟩,turn⟩:=h;refine Zge (R:=fun C=>compPost ?A X.A X.xe none (EP X pins σ Q) (.ref s2.z) C) hs3 hc L hg I2 T st2 f2 ok0 w0 turn (fun env s4 a b=>Zj3 _ 0 ?e _ _ _ _ _ a b) (fun LI s4 t n h=>Zpx (hs1 _) LI t n h) (fun H7 s7 qn _ _ c=>Zob qn c) fun LI n i σ9 H9 s9 ps I9 q9 again=>?_;refine thn (hi1 _ _ _ _ ps s9 σ9 H9 _ I9 q9) fun xv s10 h10=>thn h10 fun itv s11 h11=>?_;obtain ⟨it1,fp1,tn1,J1,H11,e,I11,T1,st11,f11,W1,⟨m1,w1⟩,turn1⟩:=h11;subst e;have fpC:∀ {H':Hp} (b:Addr),b∈fp1→H' b=none→FpOk (blk X scope cl s3.z N s3 (upd H2 s2.z (.dT [])) fp) ps H' b:=fun b hb hn=>⟨hn,(f11 b hb).2⟩
 have lp:codeAny ?A X.A (.compLoop ?ac 1 (.ref it1) (.ref s2.z) (blk X scope cl s3.z N s3 (upd H2 s2.z (.dT [])) fp).env) (fun r s6=>match r with|.ok _=>∃ m,m<n∧LI m s6|.error _=>False) s11:=by
  refine Zpc (fun n1 s'=>∃ j σ' H',Inv (blk X scope cl s3.z N s3 (upd H2 s2.z (.dT [])) fp) ps σ' H' s'∧tn1 j s'.heap∧(∀ b∈fp1,H' b=none)∧W1 j n1 σ' H') ?_ m1 ⟨0,_,_,I11,st11,fun b hb=>(f11 b hb).1,w1⟩;rintro n1 s13 ⟨j,σ13,H13,I13,st13,fr13,w13⟩
  unfold Zoh
  rcases turn1 j n1 σ13 H13 w13 with ⟨stop,m',hm',qn⟩|⟨go1,step1⟩
  · refine thn (T1.done (blk X scope cl s3.z N s3 (upd H2 s2.z (.dT [])) fp) rfl rfl rfl hc j _ s13 σ13 H13 (fun _ _=>False) I13 (fun b hb=>fpC b hb (fr13 b hb)) st13 stop) fun r s14 ⟨hr,I14⟩=>?_;subst hr;exact again I14 hm' qn
  · refine thn (T1.item (blk X scope cl s3.z N s3 (upd H2 s2.z (.dT [])) fp) rfl rfl rfl hc j _ s13 σ13 H13 (fun _ _=>False) I13 (fun b hb=>fpC b hb (fr13 b hb)) st13 go1) fun r s14 ⟨u1,hr,h14⟩=>?_;subst hr;refine thn h14 fun _ s15 ⟨y,H15,I15,r15,y15,st15,fr15⟩=>?_;have I15':=I15.pinned (fun b hb=>fpC b hb (fr15 b hb)) (T1.obj _ _ st15);refine thn (hg1 _ _ _ _ _ s15 σ13 H15 y u1 _ I15' r15 (step1 y H15 y15)) fun _ s16 ⟨σ16,H16,I16,q16⟩=>?_;refine thn (hk _ _ _ _ _ s16 σ16 H16 _ I16 q16) fun ku s17 ⟨kx',H17,I17,r17,q17⟩=>?_;refine thn (hv _ _ _ _ _ s17 σ16 H17 _ I17 q17) fun vu s18 ⟨vx',H18',I18',r18,kvs,key,b,hD,ek,hb,hz,m',hm',w18⟩=>?_;subst ek;cases (show ku=Value.ref b from r17)
    refine Zm0 (X:=blk X scope cl s3.z N s3 (upd H2 s2.z (.dT [])) fp) hu I18' hD hb r18 hz fun s18 I18=>?_;refine ⟨m',hm',j+1,σ16,_,I18.unpinned,T1.keep _ _ _ st15 fun b hb o e=>(I18.pin (b,o) (n26_ _ (n26_ _ (Y4 hb e)))).1,fun b hb=>?_,w18⟩;obtain ⟨o,e,d⟩:=T1.obj _ _ st15 b hb;exact (I18.pin (b,o) (n26_ _ (n26_ _ (Y4 hb e)))).2.1
 exact Zj3 _ 1 ?e _ _ _ _ _ lp fun E=>T1.self _ 0 _ _ _ st11 lp
def tDC2 (wi:TI) (g0:TG) (wi1:TI) (g1:TG) (tk tv:TE) (fr:List (Option Nat)):TE:=fun σ H Q=>wi σ H fun J H1=>∀ D,H1 D=none→D2Go J g0 wi1 g1 tk tv (Zbx fr σ) H1 D Q
theorem Zuz {t0 i0 t1 i1 kx vx:Expr} {wi wi1:TI} {g0 g1:TG} {tk tv:TE}
 (hu:X.A.units<cLine) (hc:X.calm=true) (L:LcO X scope cl N fr) (hi:PI X t0 i0 wi) (hg:∀ C s3 H3 fp,PG ?ab t0 g0) (hi1:∀ C s3 H3 fp,PI ?ab t1 i1 wi1) (hg1:∀ C s3 H3 fp,PG ?ab t1 g1)
 (hk:∀ C s3 H3 fp,PE ?ab kx tk) (hv:∀ C s3 H3 fp,PE ?ab vx tv)
 (hs:∀ x,foldedSetIterable i0 X.env x=pure x:=by intro _;rfl) (hs1:∀ env x,foldedSetIterable i1 env x=pure x:=by intro _ _;rfl):PE X ?ac (tDC2 wi g0 wi1 g1 tk tv fr):=by
 intro pins s σ H Q I h;rw [show eval ?ac X.env=comprehension ?ac scope X.env (firstIterPos [⟨t0,i0,[],0⟩,⟨t1,i1,[],0⟩] pos) newDict (firstAsync [⟨t0,i0,[],0⟩,⟨t1,i1,[],0⟩]) (firstIter [⟨t0,i0,[],0⟩,⟨t1,i1,[],0⟩] X.env) from rfl];refine wpAny_comprehension_free (use:=none) rfl hs L.clos L.kind L.names (thn (hi pins s σ H _ I h) fun v s1 h1=>thn h1 fun itv s2 h2=>?_);obtain ⟨it,fp,tn,J,H2,e,I2,T,st2,f2,h⟩:=h2;subst e;refine wpAny_newObj_type ?_;exact Zti hu rfl hc L hg hi1 hg1 hk hv I2 T st2 f2 (Zkw s2.heap I2.big) (h _ (I2.hok.fresh (n7_ _))) hs1
end L2
namespace L2
open PySem PySem.Spec PyProof.Rows PySem.W
variable {D a b it j t z:Addr} {A:Around} {X:Cx} {e:Expr} {h:Heap} {H H1:Hp} {pins:?B} {kvs:?N} {fp:List Addr} {xs:List V} {ep x1:Nat} {o:Obj} {p pos tp:Pos} {P:Program} {s:Shared} {σ:St} {ta:TA} {v:V} {u:Value} {E:Value→?j} {w:World}
theorem Zlv {k:Key} {r:Value} {Q:Unit→?j} (I:?s) (e:H a=some ?E) (ry:RelV (kV k) u) (rv:RelV v r) (hl:kvs.length<sizeLine) (h:∀ s',Inv X pins σ (upd H a (.dK (putK kvs k v))) s'→Q () s') :
 wpAny ?A A (dictSet a u r) Q E s:=by
 obtain ⟨z,hd,vs,rel,dd⟩:=Zmy I.hok e;have hz:vs.length≤sizeLine:=by rw [← rel.length];exact z
 have hl':(putK kvs k v).length≤sizeLine:=by have:=Yh kvs k v;omega
 refine wpAny_dictSet_pairs (hsz:=hz) (Zjl ry) dd fun h' dd' hs=>h _ ?_;have he:∃ q,h'.get? a=some q:=let ⟨q,_,_,hq,_⟩:=dd';⟨q,hq⟩;exact Zbp I (by rw [e];exact True.intro) hs he (Zk1 hl' hd (rel.put k rv) dd')
structure PItK (X:Cx) (pins:?B) (σ:St) (H1:Hp) (D it:Addr) (fp:List Addr) (st:Nat→Heap→Prop) (ps:?N):Prop where
 obj:∀ i h,st i h→∀ b∈fp,∃ o,h.get? b=some o∧∀ v,o.data≠.cell v
 keep:∀ i h h',st i h→(∀ b∈fp,∀ o,h.get? b=some o→h'.get? b=some o)→st i h'
 fpk:∀ b∈fp,FpOk X pins H1 b∧b≠D
 item:∀ (A:Around) (i:Nat) (s:Shared) (kvs:?N) (k:Key) (y:V) (Q:?C→?j) (E:Value→?j),A.handled=none→ps[i]? = some (k,y)→Inv X pins σ (upd H1 D ?E) s→st i s.heap →
  (∀ T b u s',IsTup s'.heap T #[b,u]→RelV (kV k) b→RelV y u→Inv X pins σ (upd H1 D ?E) s'→st (i+1) s'.heap→Q (some (.ref T)) s')→wpAny ?A A (pyNext (.ref it)) Q E s
 done:∀ (A:Around) (s:Shared) (kvs:?N) (Q:?C→?j) (E:Value→?j),A.handled=none→Inv X pins σ (upd H1 D ?E) s→st ps.length s.heap →
  (∀ s',Inv X pins σ (upd H1 D ?E) s'→Q none s')→wpAny ?A A (pyNext (.ref it)) Q E s
def Yi (kvs ps:?N):?N:=ps.foldl (fun d p=>putK d p.1 p.2) kvs
theorem Zhg {st:Nat→Heap→Prop} {ps:?N} {R:Result→?j} (hu:A.units+1<cLine) (hh:A.handled=none) (hD:H1 D=none) (hz:ps.length≤1000) (P:PItK X pins σ H1 D it fp st ps) :
 ∀ (m i:Nat) (s:Shared) (kvs:?N),ps.length-i=m→i≤ps.length→Inv X pins σ (upd H1 D ?E) s→st i s.heap→kvs.length≤i→(∀ s',Inv X pins σ (upd H1 D (.dK (Yi kvs (ps.drop i)))) s'→R (.ok (.ret .none)) s') →
   codeAny ?A A (.builtin "dict.update.loop" ⟨[.ref D,.ref it,rawInt i,.none],[]⟩) R s:=by
 intro m
 induction m with
 | zero =>
   intro i s kvs hm hi I st0 hk hR;have e:i=ps.length:=?d
   subst e;refine codeAny_builtin Xc ?_;rw [Around.under_plainId Z6 _];show wpAny _ A.in1 (pyNext (.ref it) >>= _) _ _ s
   refine n1_ (P.done A.in1 s kvs _ _ hh I st0 fun s' I'=>?_);show wpAny _ A.in1 (Builtin.Dict.addKeywords D [] >>= _) _ _ s'
   refine n1_ (n6_ (n6_ (hR s' ?_)));rw [List.drop_length];exact I'
 | succ m ih =>
   intro i s kvs hm hi I st0 hk hR;have hlt:i<ps.length:=?d
   obtain ⟨⟨k,y⟩,ek⟩:∃ p,ps[i]? = some p:=⟨ps[i],n0_ hlt⟩;refine codeAny_builtin Xc ?_;rw [Around.under_plainId Z6 _];show wpAny _ A.in1 (pyNext (.ref it) >>= _) _ _ s
   refine n1_ (P.item A.in1 i s kvs k y _ _ hh ek I st0 fun T b u s' hT hb ru I' st1=>?_);have hTi:s'.TypeIs (.ref T) "tuple" := let ⟨o,e,c,_⟩:=hT;⟨o,e,c⟩
   have hf:∀ c∈fp,FpOk X pins (upd H1 D ?E) c:=fun c hc=>by
    obtain ⟨⟨f0,f1⟩,ne⟩:=P.fpk c hc;exact ⟨by rw [Zl ne];exact f0,f1⟩
   have Ip:=I'.pinned hf (P.obj _ _ st1);show wpAny _ A.in1 (holding [.ref T] (tryCatch (Builtin.Dict.pairItems (.ref T)) _ >>= _) >>= _) _ _ s'
   refine n1_ (n38_ (n1_ (wpAny_tryCatch ?_)));unfold Builtin.Dict.pairItems;refine n1_ (wpAny_typeOf hTi ?_);rw [if_pos ?e];obtain ⟨o,e1,_,n1,d1⟩:=hT;refine n1_ (wpAny_seqItems e1 d1 (n6_ ?_));show wpAny _ A.in1 (holding [b,u] (dictSet D b u)) _ _ s'
   refine n38_ (Zlv (k:=k) (v:=y) Ip Zc hb ru (by rw [sizeLine_eq];omega) fun s2 I2=>?_)
   have eH:upd (upd H1 D ?E) D (.dK (putK kvs k y))=upd H1 D (.dK (putK kvs k y)):=by
    funext c
    by_cases z:c=D
    · subst z;rw [Zc,Zc]
    · rw [Zl z,Zl z,Zl z]
   rw [eH] at I2;have st2:st (i+1) s2.heap:=P.keep _ _ _ st1 fun c hc o e=>(I2.pin (c,o) (n26_ _ (n26_ _ (Y4 hc e)))).1;refine n6_ ⟨plainId_quiet Z6 _,?_⟩;refine ih (i+1) s2 _ (?d) hlt I2.unpinned st2 ?_ fun s3 I3=>hR s3 ?_
   · have:=Yh kvs k y;omega
   · rw [List.drop_eq_getElem_cons hlt,show ps[i]=(k,y) by rw [n0_ hlt] at ek;exact Option.some.inj ek];exact I3
section
variable {X:Cx} {pins:?B} {σ:St} {H:Hp} {s:Shared}
theorem Zpo {k l:SK} {h0:Heap} {o i:Addr} {ys:List V} {kl:List Key} (hc:X.calm=true) (Z:ZRdy X pins k l H1 h0 z t o i j a b) (hD:H1 D=none) (lD:h0.objs.size≤D) (q1:k.Sq X.K H1 a xs) (q2:l.Sq X.K H1 b ys)
 (al:Al (fun v key=>v=kV key) xs kl) :
 PItK X pins σ H1 D z [z,t,o,i,j] (fun n h=>ZSt h z t o∧IsPair h t (.ref i) (.ref j)∧(∃ c d,IsPair h o c d)∧k.It h i a n∧l.It h j b n) (kl.zip ys):=by
 have D':=Z.zp;have fpk:∀ c∈[z,t,o,i,j],FpOk X pins H1 c∧c≠D:=fun c hc=>⟨(Z.fpo c hc).1,n23_ (n9_ (Z.fpo c hc).2 lD)⟩
 have hf:∀ kvs,∀ c∈[z,o,i,j],FpOk X pins (upd H1 D ?E) c:=fun kvs c hc=>by
  have hc':c∈[z,t,o,i,j]:=by
   simp only [n12_,n16_,or_false] at hc ⊢
   rcases hc with q|q|q|q<;>simp [q]
  obtain ⟨⟨f0,f1⟩,ne⟩:=fpk c hc';exact ⟨by rw [Zl ne];exact f0,f1⟩
 have sm:∀ kvs,Same H1 (upd H1 D ?E):=fun kvs=>Same.new hD;refine ⟨fun n h st e he=>?_,fun n h h' st f=>?_,fpk,fun A n s kvs key y Q E hh hp I st q=>?_,fun A s kvs Q E hh I st q=>?_⟩
 · obtain ⟨⟨f0,f1,h1,_⟩,h2,⟨c,d,h3⟩,h4,h5⟩:=st;simp only [n12_,n16_,or_false] at he
   rcases he with rfl|rfl|rfl|rfl|rfl
   · exact ⟨_,h1,fun v q=>by cases (show Data.fields _=Data.cell v from q)⟩
   · exact ⟨_,h2,fun v q=>by cases (show Data.seq _ _=Data.cell v from q)⟩
   · exact ⟨_,h3,fun v q=>by cases (show Data.seq _ _=Data.cell v from q)⟩
   · obtain ⟨u,e,_,q⟩:=h4.ex;exact ⟨u,e,fun v r=>by rw [q] at r;cases r⟩
   · obtain ⟨u,e,_,q⟩:=h5.ex;exact ⟨u,e,fun v r=>by rw [q] at r;cases r⟩
 · obtain ⟨⟨f0,f1,h1,h1'⟩,h2,⟨c,d,h3⟩,h4,h5⟩:=st;exact ⟨⟨f0,f1,f z ?f _ h1,h1'⟩,f t ?f _ h2,⟨c,d,f o ?f _ h3⟩,h4.at fun u e=>f i ?f u e,h5.at fun u e=>f j ?f u e⟩
 · obtain ⟨h1,h2,⟨c,d,h3⟩,h4,h5⟩:=st;obtain ⟨us,ru,pu⟩:=((sm kvs).sk q1).is I;obtain ⟨vs,rv,pv⟩:=((sm kvs).sk q2).is I;obtain ⟨e1,e2⟩:=List.getElem?_zip_eq_some.mp hp;obtain ⟨x,ex,rfl⟩:=al.got e1;obtain ⟨u,hu,ux⟩:=ru.get ex;obtain ⟨v,hv,vy⟩:=rv.get e2;refine Zl6 D' h1 h2 h3 h4 h5 pu pv (x:=u) (y:=v) (by simpa using hu) (by simpa using hv) fun g r1 r2 r3 r4 r5 r6 r7=>?_;refine q _ u v { s with heap:=g } ⟨_,r5,rfl,_,rfl⟩ ux vy ?_ ⟨r1,r7 _ _ D'.tz D'.to D'.ti D'.tj h2,r2,r3,r4⟩;refine I.turnOnly (t':=s.toks) (ch:=[z,o,i,j]) (fun e o' ne q=>?_) (hf kvs);simp only [n12_,n16_,or_false,not_or] at ne;exact r7 e o' ne.1 ne.2.1 ne.2.2.1 ne.2.2.2 q
 · obtain ⟨h1,h2,⟨c,d,h3⟩,h4,h5⟩:=st;obtain ⟨us,ru,pu⟩:=((sm kvs).sk q1).is I;obtain ⟨vs,rv,pv⟩:=((sm kvs).sk q2).is I;have e1:=ru.length;have e2:=rv.length;have e3:=al.1;have e4:(kl.zip ys).length=min kl.length ys.length:=List.length_zip;refine Znu hh D' h1 h2 h3 h4 h5 pu pv ?_ fun g r=>q { s with heap:=g } ?_
   · by_cases z:kl.length≤ys.length
     · left;simp;omega
     · right;simp;omega
   · refine I.turnOnly (t':=s.toks) (ch:=[z,o,i,j]) (fun e o' ne q=>?_) (hf kvs);simp only [n12_,n16_,or_false,not_or] at ne;exact r e o' ne.1 ne.2.1 ne.2.2.1 ne.2.2.2 q
def tDzK (k l:SK) (K:PySem.W.Frag) (ta:TA):TE:=fun σ H Q=>ta σ H fun vs H1=>∃ a b,vs=[.ref a,.ref b]∧(∃ xs,k.Sq K H1 a xs)∧(∃ ys,l.Sq K H1 b ys)∧∃ (xs ys:List V) (kl:List Key),k.Sq K H1 a xs∧l.Sq K H1 b ys∧Al (fun v (key:Key)=>v=kV key) xs kl∧xs.length≤1000 ∧
 ∀ D,H1 D=none→Q (.ref D) (upd H1 D (.dK (Yi [] (kl.zip ys))))
theorem Zqj (k l:SK) {a b:Expr} {p2 pos2:Pos} (hc:X.calm=true) (hu:X.A.units+4<cLine) (hg:Gl X "dict") (hm:X.mg "dict" = none) (hg2:Gl X "zip") (hm2:X.mg "zip" = none) (ha:PA X [a,b] ta)
 (he:starEach [.Call (.Name "zip" p2) [a,b] [] pos2] X.env=[(false,eval (.Call (.Name "zip" p2) [a,b] [] pos2) X.env)]:=by rfl) (hs:starEach [a,b] X.env=[(false,eval a X.env),(false,eval b X.env)]:=by rfl) (hs2:starEach [b] X.env=[(false,eval b X.env)]:=by rfl) :
 PE X (.Call (.Name "dict" p) [.Call (.Name "zip" p2) [a,b] [] pos2] [] pos) (tDzK k l X.K ta):=by
 intro pins s σ H Q I h;refine wpAny_Call_Name_kw (Zcd I hg hm Zlx (n64_ ?_ (by rw [he];rfl) rfl));rw [he]
 refine Calls.spliced_cons (thn (Zpf k l hg2 hm2 ha (C:=fun a b H1=>∃ (xs ys:List V) (kl:List Key),k.Sq X.K H1 a xs∧l.Sq X.K H1 b ys∧Al (fun v (key:Key)=>v=kV key) xs kl∧xs.length≤1000 ∧
  ∀ D,H1 D=none→Q (.ref D) (upd H1 D (.dK (Yi [] (kl.zip ys))))) I h hs hs2) fun v s1 h1=>Calls.spliced_nil ?_)
 · obtain ⟨z,t,o,i,j,a',b',H1,rfl,I1,Z,xs,ys,kl,q1,q2,al,hz,q⟩:=h1;have hh:X.A.handled=none:=I1.ok.hd hc;refine Zh9 (T := "zip") ⟨_,Z.zip,rfl⟩ ?e ?_;have hD:H1 s1.z=none:=I1.hok.fresh (n7_ _)
   have I2:Inv X pins σ (upd H1 s1.z (.dK [])) { s1 with heap:=s1.heap.push ?aj } :=
    I1.laid (t':=s1.toks) (fun b o e=>n2_ _ e) (n7_ _) (Zgq s1.heap I1.big)
   refine Zih (n2_ _ Z.zip) hh fun h' tk k'=>⟨rfl,?_⟩;have up:∀ b o,s1.heap.get? b=some o→h'.get? b=some o:=fun b o e=>k' b o (n2_ _ e);refine wpAny_pyIter_zip (show IsZip h' z t o .none from up _ _ Z.zip) ?_;have P:=Zpo (σ:=σ) (D:=s1.z) hc Z hD (n7_ _) q1 q2 al;have n1:=al.1;have n2:(kl.zip ys).length≤1000:=by rw [List.length_zip];omega
   refine Zhg (A:=X.A.in1) (by rw [Around.in1_units];omega) hh hD n2 P _ 0 { s1 with heap:=h',toks:=tk } [] rfl (n47_ _) (I2.kept (t':=tk) k') ?_ (n7_ _) fun s' I'=>?_
   · exact ⟨⟨_,_,up _ _ Z.zip,.inl rfl⟩,up _ _ Z.two,⟨_,_,up _ _ Z.own⟩,Z.fst.at fun u e=>up _ u e,Z.snd.at fun u e=>up _ u e⟩
   · exact ⟨rfl,.ref s1.z,_,I',rfl,q _ hD⟩
theorem Zna {h0:Heap} {L:Addr} {us:List V} {ps:?N} (hc:X.calm=true) (hD:H1 D=none) (hn:it≠D) (hf:FpOk X pins H1 it) (hL:H1 L=some (.lst us))
 (al:Al (fun v (p:Key×V)=>∃ c,v=.ref c∧H1 c=some (.tup [kV p.1,p.2])) us ps) :
 PItK X pins σ H1 D it [it] (fun n h=>h.IsListIter it L n) ps:=by
 have sm:∀ kvs,Same H1 (upd H1 D ?E):=fun kvs=>Same.new hD;have nL:L≠it:=fun z=>by rw [z,hf.1] at hL;cases hL
 have hf':∀ kvs,∀ c∈[it],FpOk X pins (upd H1 D ?E) c:=fun kvs c hc=>by
  rw [n18_.mp hc];exact ⟨by rw [Zl hn];exact hf.1,hf.2⟩
 refine ⟨fun n h st e he=>?_,fun n h h' st f=>?_,fun b hb=>?_,fun A n s kvs key y Q E hh hp I st q=>?_,fun A s kvs Q E hh I st q=>?_⟩
 · rw [n18_.mp he];obtain ⟨o,e,_,d⟩:=st;exact ⟨o,e,fun v q=>by rw [d] at q;cases q⟩
 · exact st.at fun o e=>f it ?f o e
 · rw [n18_.mp hb];exact ⟨hf,hn⟩
 · obtain ⟨its,rv,pl,_⟩:=I.list (SqL.of (sm kvs _ _ hL));obtain ⟨v,ev,c,rfl,hc'⟩:=al.got hp;obtain ⟨u,eu,ru⟩:=rv.get ev;cases ru
   refine wpAny_pyNext_list_item st pl.isList (x:=.ref c) (by simpa using eu) fun h' hit' hs'=>?_;obtain ⟨jt,rj,pt,_⟩:=I.tuple (SqT.of (sm kvs _ _ hc'));cases rj with
   | cons r1 rj=>cases rj with
     | cons r2 rj =>
       cases rj
       have I':Inv X pins σ (upd H1 D ?E) { s with heap:=h',toks:=s.toks }:=I.turnOnly (ch:=[it]) (fun e o' ne q=>hs'.extBut _ _ (fun z=>ne (by simp [z])) q) (hf' kvs);obtain ⟨jt',rj',pt',_⟩:=I'.tuple (SqT.of (sm kvs _ _ hc'));cases rj' with
       | cons r1' rj'=>cases rj' with
         | cons r2' rj' =>
           cases rj'
           exact q c _ _ _ pt' r1' r2' I' hit'
 · obtain ⟨its,rv,pl,_⟩:=I.list (SqL.of (sm kvs _ _ hL));have e1:=rv.length;have e2:=al.1;refine wpAny_pyNext_list_end hh st pl.isList (by simp;omega) fun h' he'=>?_;exact q ?T (I.turnOnly (t':=s.toks) (ch:=[it]) (fun e o' ne q=>he' _ _ (fun z=>ne (by simp [z])) q) (hf' kvs))
theorem Zes (hc:X.calm=true) (hu:X.A.units+4<cLine):Xl X (.type "dict") (fun xs H Q=>∃ (L:Addr) (us:List V) (ps:?N),xs=[.ref L]∧H L=some (.lst us)∧us.length≤1000∧Al (fun v (p:Key×V)=>∃ c,v=.ref c∧H c=some (.tup [kV p.1,p.2])) us ps ∧
 ∀ D,H D=none→Q (.ref D) (upd H D (.dK (Yi [] ps)))):=by
 intro pins s σ H xs vs Q I r h;obtain ⟨L,us,ps,rfl,hL,hz,al,q⟩:=h;obtain ⟨u,rfl,ru⟩:=Ziy r;cases (show _=Value.ref L from ru)
 have hh:X.A.handled=none:=I.ok.hd hc;obtain ⟨its,rv,⟨ob,n,e0,c0,d0,dt0⟩,_⟩:=I.list (SqL.of hL);refine Zh9 (T := "list") ⟨_,e0,c0⟩ ?e ?_;have hD:H s.z=none:=I.hok.fresh (n7_ _)
 have I2:Inv X pins σ (upd H s.z (.dK [])) { s with heap:=s.heap.push ?aj } :=
  I.laid (t':=s.toks) (fun b o e=>n2_ _ e) (n7_ _) (Zgq s.heap I.big)
 refine Zhd (n2_ _ e0) c0 dt0 d0 hh fun h' tk k'=>⟨rfl,?_⟩;have I3:Inv X pins σ (upd H s.z (.dK [])) { s with heap:=h',toks:=tk }:=I2.kept k';have hL':upd H s.z (.dK []) L=some (.lst us):=Same.new (o:=.dK []) hD _ _ hL;obtain ⟨its',rv',pl',_⟩:=I3.list (SqL.of hL');refine wpAny_pyIter_list (s:={ s with heap:=h',toks:=tk }) pl'.isList ?_;have lt:s.z<h'.objs.size:=n13_ (k' _ _ (n8_ _ rfl));have hit:H h'.objs.size=none:=I.hok.fresh (Nat.le_of_lt lt);have fI:FpOk X pins H h'.objs.size:=I.fpOk (Nat.le_of_lt lt) hit;have P:=Zna (X:=X) (pins:=pins) (σ:=σ) (h0:=h') (D:=s.z) (it:=h'.objs.size) hc hD (n75_ lt) fI hL al;have n2:ps.length≤1000:=by have:=al.1;omega
 refine Zhg (A:=X.A.in1) (by rw [Around.in1_units];omega) hh hD n2 P _ 0 _ [] rfl (n47_ _) (I3.kept (t':=tk) fun b o e=>n2_ _ e) ⟨_,n8_ _ rfl,rfl,rfl⟩ (n7_ _) fun s' I'=>?_;exact ⟨rfl,.ref s.z,_,I',rfl,q _ hD⟩
end
theorem Zv9 {k:Key} (h:(Z4 P w).is k u=true):RelV (kV k) u:=by
 rcases Yg (show Zji k u=true from h) with ⟨i,t,rfl,rfl⟩|⟨x,t,rfl,rfl⟩<;>exact ⟨t,rfl⟩
def ItdK (o:Obj) (d:Addr):It where
 go:=fun i H=>∃ kvs,H d=some (.frz o ?E)∧i<kvs.length
 yld:=fun i H v H'=>∃ (g:Addr) (k:Key) (y:V),v=.ref g∧H g=none∧H'=upd H g (.tup [kV k,y])∧∀ kvs,H d=some (.frz o ?E)→kvs[i]? = some (k,y)
 stop:=fun i H=>∃ kvs,H d=some (.frz o ?E)∧kvs.length≤i
theorem Zkn {d:Addr} {es:Array DictEntry} (x:HOk P w H h) (e:H d=some (.frz o ?E)) (od:o.data=.dict es ep) :
 EntAt h d es ep∧es.size=kvs.length∧∀ (i:Nat) (k:Key) (y:V),kvs[i]? = some (k,y)→∃ (q u:Value) (t:Int),es[i]? = some ⟨t,q,u⟩∧RelV (kV k) q∧RelV y u:=by
 obtain ⟨g,z,_,vs,rel,o2,es2,ep2,g2,_,d2,kk,pp,_⟩:=x d _ e;rw [g] at g2;cases g2
 rw [od] at d2;cases d2
 have l1:es.size=vs.length:=by rw [← Array.length_toList,pp.length]
 have l2:=rel.length;refine ⟨⟨o,g,od⟩,?d,fun i k y hi=>?_⟩
 have get1:∀ (l1:?N) (l2:List (Key×Value)),KV l1 l2→∀ i:Nat,l1[i]? = some (k,y)→∃ u:Value,l2[i]? = some (k,u)∧RelV y u:=by
  intro l1 l2 r;unfold KV at r
  induction r with
  | nil=>intro i h;simp at h
  | @cons p q _ _ r t ih =>
    intro i h;cases i with
    | zero =>
      obtain ⟨q1,q2⟩:=q;cases h
      obtain ⟨r1,r2⟩:=r;exact ⟨q2,by rw [show k=q1 from r1];rfl,r2⟩
    | succ i=>exact ih i h
 have get2:∀ (l1:List DictEntry) (l2:List (Key×Value)),Pairs (Z4 P w) l1 l2→∀ (i:Nat) (u:Value),l2[i]? = some (k,u)→∃ e:DictEntry,l1[i]? = some e∧(Z4 P w).is k e.key=true∧e.val=u:=by
  intro l1 l2 r
  induction r with
  | nil=>intro i u h;simp at h
  | cons h1 h2 _ ih =>
    intro i u h;cases i with
    | zero=>cases h;exact ⟨_,rfl,h1,h2⟩
    | succ i=>exact ih i u h
 obtain ⟨u,e1,e2⟩:=get1 _ _ rel i hi;obtain ⟨e,f1,f2,f3⟩:=get2 _ _ pp i u e1;exact ⟨e.key,u,e.hash,by rw [← Array.getElem?_toList,f1,← f3],Zv9 f2,e2⟩
theorem Zjq {K:PySem.W.Frag} {ts:List Expr} {d:Addr} {es:Array DictEntry} (od:o.data=.dict es ep) (nd:d≠it) :
 Turn P w K (.Tuple ts x1 tp) (ItdK o d) [it] it (fun n h=>∃ ok ov,IsItemIter h it d n es.size ep ok ov) where
 mem:=by simp
 obj:=fun n h st b hb=>by
  obtain ⟨ok,ov,e⟩:=st;rw [n18_.mp hb];exact ⟨_,e,fun v q=>by cases (show Data.fields _=Data.cell v from q)⟩
 keep:=fun n h h' st f=>by
  obtain ⟨ok,ov,e⟩:=st;exact ⟨ok,ov,f it ?f _ e⟩
 item:=by
  intro X hP hw hK hc n pins s σ H E I hf st hg;subst hP hw hK;obtain ⟨ok,ov,h1⟩:=st;obtain ⟨kvs,hd,hn⟩:=hg;obtain ⟨ent,sz,at_⟩:=Zkn I.hok hd od;obtain ⟨⟨k,y⟩,ek⟩:∃ p,kvs[n]? = some p:=⟨kvs[n],n0_ hn⟩;obtain ⟨q,u,t,ex,hq,ru⟩:=at_ n k y ek
  have li:it≠s.z:=n23_ (n13_ h1);refine Zqg h1 ent ex fun h' r1 r2 r3=>?_;refine ⟨_,rfl,wpAny_letOwnedTupleGo_items r1 fun g2 z2 s2=>?_⟩;have T2:g2.get? s.z=some { cls:=?M,data:=.seq #[q,u] }:=s2.extBut _ _ li.symm r2;have hp:H s.z=none:=I.hok.fresh (n7_ _)
  have I2:Inv X pins σ (upd H s.z (.tup [kV k,y])) { s with heap:=g2,toks:=s.toks }:=by
   refine I.turnNew (ch:=[it]) (fun c o' ne q=>?_) (fun c hc=>hf c hc) (n7_ _) ⟨z2_,[q,u],.cons hq (.cons ru .nil),⟨_,T2,⟨rfl,rfl⟩,_,rfl⟩⟩;have ne':c≠it:=fun z=>ne (by rw [z];simp);exact s2.extBut _ _ ne' (r3 c o' ne' q)
  refine ⟨.ref s.z,_,I2,rfl,⟨_,k,y,rfl,hp,rfl,fun kvs' e'=>?_⟩,⟨_,_,z2⟩,fun c hc=>?_⟩
  · rw [hd] at e';cases e';exact ek
  · rw [n18_.mp hc,Zl li];exact (hf it ?f).1
 done:=by
  intro X hP hw hK hc n pins s σ H E I hf st hg;subst hP hw hK;obtain ⟨ok,ov,h1⟩:=st;obtain ⟨kvs,hd,hn⟩:=hg;obtain ⟨ent,sz,_⟩:=Zkn I.hok hd od;refine Ztu (show X.A.handled=none from I.ok.hd hc) h1 ent (Array.getElem?_eq_none (?d)) fun h' x=>⟨rfl,?_⟩;exact I.turnOnly (t':=s.toks) (ch:=[it]) (fun c o' ne q=>x c o' (fun z=>ne (by rw [z];simp)) q) (fun c hc=>hf c hc)
 self:=fun A i s Q E st q=>by
  obtain ⟨ok,ov,h1⟩:=st;exact PySem.W.kcp_self h1 q
section
variable {X:Cx} {pins:?B} {σ:St} {H:Hp} {s:Shared}
theorem Inv.freezeK {d:Addr} (I:?s) (e:H d=some ?E):∃ o es ep,o.data=.dict es ep∧(d == sysModules)=false∧EntAt s.heap d es ep∧Inv X pins σ (upd H d (.frz o ?E)) s:=by
 have ok:=I.hok d _ e;obtain ⟨z,hd,vs,rel,o,es,ep,g,c,dd,q⟩:=id ok;refine ⟨o,es,ep,dd,hd,⟨o,g,dd⟩,?_⟩;exact Zbp (t':=s.toks) I (by rw [e];exact True.intro) (Heap.SameBut.refl _ _) ⟨o,g⟩ ⟨g,z,hd,vs,rel,o,es,ep,g,c,dd,q⟩
inductive BxIItmK (R:It→?w) (x:V) (H1:Hp):Prop
 | mk (d:_) (kvs:_) (q1:x=.ref d) (q2:H1 d=some ?E) (q3:∀ o,R (ItdK o d) (upd H1 d (.frz o ?E))):BxIItmK R x H1
def Zwo (td:TE):TI:=fun σ H R=>td σ H fun x H1=>BxIItmK R x H1
theorem Zn9 {o:Expr} {td:TE} {apos cpos:Pos} {ts:List Expr} (ho:PE X o td)
 (hbase:attributeBase o "items" X.env (eval o X.env)=eval o X.env:=by rfl) (hline:(apos.endLine == cpos.line)=true:=by rfl):PI X (.Tuple ts x1 tp) (.Call (.Attribute o "items" apos) [] [] cpos) (Zwo td):=by
 intro pins s σ H R I h;refine wpAny_Call_method0_late hbase hline (thn (ho pins s σ H _ I h) fun v s1 zq=>?_);obtain ⟨x,H1,I1,r1,d,kvs,ex,hd,q⟩:=zq;subst ex;cases (show v=Value.ref d from r1)
 obtain ⟨t1,t2,_⟩:=Zm5 I1 (.inl ⟨kvs,.inl hd⟩);obtain ⟨ob,es,ep,od,nm,ent,I2⟩:=I1.freezeK hd;refine ⟨"dict","dict.items",PySem.F.plainAttrs_dict,PySem.F.slot_dict_items,PySem.F.type_dict_items,t1,t2,Calls.callWith_builtin rfl (PySem.evalArgs_none ?_)⟩;refine call_meetsIn PySem.F.slot_dict_items t1 PySem.F.entry_dict_items (PySem.F.args_dict_items_1 _) (Zl2 d nm) ⟨t1,?_⟩;have n1:(s1.heap.push { cls:=.type "dict_items",data:=.fields #[.ref d] }).objs.size=s1.z+1:=n48_ ..;refine Zql (d:=d) (es:=es) (ep:=ep) ⟨_,n8_ _ rfl,rfl,rfl⟩ (ent.at fun o e=>n2_ _ e) fun h' e1 k1=>?_;have k2:∀ b o,s1.heap.get? b=some o→h'.get? b=some o:=fun b o e=>k1 b o (n2_ _ e);have ld:d<s1.z:=let ⟨_,e,_⟩:=ent;n13_ e;have nd:d≠(s1.heap.push { cls:=.type "dict_items",data:=.fields #[.ref d] }).objs.size:=n23_ (by rw [n1];exact n55_ ld);have le:s1.z≤(s1.heap.push { cls:=.type "dict_items",data:=.fields #[.ref d] }).objs.size:=by rw [n1];exact Nat.le_succ _
 refine ⟨_,_,_,_,_,rfl,I2.kept (t':=s1.toks) k2,Zjq od nd,⟨_,_,e1⟩,fun b hb=>?_,q ob⟩;rw [n18_.mp hb];exact I2.fpOk le (by rw [Zl nd.symm];exact I1.hok.fresh le)
theorem Inv.thaw {d:Addr} (I:?s) (e:H d=some (.frz o ?E)) (h0:X.H₀ d=none):Inv X pins σ (upd H d ?E) s:=by
 have nn:∀ {b},H b=none→b≠d:=fun n z=>by rw [z,e] at n;cases n
 have n0:∀ {b u},X.H₀ b=some u→b≠d:=fun n z=>by rw [z,h0] at n;cases n
 obtain ⟨g,ok⟩:=I.hok d _ e;refine ⟨I.ok,I.os,I.bare,⟨I.base.keep,I.base.slot,fun b o' q n hx=>by rw [Zl (nn (I.base.free b o' q n hx))];exact I.base.free b o' q n hx,I.base.there,fun b xs q=>by rw [Zl (n0 q)];exact I.base.tups b xs q,fun b o' u q=>by rw [Zl (n0 q)];exact I.base.frzs b o' u q,fun b ps q=>by rw [Zl (n0 q)];exact I.base.tbls b ps q⟩,I.loc,I.cell,by rw [Zl (nn I.free)];exact I.free,fun x c hc=>?_,fun p hp=>?_,fun b u q=>?_,I.len⟩
 · have nc:c≠d:=fun z=>by
    obtain ⟨v,o1,h1,d1⟩:=I.cell x c hc;obtain ⟨_,_,_,_,o2,es,ep,h2,_,d2,_⟩:=ok;rw [z,h2] at h1;cases h1
    rw [d2] at d1;cases d1
   rw [Zl nc];exact I.freeC x c hc
 · obtain ⟨p1,p2,p3⟩:=I.pin p hp;exact ⟨p1,by rw [Zl (nn p2)];exact p2,p3⟩
 · by_cases hb:b=d
   · subst hb;rw [Zc] at q;cases q
     exact ok
   · rw [Zl hb] at q;exact (I.hok b u q).stay (fun c v _ r=>r) (fun c r=>by rw [Zl (fun z=>by rw [z,e] at r;cases r)];exact r) fun c xs r=>by rw [Zl (fun z=>by rw [z,e] at r;cases r)];exact r
end
section
variable {X:Cx}
def Zv3:V→?W:=fun x vs H Q=>∃ (a b:Addr) (kvs more:?N),x=.ref a∧vs=[.ref b]∧a≠b∧H a=some ?E∧H b=some (.dK more)∧kvs.length+more.length≤1000∧∀ kvs',Q .non (upd H a (.dK kvs'))
theorem Zr4:MtR X "dict.update" Zv3:=by
 intro pins s σ H x vs v us Q I rx rv h;obtain ⟨a,b,kvs,more,rfl,rfl,ne,ea,eb,l,q⟩:=h;cases rx
 cases rv with
 | cons rb rv =>
   cases rv
   cases (show _=Value.ref b from rb)
   obtain ⟨z,hd,xs,rel,dd⟩:=Zmy I.hok ea;obtain ⟨z2,hd2,xs2,rel2,dd2⟩:=Zmy I.hok eb;refine call_meetsIn F.slot_dict_update dd.typeIs F.entry_dict_update (F.args_dict_update_2 _ _) (meets_dict_update (Z4 X.prog X.w) a b ne hd2) ⟨xs,xs2,dd,dd2,by rw [← rel.length,← rel2.length,sizeLine_eq];omega,fun h' dd' _ sb=>?_⟩
   have hl:(Zbz kvs more).length≤sizeLine:=by
    have h1:=Xn more kvs;rw [sizeLine_eq];omega
   have he:∃ q,h'.get? a=some q:=let ⟨q,_,_,hq,_⟩:=dd';⟨q,hq⟩;exact ⟨.non,_,Zbp (ob:=.dK (Zbz kvs more)) (t':=s.toks) I (by rw [ea];exact True.intro) sb he (Zk1 hl hd (rel2.merge rel) dd'),rfl,q _⟩
def Ztz (H0:Hp):V→?W:=fun x vs H Q=>∃ (a b:Addr) (o:Obj) (kvs more:?N),x=.ref a∧vs=[.ref b]∧a≠b∧H0 a=none∧H a=some (.frz o ?E)∧H b=some (.dK more)∧kvs.length+more.length≤1000∧∀ kvs',Q .non (upd H a (.dK kvs'))
theorem Zss:MtR X "dict.update" (Ztz X.H₀):=by
 intro pins s σ H x vs v us Q I rx rv h;obtain ⟨a,b,o,kvs,more,rfl,rfl,ne,h0,ea,eb,l,q⟩:=h;refine Zr4 (X:=X) pins s σ (upd H a ?E) (.ref a) [.ref b] v us Q (I.thaw ea h0) rx rv ⟨a,b,kvs,more,rfl,rfl,ne,Zc,by rw [Zl (Ne.symm ne)];exact eb,l,fun kvs'=>?_⟩
 have e:upd (upd H a ?E) a (.dK kvs')=upd H a (.dK kvs'):=by
  funext c
  by_cases z:c=a
  · rw [z,Zc,Zc]
  · rw [Zl z,Zl z,Zl z]
 rw [e];exact q kvs'
inductive BxTUpd (H0:Hp) (t:TA) (σ:St) (Q:VK) (x:V) (H1:Hp):Prop
 | mk (a:_) (q1:x=.ref a) (q2:IsD H1 a) (q3:t σ H1 fun xs H2=>Ztz H0 x xs H2 Q):BxTUpd H0 t σ Q x H1
def tUpd (H0:Hp) (to:TE) (t:TA):TE:=fun σ H Q=>to σ H fun x H1=>BxTUpd H0 t σ Q x H1
theorem Zvz {o:Expr} {es:List Expr} {to:TE} {t:TA} {apos cpos:Pos} (ho:PE X o to) (ha:PA X (e :: es) t)
 (hbase:attributeBase o "update" X.env (eval o X.env)=eval o X.env:=by rfl)
 (hfew:((backTo cpos (starEach (e :: es) X.env)).all (fun x=>!x.1)&&(backToKw cpos (keywordEach [] X.env)).all (fun x=>x.1.isSome)
   && decide ((e :: es).length+([]:List Keyword).length+(if ([]:List Keyword).isEmpty then 0 else 1)<30))=true:=by rfl)
 (hline:(apos.endLine == cpos.line)=true:=by rfl) (hs:starEach (e :: es) X.env=(false,eval e X.env) :: starEach es X.env:=by rfl) (hplain:(backTo cpos (starEach es X.env)).any (·.1)=false:=by rfl) :
 PE X (.Call (.Attribute o "update" apos) (e :: es) [] cpos) (tUpd X.H₀ to t):=by
 intro pins s σ H Q I h;refine wpAny_Call_method_late hbase hfew hline rfl (thn (ho pins s σ H _ I h) fun v s1 zq=>?_);obtain ⟨x,H1,I1,r1,a,rfl,hd,q1⟩:=zq;have r1':=r1;cases (show v=Value.ref a from r1)
 obtain ⟨h1,h2,_⟩:=Zm5 I1 hd;refine ⟨"dict","dict.update",PySem.F.plainAttrs_dict,PySem.F.slot_dict_update,PySem.F.type_dict_update,h1,h2,?_⟩;have hA:=ha cpos pins s1 σ H1 _ I1 q1;rw [hs] at hA ⊢;refine Calls.callWith_builtin (by show (false||(backTo cpos (starEach es X.env)).any (·.1))=false;rw [hplain]<;>rfl) (Calls.evalArgs_plain ?_);exact thn hA fun us s2 ⟨vs,H2,I2,r2,q2⟩=>Zss pins s2 σ H2 (.ref a) vs (.ref a) us Q I2 r1' r2 q2
end
end L2
set_option maxHeartbeats 4000000
theorem L2.gen_upd {H H1:L2.Hp} {p:PySem.Addr} {o:L2.HO} (g:L2.upd H p o=H1) (n:H p=none):L2.Same H H1∧H1 p=some o:=g▸⟨L2.Same.new n,L2.Zc⟩
namespace My
open PySem PySem.Spec PyProof.Rows L2
def top (i:Nat):Stmt:=PySem.Challenge.pw_platerest_k51_loads_and_joins.main.body.getD i (.Pass ⟨0,0,0,0⟩)
theorem Zh3:bootBuiltins "abs" = some (.builtin "abs"):=?i
theorem Zfd:bootBuiltins "all" = some (.builtin "all"):=?i
theorem Zts:bootBuiltins "bool" = some (.type "bool"):=?i
theorem Zil:bootBuiltins "dict" = some (.type "dict"):=?i
theorem Zrq:bootBuiltins "int" = some (.type "int"):=?i
theorem Yc:bootBuiltins "isinstance" = some (.builtin "isinstance"):=?i
theorem Y0:bootBuiltins "len" = some (.builtin "len"):=?i
theorem Zi0:bootBuiltins "list" = some (.type "list"):=?i
theorem Zrf:bootBuiltins "max" = some (.builtin "max"):=?i
theorem Zqy:bootBuiltins "min" = some (.builtin "min"):=?i
theorem Zf8:bootBuiltins "repr" = some (.builtin "repr"):=?i
theorem Zk2:bootBuiltins "set" = some (.type "set"):=?i
theorem Za5:bootBuiltins "sorted" = some (.builtin "sorted"):=?i
theorem Zt2:bootBuiltins "sum" = some (.builtin "sum"):=?i
theorem Zt:bootBuiltins "tuple" = some (?M):=?i
structure Bt (mg:Str→?C):Prop where
 b_abs:mg "abs" = none
 b_all:mg "all" = none
 b_bool:mg "bool" = none
 b_dict:mg "dict" = none
 b_enumerate:mg "enumerate" = none
 b_int:mg "int" = none
 b_isinstance:mg "isinstance" = none
 b_len:mg "len" = none
 b_list:mg "list" = none
 b_max:mg "max" = none
 b_min:mg "min" = none
 b_range:mg "range" = none
 b_repr:mg "repr" = none
 b_set:mg "set" = none
 b_sorted:mg "sorted" = none
 b_sum:mg "sum" = none
 b_tuple:mg "tuple" = none
 b_zip:mg "zip" = none
 n_GREAT_BITS:∃ t,mg "GREAT_BITS" = some (.int 4000 t)
 n_MOST_WAYS:∃ t,mg "MOST_WAYS" = some (.int 60 t)
noncomputable abbrev rt (q:Rat):List V:=[.int q.num,.int q.den]
inductive BxSp_plain (vs:List V) (H:Hp) (Q:VK):Prop
 | mk (a b:Int) (q1:vs=[.int a,.int b]) (q2:Q (.int (Int.gcd a b)) H):BxSp_plain vs H Q
def Zks:Sp:=fun vs H Q _=>BxSp_plain vs H Q
inductive BxSp_divisor (vs:List V) (H:Hp) (Q:VK):Prop
 | mk (a b:Int) (q1:vs=[.int a,.int b]) (q2:b.natAbs<2^4000) (q3:Q (.int (Int.gcd a b)) H):BxSp_divisor vs H Q
def Zfi:Sp:=fun vs H Q _=>BxSp_divisor vs H Q
theorem Y5 {a n:Nat} (h:a<2^64) (hn:64≤n:=by decide):a<2^n:=n9_ h (n25_ ?e hn)
theorem Zqu {a:Nat} (h:a<2^4000):a<2^8999:=n9_ h (n25_ ?e ?e)
theorem Ztv {x y:Int} (h:y.natAbs<2^4000):decide ((4000:Int)<if (Builtin.Int.intBits y:Int)<(Builtin.Int.intBits x:Int) then (Builtin.Int.intBits y:Int) else (Builtin.Int.intBits x:Int))=false:=by
 have:=Zjf h ?e
 refine n35_ ?_;split<;>omega
inductive BxSp_is_whole (vs:List V) (H:Hp) (Q:VK):Prop
 | mk (a:Int) (q1:vs=[.int a]) (q2:Q (.bl true) H):BxSp_is_whole vs H Q
def Zeo:Sp:=fun vs H Q _=>BxSp_is_whole vs H Q
inductive BxSp_reduced (vs:List V) (H:Hp) (Q:VK):Prop
 | mk (t b:Int) (q1:vs=[.int t,.int b]) (q2:b≠0) (q3:b.natAbs<2^4000) (q4:∀ (p:Addr) (H':Hp),?H→H' p=some (.tup (rt (Rat.divInt t b)))→Q (.ref p) H'):BxSp_reduced vs H Q
def Zft:Sp:=fun vs H Q _=>BxSp_reduced vs H Q
inductive BxSp_is_fraction (vs:List V) (H:Hp) (Q:VK):Prop
 | mk (p:Addr) (q:Rat) (q1:vs=[.ref p]) (q2:H p=some (.tup (rt q))) (q3:FM.B 4000 q) (q4:Q (.bl true) H):BxSp_is_fraction vs H Q
def Zbm:Sp:=fun vs H Q _=>BxSp_is_fraction vs H Q
inductive BxSp_op (f:Rat→Rat→Rat) (vs:List V) (H:Hp) (Q:VK):Prop
 | mk (p r:Addr) (x y:Rat) (q1:vs=[.ref p,.ref r]) (q2:H p=some (.tup (rt x))) (q3:H r=some (.tup (rt y))) (q4:FM.B 1990 x) (q5:FM.B 1990 y) (q6:∀ (z:Addr) (H':Hp),?H→H' z=some (.tup (rt (f x y)))→Q (.ref z) H'):BxSp_op f vs H Q
def Zp2 (f:Rat→Rat→Rat):Sp:=fun vs H Q _=>BxSp_op f vs H Q
theorem Zwi {p q:Rat}:decide (([p.num,(p.den:Int)]:?g)=[q.num,(q.den:Int)])=decide (p=q):=by
 by_cases h:p=q
 · subst h;simp
 · rw [n35_ h];refine n35_ fun z=>h ?_;injection z with z1 z2
   injection z2 with z2 _
   exact Rat.ext z1 (Int.ofNat.inj z2)
theorem bd0:FM.B 1 0:=⟨?k,?k⟩
theorem up1 {a:Nat} (h:a<2^1990):a<2^1000000:=n9_ h (n25_ ?e ?e)
theorem mNN {x y:Rat} (hx:FM.B 1990 x) (hy:FM.B 1990 y):CMulB x.num y.num:=⟨up1 hx.1,up1 hy.1⟩
theorem mND {x y:Rat} (hx:FM.B 1990 x) (hy:FM.B 1990 y):CMulB x.num y.den:=⟨up1 hx.1,up1 hy.2⟩
theorem mDD {x y:Rat} (hx:FM.B 1990 x) (hy:FM.B 1990 y):CMulB x.den y.den:=⟨up1 hx.2,up1 hy.2⟩
theorem Zt7 {x y:Rat} (hx:FM.B 1990 x) (hy:FM.B 1990 y):((x.den:Int)*y.den).natAbs<2^4000 :=
 n9_ (FM.natAbs_mul_lt (show (x.den:Int).natAbs<2^1990 from hx.2) (show (y.den:Int).natAbs<2^1990 from hy.2)) (n25_ ?e ?e)
def StAt (H:Hp) (l:Addr):Prop:=∃ s0 s1 s2:Int,H l=some (.lst [.int s0,.int s1,.int s2])∧0≤s1∧s1<4294967296
theorem StAt.same {H H':Hp} {l:Addr} (s:StAt H l) (k:?H):StAt H' l:=by
 obtain ⟨a,b,c,h,r⟩:=s;exact ⟨a,b,c,k _ _ h,r⟩
theorem StAt.new {H:Hp} {l p:Addr} {o:HO} (s:StAt H l) (h:H p=none):StAt (upd H p o) l:=by
 obtain ⟨a,b,c,e,r⟩:=s;exact ⟨a,b,c,by rw [Zl (Zj e h)];exact e,r⟩
theorem StAt.ne {H:Hp} {l p:Addr} (s:StAt H l) (h:H p=none):l≠p:=by
 obtain ⟨a,b,c,e,r⟩:=s;exact Zj e h
inductive BxSp_cell (K:PySem.W.Frag) (vs:List V) (H:Hp) (Q:VK):Prop
 | mk (a:Addr) (ns:?g) (k:Nat) (q1:vs=[.ref a,.int k]) (q2:SqL K H a ?U) (q3:∀ c:Int,Q (.int c) H):BxSp_cell K vs H Q
def Zmu (K:PySem.W.Frag):Sp:=fun vs H Q _=>BxSp_cell K vs H Q
inductive BxSp_state (K:PySem.W.Frag) (vs:List V) (H:Hp) (Q:VK):Prop
 | mk (a:Addr) (ns:?g) (k:Nat) (q1:vs=[.ref a,.int k]) (q2:SqL K H a ?U) (q3:∀ (p:Addr) (H':Hp),H p=none→?H→StAt H' p→Q (.ref p) H'):BxSp_state K vs H Q
def Zkj (K:PySem.W.Frag):Sp:=fun vs H Q _=>BxSp_state K vs H Q
inductive BxSp_choice (vs:List V) (H:Hp) (Q:VK):Prop
 | mk (l:Addr) (m:Int) (q1:vs=[.ref l,.int m]) (q2:StAt H l) (q3:0<m) (q4:m.natAbs<2^8999) (q5:∀ (r:Int) (H':Hp),0≤r→r<m→Keep l H H'→StAt H' l→Q (.int r) H'):BxSp_choice vs H Q
def Zel:Sp:=fun vs H Q _=>BxSp_choice vs H Q
inductive BxSp_low (vs:List V) (H:Hp) (Q:VK):Prop
 | mk (t b:Int) (q1:vs=[.int t,.int b]) (q2:b≠0) (q3:b.natAbs<2^4000) (q4:∀ (p:Addr) (H':Hp),?H→H' p=some (.tup (rt (Rat.divInt t b)))→Q (.ref p) H'):BxSp_low vs H Q
def Zqw:Sp:=fun vs H Q _=>BxSp_low vs H Q
theorem mulS {a b:Int} (ha:a.natAbs<2^64) (hb:b.natAbs<2^64):CMulB a b:=⟨n9_ ha (n25_ ?e ?e),n9_ hb (n25_ ?e ?e)⟩
theorem p64:(2:Nat)^64=18446744073709551616:=?k
inductive BxSp_sameD (vs:List V) (H:Hp) (Q:VK):Prop
 | mk (N:_) (k:_) (v:_) (u:_) (d:_) (q1:vs=[v,u]) (q2:Dt N H k v d) (q3:Dt N H k u d) (q4:k<1920) (q5:d.depth≤20) (q6:nz d≤8000) (q7:Q (.bl true) H):BxSp_sameD vs H Q
def Zkf:Sp:=fun vs H Q _=>BxSp_sameD vs H Q
theorem blT {p:Prop} [Decidable p] (h:p):V.bl (decide p)=V.bl true:=by rw [n44_ h]
theorem qT {p:Prop} [Decidable p] (h:p) {Q:VK} {H:Hp} (q:Q (.bl true) H):Q (.bl (decide p)) H:=by rw [blT h];exact q
theorem mul3 {a b:Int} (ha:a.natAbs≤1000) (hb:b.natAbs≤1000):CMulB a b:=⟨n14_ ha (n9_ (?k:(1000:Nat)<2^10) (n25_ ?e ?e)),n14_ hb (n9_ (?k:(1000:Nat)<2^10) (n25_ ?e ?e))⟩
inductive BxSp_risingI (vs:List V) (H:Hp) (Q:VK):Prop
 | mk (a:Addr) (ns:?g) (q1:vs=[.ref a]) (q2:H a=some (.tup ?U)) (q3:ns.length≤1000) (q4:(∀ (i:Nat) (x y:Int),ns[i]? = some x→ns[i+1]? = some y→x<y)) (q5:∀ H',?H→Q (.bl true) H'):BxSp_risingI vs H Q
def Ze8:Sp:=fun vs H Q _=>BxSp_risingI vs H Q
theorem cut1 (xs:List V):cutV xs (some 1) none=xs.drop 1:=by
 unfold cutV;have e1:HT.sIx xs.length xs.length none=xs.length:=rfl
 have e2:HT.sIx xs.length 0 (some 1)=min 1 xs.length:=by
  unfold HT.sIx
  simp
  try omega
 rw [e1,e2];cases xs with
 | nil=>rfl
 | cons x xs=>simp
theorem Zce {α:Type} (x:α):∀ n:Nat,(List.replicate n [x]).flatten=List.replicate n x
 | 0=>rfl
 | n+1=>by rw [n83_,List.flatten_cons,Zce x n];rfl
theorem allT (n:Nat):(List.replicate n true).all id=true:=by rw [List.all_replicate];split<;>rfl
theorem repT {n i:Nat} (h:i<n):(List.replicate n true)[i]? = some true:=by rw [List.getElem?_replicate,if_pos h]
theorem Zef {α:Type} {l:List α} {i:Nat} {x:α} (h:l[i]? = some x):i<l.length:=(n22_.mp h).1
abbrev RB:Hp→V→Bool→Prop:=fun _ v b=>v=V.bl b
theorem hRB:∀ H1 H2 v x,Tk H1 H2→RB H1 v x→RB H2 v x:=fun _ _ _ _ _ e=>e
abbrev RI:Hp→V→Int→Prop:=fun _ v b=>v=V.int b
theorem hRI:∀ H1 H2 v x,Tk H1 H2→RI H1 v x→RI H2 v x:=fun _ _ _ _ _ e=>e
theorem hRP:∀ H1 H2 v x,Tk H1 H2→IsP H1 v x→IsP H2 v x:=fun _ _ _ _ t h=>h.tk t
theorem Zv4 {H:Hp} {cs:List Pnt} {us:List V} (A:Al (IsP H) us cs) {i:Int} (h0:0≤i) (h1:i≤(cs.length:Int)-1):∃ v,atI us i=some v∧IsP H v (cAt cs i):=by
 obtain ⟨n,rfl⟩:∃ n:Nat,i=n:=⟨i.toNat,?d⟩;have hn:n<cs.length:=?d
 obtain ⟨v,ev,r⟩:=A.got (n0_ hn);refine ⟨v,Ys ev,?_⟩
 have:cAt cs (n:Int)=cs[n]:=by unfold cAt;simp [n4_,hn]
 rw [this];exact r
theorem Zcv {cs:List Pnt} {i:Int} (h0:0≤i) (h1:i≤(cs.length:Int)-1):cAt cs i∈cs:=by
 have hn:i.toNat<cs.length:=?d
 unfold cAt;rw [n4_,n0_ hn];exact n24_ hn
def IsQ (H:Hp) (v:V) (q:Rat):Prop:=∃ a,v=.ref a∧H a=some (.tup (rt q))
theorem IsQ.tk {H H':Hp} {v:V} {q:Rat} (t:Tk H H') (h:IsQ H v q):IsQ H' v q:=let ⟨a,e,h1⟩:=h;⟨a,e,t _ _ h1⟩
theorem hRQ:∀ H1 H2 v x,Tk H1 H2→IsQ H1 v x→IsQ H2 v x:=fun _ _ _ _ t h=>h.tk t
theorem cs3 {H:Hp} {us:List V} {cs:List Pnt} (al:Al (IsP H) us cs) {p:?g} (hl:p.length=3) (bd:∀ i∈p,0≤i∧i≤(cs.length:Int)-1) {vs:List V} (a2:Al (IsP H) vs (p.map (cAt cs))):∃ x y z,vs=[x,y,z]∧IsP H x (cAt cs (p.getD 0 0))∧IsP H y (cAt cs (p.getD 1 0))∧IsP H z (cAt cs (p.getD 2 0)):=by
 obtain ⟨i,j,k,rfl⟩:=len3 hl
 have:=a2.1
 obtain ⟨x,y,z,rfl⟩:=len3 this;exact ⟨x,y,z,rfl,a2.2 0 x _ rfl rfl,a2.2 1 y _ rfl rfl,a2.2 2 z _ rfl rfl⟩
theorem Zk3 (n:Int) (p:?g):inV (V.int n) (p.map V.int)=decide (n∈p):=by
 unfold inV;rw [List.any_map]
 induction p with
 | nil=>rfl
 | cons x p ih =>
   rw [List.any_cons,ih]
   by_cases h:n=x
   · subst h
     have:eqV (V.int n) (V.int n)=true:=by simp [eqV]
     simp [Function.comp,this]
   · have:eqV (V.int x) (V.int n)=false:=by simp [eqV];exact fun z=>h z.symm
     simp [Function.comp,this,h]
abbrev IsQs (H:Hp) (v:V) (ms:?z):Prop:=IsTup' IsQ H v ms
theorem Z5 {H H':Hp} {v:V} {ms:?z} (t:Tk H H') (h:IsQs H v ms):IsQs H' v ms:=IsTup'.tk (R:=IsQ) hRQ t h
theorem Zpk {m b:Int} (hm:0<m) (hb:0<b):0<m.fdiv (Int.gcd m b:Int)*b∧m∣m.fdiv (Int.gcd m b:Int)*b∧b∣m.fdiv (Int.gcd m b:Int)*b∧(m.fdiv (Int.gcd m b:Int)).natAbs≤m.natAbs:=by
 have hg:(0:Int)<Int.gcd m b:=by have:=FM.gcd_ne (t:=m) (b:=b) (?d);omega
 obtain ⟨k,hk⟩:=Int.gcd_dvd_left m b;obtain ⟨j,hj⟩:=Int.gcd_dvd_right m b;generalize (Int.gcd m b:Int)=g at *;have e:m.fdiv g=k:=by rw [hk,n81_];exact FM.fdiv_mul (?d)
 rw [e]
 have kp:0<k:=by
  refine Int.pos_of_mul_pos_left (b:=g) ?_ hg;rw [n81_,← hk];exact hm
 refine ⟨Int.mul_pos kp hb,⟨j,?_⟩,⟨k,n81_ _ _⟩,?_⟩
 · rw [hj,hk];grind
 · rw [hk,n53_];exact Nat.le_mul_of_pos_left _ (?d)
noncomputable def lev (m:Int) (q:Rat):Int:=q.num*m.fdiv q.den
theorem Ztx (q:Rat):q=(q.num:Rat)/(q.den:Rat):=by
 have:=Rat.mkRat_self q
 rw [Rat.mkRat_eq_div] at this;exact this.symm
theorem Zwt (q:Rat):(q.den:Rat)≠0:=fun z=>q.den_nz (by exact_mod_cast z)
theorem Znf {m:Int} {q:Rat} (h:(q.den:Int)∣m):(lev m q:Rat)=q*m:=by
 obtain ⟨k,rfl⟩:=h;unfold lev;rw [n81_ (q.den:Int),FM.fdiv_mul (FM.den_ne q)];have e:=Ztx q;have hd:=Zwt q;rw [n30_,n30_];generalize (q.num:Rat)=n at *;have hd2:((q.den:Int):Rat)=(q.den:Rat):=by first|rfl|exact Rat.intCast_natCast _
 rw [hd2];generalize (q.den:Rat)=dd at *;rw [e]
 grind
theorem Zka {a b:Int} {n:Nat} (ha:a.natAbs<2^n) (hb:b.natAbs<2^n) (hn:n≤1000000:=by decide):CMulB a b:=⟨n9_ ha (n25_ ?e hn),n9_ hb (n25_ ?e hn)⟩
theorem up {a n:Nat} (m:Nat) (h:a<2^n) (l:n≤m:=by decide):a<2^m:=n9_ h (n25_ ?e l)
inductive BxSp_areFr (vs:List V) (H:Hp) (Q:VK):Prop
 | mk (v:V) (ms:?z) (q1:vs=[v,.int ms.length]) (q2:IsQs H v ms) (q3:(∀ q∈ms,FM.B 4000 q)) (q4:ms.length≤1000) (q5:∀ H',?H→Q (.bl true) H'):BxSp_areFr vs H Q
def Zkc:Sp:=fun vs H Q _=>BxSp_areFr vs H Q
noncomputable def dotI (xs ys:?g):Int:=(List.zipWith (·*·) xs ys).sum
def p0 (cs:List Pnt) (p:?g):Pnt:=cAt cs (p.getD 0 0)
def p1 (cs:List Pnt) (p:?g):Pnt:=cAt cs (p.getD 1 0)
def p2 (cs:List Pnt) (p:?g):Pnt:=cAt cs (p.getD 2 0)
def Yo (cs:List Pnt) (p:?g):?g:=[(p1 cs p).2-(p2 cs p).2,(p2 cs p).2-(p0 cs p).2,(p0 cs p).2-(p1 cs p).2]
def Yp (cs:List Pnt) (p:?g):?g:=[(p2 cs p).1-(p1 cs p).1,(p0 cs p).1-(p2 cs p).1,(p1 cs p).1-(p0 cs p).1]
def Yw (p:?g):?g:=p.map (fun i=>2*i)++p.map (fun i=>2*i+1)
def pcOf (P:Pl) (n:Int):?g:=P.ps.getD n.toNat []
def Zbu (P:Pl) (n:Int) (ms:?z):?z:=(Yw ?y).map fun w=>ms.getD w.toNat 0
def strI (bs cs six:?g):?g:=[dotI bs (six.take 3),dotI cs (six.drop 3),dotI (cs++bs) six]
theorem Zas {P:Pl} {n:Int} (h0:0≤n) (h1:n<P.ps.length):pcOf P n∈P.ps:=by
 unfold pcOf;have hn:n.toNat<P.ps.length:=?d
 rw [n4_,n0_ hn];exact n24_ hn
theorem Zt1 {H:Hp} {P:Pl} {ws:List V} (bl:Al (IsI H) ws P.ps) {n:Int} (h0:0≤n) (h1:n<P.ps.length):∃ v,atI ws n=some v∧IsI H v ?y:=by
 obtain ⟨k,rfl⟩:∃ k:Nat,n=k:=⟨n.toNat,?d⟩;have hk:k<P.ps.length:=?d
 obtain ⟨v,ev,r⟩:=bl.got (n0_ hk);refine ⟨v,Ys ev,?_⟩
 have:pcOf P (k:Int)=P.ps[k]:=by unfold pcOf;simp [n4_,hk]
 rw [this];exact r
theorem Zu4 {H:Hp} {ms:?z} {us:List V} (al:Al (IsQ H) us ms) {i:Int} (h0:0≤i) (h1:i<ms.length):∃ v,atI us i=some v∧IsQ H v (ms.getD i.toNat 0):=by
 obtain ⟨k,rfl⟩:∃ k:Nat,i=k:=⟨i.toNat,?d⟩;have hk:k<ms.length:=?d
 obtain ⟨v,ev,r⟩:=al.got (n0_ hk);refine ⟨v,Ys ev,?_⟩
 have:ms.getD (k:Int).toNat 0=ms[k]:=by simp [n4_,hk]
 rw [this];exact r
theorem Zmx {cs:List Pnt} (nr:∀ p∈cs,near p) {p:?g} (hl:p.length=3) (bd:∀ i∈p,0≤i∧i≤(cs.length:Int)-1):(∀ x∈Yo cs p,x.natAbs≤200)∧(∀ x∈Yp cs p,x.natAbs≤200)∧(dOf cs p).natAbs≤80000:=by
 obtain ⟨i,j,k,rfl⟩:=len3 hl;obtain ⟨⟨a1,a2⟩,a3,a4⟩:=nr _ (Zcv (bd i ?f).1 (bd i ?f).2);obtain ⟨⟨b1,b2⟩,b3,b4⟩:=nr _ (Zcv (bd j ?f).1 (bd j ?f).2);obtain ⟨⟨c1,c2⟩,c3,c4⟩:=nr _ (Zcv (bd k ?f).1 (bd k ?f).2);refine ⟨fun x hx=>?_,fun x hx=>?_,?_⟩
 · simp only [Yo,p0,p1,p2,n12_,n16_,or_false,n42_,n43_] at hx
   rcases hx with rfl|rfl|rfl<;>omega
 · simp only [Yp,p0,p1,p2,n12_,n16_,or_false,n42_,n43_] at hx
   rcases hx with rfl|rfl|rfl<;>omega
 · show (tn (cAt cs i) (cAt cs j) (cAt cs k)).natAbs≤80000
   unfold tn
   have h1:(((cAt cs j).1-(cAt cs i).1)*((cAt cs k).2-(cAt cs i).2)).natAbs≤200*200:=by
    rw [n53_];exact n54_ (?d) (?d)
   have h2:(((cAt cs k).1-(cAt cs i).1)*((cAt cs j).2-(cAt cs i).2)).natAbs≤200*200:=by
    rw [n53_];exact n54_ (?d) (?d)
   omega
def dotQ (bs:?g) (us:?z):Rat:=(List.zipWith (fun (b:Int) (u:Rat)=>(b:Rat)*u) bs us).sum
theorem Zla {m:Int}:∀ (bs:?g) (us:?z),(∀ q∈us,(q.den:Int)∣m)→((dotI bs (us.map (lev m)):Int):Rat)=dotQ bs us*m
 | [],us,_=>by simp [dotI,dotQ,Rat.zero_mul]
 | b :: bs,[],_=>by simp [dotI,dotQ,Rat.zero_mul]
 | b :: bs,u :: us,h=>by
   have ih:=Zla bs us fun q hq=>h q (n15_ _ hq);have e:=Znf (h u n20_);unfold dotI dotQ at *;simp only [n19_,n59_,n46_];rw [n74_,n30_,ih,e]
   grind
theorem Zjw {a b:Nat}:∀ (xs ys:?g),(∀ x∈xs,x.natAbs<2^a)→(∀ y∈ys,y.natAbs<2^b)→(dotI xs ys).natAbs≤xs.length*2^(a+b)
 | [],ys,_,_=>by simp [dotI]
 | x :: xs,[],_,_=>by simp [dotI]
 | x :: xs,y :: ys,hx,hy=>by
   have ih:=Zjw xs ys (fun z hz=>hx z (n15_ _ hz)) fun z hz=>hy z (n15_ _ hz);have h1:=FM.natAbs_mul_lt (hx x n20_) (hy y n20_);have e:dotI (x :: xs) (y :: ys)=x*y+dotI xs ys:=rfl;rw [e,n29_,Nat.add_mul,Nat.one_mul];omega
def strQ (P:Pl) (n:Int) (ms:?z):?z :=
 [dotQ (Yo P.cs ?y) ((Zbu P n ms).take 3)/(dOf P.cs ?y:Rat),dotQ (Yp P.cs ?y) ((Zbu P n ms).drop 3)/(dOf P.cs ?y:Rat),dotQ (Yp P.cs ?y++Yo P.cs ?y) (Zbu P n ms)/(dOf P.cs ?y:Rat)]
def stsQ (l m:Int) (s:?z):?z:=[(l:Rat)*(s.getD 0 0+s.getD 1 0)+2*(m:Rat)*s.getD 0 0,(l:Rat)*(s.getD 0 0+s.getD 1 0)+2*(m:Rat)*s.getD 1 0,(m:Rat)*s.getD 2 0]
theorem Xf {d:Int} (h:d≠0):(d:Rat)≠0:=fun z=>h (by exact_mod_cast z)
theorem Znb {t d m:Int} {S:Rat} (hd:d≠0) (hm:m≠0) (h:(t:Rat)=S*m):Rat.divInt t (d*m)=S/d:=by
 rw [n68_,h,n30_];have h1:=Xf hd;have h2:=Xf hm
 grind
theorem Zvs {P:Pl} {n m:Int} {ms:?z} (hd:dOf P.cs ?y≠0) (hm:m≠0) (dv:∀ q∈Zbu P n ms,(q.den:Int)∣m) :
 (strI (Yo P.cs ?y) (Yp P.cs ?y) ((Zbu P n ms).map (lev m))).map (fun t=>Rat.divInt t (dOf P.cs ?y*m))=strQ P n ms:=by
 unfold strI strQ;simp only [n19_,n70_];rw [← List.map_take,← List.map_drop];rw [Znb hd hm (Zla _ _ fun q hq=>dv q (List.mem_of_mem_take hq)),Znb hd hm (Zla _ _ fun q hq=>dv q (List.mem_of_mem_drop hq)),Znb hd hm (Zla _ _ dv)]
theorem Zui {l m E F G b:Int}:([l*(E+F)+2*m*E,l*(E+F)+2*m*F,m*G].map fun t=>Rat.divInt t b)=stsQ l m ([E,F,G].map fun t=>Rat.divInt t b):=by
 unfold stsQ;simp only [n19_,n70_,n42_,n43_,n68_,n74_,n30_];have e2:((2:Int):Rat)=2:=rfl;rw [e2];refine n91_ rfl fun i h1 h2=>?_
 match i,h1 with
 | 0,_=>simp only [List.getElem_cons_zero];grind
 | 1,_=>simp only [List.getElem_cons_zero,List.getElem_cons_succ];grind
 | 2,_=>simp only [List.getElem_cons_zero,List.getElem_cons_succ];grind
inductive BxSp_multG (vs:List V) (H:Hp) (Q:VK):Prop
 | mk (l:Addr) (ds:?g) (k:Nat) (q1:vs=[.ref l]) (q2:H l=some (.lst (ds.map V.int))) (q3:(∀ x∈ds,0<x∧x.natAbs<2^k)) (q4:k*ds.length≤3900) (q5:k≤3900) (q6:∀ m:Int,0<m→(∀ x∈ds,x∣m)→m.natAbs<2^(k*ds.length+1)→Q (.int m) H):BxSp_multG vs H Q
def Zkt:Sp:=fun vs H Q _=>BxSp_multG vs H Q
def levP (m:Int) (p:Pnt):Int:=p.1*m.fdiv p.2
abbrev PB (k:Nat) (ps:List Pnt):Prop:=∀ p∈ps,(0<p.2∧p.2.natAbs<2^k)∧p.1.natAbs<2^1000
def LevQ (ps:List Pnt) (k:Nat) (H:Hp) (Q:VK):Prop:=∀ (H':Hp) (p t:Addr) (m:Int),?H→H' p=some (.tup [.ref t,.int m])→H' t=some (.lst ((ps.map (levP m)).map V.int))→0<m→(∀ p∈ps,p.2∣m)→m.natAbs<2^(k*ps.length+1)→Q (.ref p) H'
inductive BxSp_levL (vs:List V) (H:Hp) (Q:VK):Prop
 | mk (l:Addr) (us:List V) (ps:List Pnt) (k:Nat) (q1:vs=[.ref l]) (q2:H l=some (.lst us)) (q3:Al (IsP H) us ps) (q4:PB k ps) (q5:k*ps.length≤3900) (q6:k≤3900) (q7:ps.length≤1000) (q8:LevQ ps k H Q):BxSp_levL vs H Q
def Zn8:Sp:=fun vs H Q _=>BxSp_levL vs H Q
theorem Zrj {H:Hp} {us:List V} {ps:List Pnt} (al:Al (IsP H) us ps):∀ (i:Nat) (w:V),us[i]? = some w→∃ p x y,w=.ref p∧H p=some (.tup [x,y]):=fun i w e=>by
 obtain ⟨q,_,p,rfl,h⟩:=al.get e;exact ⟨p,_,_,rfl,h⟩
theorem Zut {H:Hp} {us:List V} {ps:List Pnt} (al:Al (IsP H) us ps) {i:Nat} {p:Addr} {x y:V} (e:us[i]? = some (.ref p)) (hp:H p=some (.tup [x,y])):∃ q,ps[i]? = some q∧x=.int q.1∧y=.int q.2:=by
 obtain ⟨q,eq,p',e1,h⟩:=al.get e;cases e1
 rw [hp] at h;cases h
 exact ⟨q,eq,rfl,rfl⟩
theorem Xu {m b:Int} {k:Nat} (hb:0<b) (h:b∣m) (hm:m.natAbs<2^k):(m.fdiv b).natAbs<2^k:=by
 obtain ⟨j,rfl⟩:=h;rw [n81_,FM.fdiv_mul (?d)];refine n14_ ?_ hm;rw [n53_];exact Nat.le_mul_of_pos_left _ (?d)
noncomputable def prQ (q:Rat):Pnt:=(q.num,(q.den:Int))
theorem Zuk {H:Hp} {us:List V} {qs:?z} (al:Al (IsQ H) us qs):Al (IsP H) us (qs.map prQ):=⟨by rw [al.1,n3_],fun i v p e1 e2=>by
 rw [n5_] at e2;obtain ⟨q,eq,rfl⟩:=n10_.mp e2;obtain ⟨a,rfl,h⟩:=al.2 i v q e1 eq;exact ⟨a,rfl,h⟩⟩
theorem Zup {k:Nat} {qs:?z} (h:∀ q∈qs,FM.B 1000 q∧q.den<2^k):PB k (qs.map prQ):=fun p hp=>by
 obtain ⟨q,hq,rfl⟩:=n21_.mp hp;exact ⟨⟨FM.den_pos q,(h q hq).2⟩,(h q hq).1.1⟩
theorem hRQs:∀ H1 H2 v x,Tk H1 H2→IsQs H1 v x→IsQs H2 v x:=fun _ _ _ _ t h=>Z5 t h
abbrev Zje (H:Hp) (v:V) (ss:List (?z)):Prop:=IsTup' IsQs H v ss
theorem Zdr {H H':Hp} {v:V} {ss:List (?z)} (t:Tk H H') (h:Zje H v ss):Zje H' v ss:=IsTup'.tk (R:=IsQs) hRQs t h
def Zgh (P:Pl) (ms:?z):List (?z):=(List.range P.ps.length).map fun n:Nat=>stsQ P.l P.m (strQ P n ms)
structure SOk (P:Pl) (ss:List (?z)):Prop where
 len:ss.length=P.ps.length
 three:∀ s∈ss,s.length=3
 bd:∀ s∈ss,∃ D:Int,(0<D∧D.natAbs<2^23)∧∀ q∈s,FM.B 90 q∧(q.den:Int)∣D
def rsum (ps:List Pnt):Rat:=(ps.map fun p=>(p.1:Rat)/(p.2:Rat)).sum
inductive BxSp_added (vs:List V) (H:Hp) (Q:VK):Prop
 | mk (l:Addr) (us:List V) (ps:List Pnt) (q1:vs=[.ref l]) (q2:H l=some (.lst us)) (q3:Al (IsP H) us ps) (q4:PB 71 ps) (q5:ps.length≤40) (q6:∀ (H':Hp) (v:V),?H→IsQ H' v (rsum ps)→Q v H'):BxSp_added vs H Q
def Zj2:Sp:=fun vs H Q _=>BxSp_added vs H Q
inductive BxSp_mixed (vs:List V) (H:Hp) (Q:VK):Prop
 | mk (a l:Addr) (us:List V) (ps:List Pnt) (b:Int) (q1:vs=[.ref a,.ref l,.int b]) (q2:H a=some (.lst (List.replicate ps.length (.int 1)))) (q3:H l=some (.lst us)) (q4:Al (IsP H) us ps) (q5:PB 71 ps) (q6:ps.length≤40) (q7:b≠0) (q8:b.natAbs<2^1000) (q9:∀ (H':Hp) (v:V),?H→IsQ H' v (rsum ps/b)→Q v H'):BxSp_mixed vs H Q
def Zgu:Sp:=fun vs H Q _=>BxSp_mixed vs H Q
theorem Zsq {m:Int} {p:Pnt} (h0:0<p.2) (h:p.2∣m):(levP m p:Rat)=(p.1:Rat)/(p.2:Rat)*m:=by
 obtain ⟨k,rfl⟩:=h;unfold levP;rw [n81_ p.2 k,FM.fdiv_mul (?d),n30_,n30_]
 have:=Xf (show p.2≠0 by omega)
 generalize (p.1:Rat)=a at *;generalize (p.2:Rat)=b at *
 grind
theorem Znm {m:Int}:∀ (ps:List Pnt),(∀ p∈ps,0<p.2∧p.2∣m)→(((ps.map (levP m)).sum:Int):Rat)=rsum ps*m
 | [],_=>by simp [rsum,Rat.zero_mul]
 | p :: ps,h=>by
   have ih:=Znm ps fun q hq=>h q (n15_ _ hq);obtain ⟨h1,h2⟩:=h p n20_;have e:=Zsq h1 h2;unfold rsum at *;simp only [n19_,n46_];rw [n74_,ih,e]
   grind
theorem Zsl {m:Int} {p:Pnt} {k:Nat} (h0:0<p.2) (h:p.2∣m) (hm:m.natAbs<2^k) (ht:p.1.natAbs<2^1000):(levP m p).natAbs<2^(1000+k):=FM.natAbs_mul_lt ht (Xu h0 h hm)
def Zeq (bs cs three:?g):?g:=(List.zipWith (fun b c=>three.getD 0 0*b+three.getD 2 0*c) bs cs)++(List.zipWith (fun b c=>three.getD 2 0*b+three.getD 1 0*c) bs cs)
def thk (P:Pl) (n:Nat):Int:=if 0<dOf P.cs ?y then P.ts.getD n 0 else -(P.ts.getD n 0)
def xP (P:Pl) (n:Nat) (s:?z) (c:Nat):Rat:=(thk P n:Rat)*(s.getD 0 0*((Yo P.cs ?y).getD c 0:Int)+s.getD 2 0*((Yp P.cs ?y).getD c 0:Int))/2
def yP (P:Pl) (n:Nat) (s:?z) (c:Nat):Rat:=(thk P n:Rat)*(s.getD 2 0*((Yo P.cs ?y).getD c 0:Int)+s.getD 1 0*((Yp P.cs ?y).getD c 0:Int))/2
def pnt (P:Pl) (n:Nat) (c:Nat):Int:=(pcOf P n).getD c 0
def ctr (P:Pl) (n:Nat) (s:?z):List (Int×Rat):=[(2*pnt P n 0,xP P n s 0),(2*pnt P n 1,xP P n s 1),(2*pnt P n 2,xP P n s 2),(2*pnt P n 0+1,yP P n s 0),(2*pnt P n 1+1,yP P n s 1),(2*pnt P n 2+1,yP P n s 2)]
def pt' (l:List (Int×Rat)) (w:Nat):Rat:=(l.map fun e=>if e.1=(w:Int) then e.2 else 0).sum
def Fn (P:Pl) (ss:List (?z)):Nat→Nat→Rat
 | 0,_=>0
 | i+1,w=>Fn P ss i w+pt' (ctr P i (ss.getD i [])) w
def Zlg (P:Pl) (ss:List (?z)):?z:=(List.range (2*P.cs.length)).map (Fn P ss ss.length)
theorem Zng (l:List (Int×Rat)) (e:Int×Rat) (w:Nat):pt' (l++[e]) w=pt' l w+if e.1=(w:Int) then e.2 else 0:=by
 unfold pt';rw [n62_,List.sum_append];simp [n51_]
theorem Zsv {bs cs th:?g} (hb:∀ x∈bs,x.natAbs≤200) (hc:∀ x∈cs,x.natAbs≤200) (h3:th.length=3) (ht:∀ x∈th,x.natAbs<2^200):∀ x∈Zeq bs cs th,x.natAbs<2^300:=by
 match th,h3 with
 | [p,q,r],_ =>
   have key:∀ (a b c d:Int),a.natAbs<2^200→c.natAbs<2^200→b.natAbs≤200→d.natAbs≤200→(a*b+c*d).natAbs<2^300:=by
    intro a b c d ha hc hb hd;have h1:=FM.natAbs_mul_lt ha (n14_ hb (show 200<2^8 by decide));have h2:=FM.natAbs_mul_lt hc (n14_ hd (show 200<2^8 by decide));have h3:2^(200+8)+2^(200+8)<2^300:=?k
    omega
   intro x hx
   rcases n36_.mp hx with h|h
   · obtain ⟨i,hi,e⟩:=n50_ h;rw [List.length_zipWith] at hi;rw [List.getElem_zipWith] at e;rw [← e];exact key _ _ _ _ (ht p ?f) (ht r ?f) (hb _ (n24_ _)) (hc _ (n24_ _))
   · obtain ⟨i,hi,e⟩:=n50_ h;rw [List.length_zipWith] at hi;rw [List.getElem_zipWith] at e;rw [← e];exact key _ _ _ _ (ht r ?f) (ht q ?f) (hb _ (n24_ _)) (hc _ (n24_ _))
theorem Zh0 {α β:Type} (f:α→β):∀ (l:List α) (i:Nat),(l.map f).eraseIdx i=(l.eraseIdx i).map f
 | [],i=>by cases i<;>rfl
 | x :: l,0=>rfl
 | x :: l,i+1=>by simp only [n19_,List.eraseIdx_cons_succ,Zh0 f l i]
theorem Zaf {α:Type}:∀ (l:List α) (i:Nat) (h:i<l.length),(l[i] :: l.eraseIdx i).Perm l
 | [],i,h=>by simp at h
 | x :: l,0,h=>.refl _
 | x :: l,i+1,h=>by
   simp only [List.eraseIdx_cons_succ,List.getElem_cons_succ];exact (List.Perm.swap x _ _).trans ((Zaf l i (by simpa using h)).cons x)
theorem Zpi {α:Type} {R:V→α→Prop} {vs:List V} {xs:List α} {v:V} {x:α} (h:Al R vs xs) (j:Nat) (r:R v x):Al R (vs.set j v) (xs.set j x):=by
 refine ⟨by simp [h.1],fun i w y e1 e2=>?_⟩;rw [List.getElem?_set] at e1 e2
 by_cases hi:j=i
 · subst hi;rw [if_pos rfl] at e1 e2;split at e1
   · split at e2
     · cases e1;cases e2;exact r
     · cases e2
   · cases e1
 · rw [if_neg hi] at e1 e2;exact h.2 i w y e1 e2
theorem Zmd {S:V→?g→Prop} {T:?g→?g→Prop}:∀ {vs:List V} {ps:List (?g)},Al (fun v p=>∃ r,S v r∧T r p) vs ps→∃ kl:List (?g),kl.length=ps.length∧Al S vs kl∧∀ i:Nat,i<ps.length→T (kl.getD i []) (ps.getD i [])
 | [],[],_=>⟨[],rfl,.nil,fun i hi=>by simp at hi⟩
 | [],p :: ps,h=>by have:=h.1;simp at this
 | v :: vs,[],h=>by have:=h.1;simp at this
 | v :: vs,p :: ps,h=>by
   obtain ⟨r,s,t⟩:=h.2 0 v p rfl rfl;obtain ⟨kl,l,a,k⟩:=Zmd (vs:=vs) (ps:=ps) ⟨by have:=h.1;simpa using this,fun i w x e1 e2=>h.2 (i+1) w x (by simpa using e1) (by simpa using e2)⟩;refine ⟨r :: kl,by simp [l],.cons s a,fun i hi=>?_⟩;cases i with
   | zero=>exact t
   | succ i=>simpa using k i (by simpa using hi)
theorem Zhu {n:Nat} {k:Int} (h0:0≤k) (h1:k<n):ixN n k=some k.toNat:=by
 unfold ixN;rw [if_pos h0,if_pos (?d)]
theorem seqI {n:Nat} {k:Int} (h0:0≤k) (h1:k<n):seqIndex? k n=some k.toNat:=(Ziw (Zhu h0 h1)).1
theorem tkS {H H':Hp} {l:Addr} (k:Keep l H H') (s:StAt H l):Tk H H':=by
 obtain ⟨a,b,c,e,_⟩:=s;exact Tk.of_keep k e
theorem StAt.neN {H:Hp} {l p:Addr} (s:StAt H l) (h:H p=none):p≠l:=fun z=>s.ne h z.symm
theorem Zmr {J:It} {n:Nat} {l D:Addr} {g:TG} {te:TE} {σ0:L2.St} {H:Hp} {Q:VK} {α:Type} (R:Hp→V→α→Prop) (hR:∀ H1 H2 v x,Tk H1 H2→R H1 v x→R H2 v x) (hz:n≤1000) (ok:L2.St→Prop) (h0:ok σ0) (hD:H D=none) (hl:StAt H l)
 (hgo:∀ i H2,Keep l H H2→i<n→J.go i H2) (hstop:∀ H2,Keep l H H2→J.stop n H2)
 (hs:∀ i x σ2 H2 H3 (C:L2.St→V→?w),i<n→Keep l H H2→StAt H2 l→J.yld i H2 x H3→ok σ2→(∀ σ4 y H5 z,ok σ4→Keep l H2 H5→StAt H5 l→R H5 y z→C σ4 y H5)→g x σ2 H3 fun σ4 H4=>te σ4 H4 (C σ4))
 (hd:∀ H2 vs ys,Keep l H H2→StAt H2 l→H2 D=some (.lst vs)→ys.length=n→Al (R H2) vs ys→Q (.ref D) H2):LcGo J g tYes te σ0 H D Q:=by
 have neD:D≠l:=hl.neN hD;refine Zcz (n:=n) (fun i σ H2=>Keep l H H2∧StAt H2 l∧ok σ∧∃ vs ys,ys.length=i∧H2 D=some (.lst vs)∧Al (R H2) vs ys) ⟨Keep.new hD,hl.new hD,h0,[],[],rfl,Zc,.nil⟩ (fun i σ H2 hi p=>hgo i H2 p.1 hi) (fun σ H2 p=>hstop H2 p.1) (fun i x σ2 H2 H3 hi y p=>?_) (fun σ2 H2 p=>?_)
 · obtain ⟨s2,l2,o2,vs,ys,hy,e2,a2⟩:=p;refine hs i x σ2 H2 H3 (fun σ4 y H6=>∃ ys,H6 D=some (.lst ys)∧ys.length<sizeLine∧∃ m',m'<n-i∧LcN n (fun i σ H2=>Keep l H H2∧StAt H2 l∧ok σ∧∃ vs ys,ys.length=i∧H2 D=some (.lst vs)∧Al (R H2) vs ys) (i+1) m' σ4 (upd H6 D (.lst (ys++[y])))) hi s2 l2 y o2 ?_;intro σ4 v H5 z o4 s5 l5 rz;have e5:H5 D=some (.lst vs):=s5 _ _ neD e2;have tk:Tk H5 (upd H5 D (.lst (vs++[v]))):=Tk.upd_lst e5;refine ⟨vs,e5,?_,n-(i+1),?d,?d,rfl,fun b o nb e=>?_,?_,o4,vs++[v],ys++[z],by simp [hy],Zc,?_⟩
   · rw [a2.1,sizeLine_eq];omega
   · rw [Zl (Zj e hD)];exact s5 _ _ nb (s2 _ _ nb e)
   · obtain ⟨a,b,c,e,r⟩:=l5;exact ⟨a,b,c,by rw [Zl neD.symm];exact e,r⟩
   · exact (a2.imp fun v x r=>hR _ _ v x tk (hR _ _ v x (tkS s5 l2) r)).snoc (hR _ _ _ _ tk rz)
 · obtain ⟨s2,l2,_,vs,ys,hy,e2,a2⟩:=p;exact hd H2 vs ys s2 l2 e2 hy a2
inductive BxSp_order (vs:List V) (H:Hp) (Q:VK):Prop
 | mk (l:Addr) (n:Nat) (q1:vs=[.ref l,.int n]) (q2:StAt H l) (q3:n≤60) (q4:∀ (H':Hp) (r:Addr) (o:?g),Keep l H H'→StAt H' l→H r=none→H' r=some (.lst (o.map V.int))→o.Perm ((List.range n).map fun i:Nat=>(i:Int))→Q (.ref r) H'):BxSp_order vs H Q
def Zkr:Sp:=fun vs H Q _=>BxSp_order vs H Q
def tot (qs:?z):Rat:=qs.foldl (·+·) 0
theorem Zpz {n:Nat} (qs:?z) (h:∀ q∈qs,FM.B n q):FM.B ((n+1)*qs.length+1) (tot qs):=by
 have:∀ (qs:?z) (a:Rat) (k:Nat),(∀ q∈qs,FM.B n q)→FM.B k a→FM.B (k+(n+1)*qs.length) (qs.foldl (·+·) a):=by
  intro qs
  induction qs with
  | nil=>intro a k _ ha;exact ha
  | cons q qs ih =>
    intro a k hq ha;rw [List.foldl_cons]
    have:=ih (a+q) (k+n+1) (fun x hx=>hq x (n15_ _ hx)) (FM.B_add ha (hq q n20_))
    refine this.mono ?_;rw [n29_,Nat.mul_add];omega
 exact (this qs 0 1 h bd0).mono (?d)
inductive BxSp_total (vs:List V) (H:Hp) (Q:VK):Prop
 | mk (a:Addr) (us:List V) (qs:?z) (q1:vs=[.ref a]) (q2:H a=some (.lst us)) (q3:Al (IsQ H) us qs) (q4:(∀ q∈qs,FM.B 150 q)) (q5:qs.length≤12) (q6:∀ (H':Hp) (v:V),?H→IsQ H' v (tot qs)→Q v H'):BxSp_total vs H Q
def Zkx:Sp:=fun vs H Q _=>BxSp_total vs H Q
def Zhn:Sp:=fun vs H Q _=>vs=[]∧∀ (H':Hp) (r:Addr) (us:List V),?H→H r=none→H' r=some (.lst us)→Al (IsSh H') us Zdz→Q (.ref r) H'
inductive BxSp_rowq (vs:List V) (H:Hp) (Q:VK):Prop
 | mk (l:Addr) (n:Nat) (q1:vs=[.ref l,.int n]) (q2:StAt H l) (q3:n≤1000) (q4:∀ (H':Hp) (v:V) (ms:?z),Keep l H H'→StAt H' l→IsQs H' v ms→ms.length=n→(∀ q∈ms,FM.B 60 q)→(∀ q∈ms,q.den∣60)→Q v H'):BxSp_rowq vs H Q
def Znc:Sp:=fun vs H Q _=>BxSp_rowq vs H Q
inductive BxSp_drawn6 (n:Nat) (vs:List V) (H:Hp) (Q:VK):Prop
 | mk (l:Addr) (q1:vs=[.ref l]) (q2:StAt H l) (q3:∀ (H':Hp) (p:Addr) (q:Rat),Keep l H H'→StAt H' l→H' p=some (.tup (rt q))→FM.B n q∧q.den∣60→Q (.ref p) H'):BxSp_drawn6 n vs H Q
def Zhf (n:Nat):Sp:=fun vs H Q _=>BxSp_drawn6 n vs H Q
theorem Zi9 (t:Int) {b:Int} (h:b≠0):((Rat.divInt t b).den:Int)∣b:=by
 rw [← FM.fdiv_den h]
 have hs:FM.sg t b∣b:=by
  unfold FM.sg;split
  · exact Int.neg_dvd.mpr (Int.gcd_dvd_right t b)
  · exact Int.gcd_dvd_right t b
 obtain ⟨k,hk⟩:=hs
 have e:b.fdiv (FM.sg t b)=k:=by
  have h0:=FM.sg_ne (t:=t) h;generalize FM.sg t b=g at *;rw [hk,n81_];exact FM.fdiv_mul h0
 rw [e];exact ⟨_,by rw [n81_];exact hk⟩
theorem Zrt (t:Int) {b:Int} (h1:1≤b) (h6:b≤6):(Rat.divInt t b).den∣60:=by
 have h:=Zi9 t (show b≠0 by omega)
 have h2:b∣60:=by
  have:b=1∨b=2∨b=3∨b=4∨b=5∨b=6:=?d
  rcases this with rfl|rfl|rfl|rfl|rfl|rfl<;>decide
 exact_mod_cast Int.dvd_trans h h2
theorem Zpb {H:Hp} {us:List V} (al:Al (IsSh H) us Zdz) {r:Int} (h0:0≤r) (h1:r<8):∃ (v:V) (s:List Pnt×List (?g)),atI us r=some v∧IsSh H v s∧s∈Zdz:=by
 obtain ⟨k,rfl⟩:∃ k:Nat,r=k:=⟨r.toNat,?d⟩;have hk:k<Zdz.length:=by show k<8;omega
 obtain ⟨v,ev,rv⟩:=al.got (n0_ hk);exact ⟨v,_,Ys ev,rv,n24_ hk⟩
theorem Zk7 {α:Type} {R:V→α→Prop} {v:V} {x:α} (r:R v x):∀ n:Nat,Al R (List.replicate n v) (List.replicate n x)
 | 0=>.nil
 | n+1=>by rw [n83_,n83_];exact .cons r (Zk7 r n)
theorem mul4 {a b:Int} (ha:a.natAbs≤1000) (hb:b.natAbs≤1000):CMulB a b:=mul3 ha hb
theorem o_at {o:?g} {n:Nat} (O:CoOrd n o) {i:Int} (h0:0≤i) (h1:i<n):atI (o.map V.int) i=some (.int (oAt o i)):=by
 obtain ⟨k,rfl⟩:∃ k:Nat,i=k:=⟨i.toNat,?d⟩;have hk:k<o.length:=by rw [O.len];omega
 refine Ys ?_;rw [n5_,n0_ hk];unfold oAt;simp [n4_,hk]
theorem Zqh {p:Pnt} (h:p.1.natAbs≤6∧p.2.natAbs≤6):p.1.natAbs≤1000∧p.2.natAbs≤1000:=⟨?d,?d⟩
theorem Zwz {H:Hp} {vs:List V} {kl:List (?g)} (al:Al (IsI H) vs kl) {q:?p} (hq:∀ i∈q,i<kl.length):Al (IsI H) (q.map fun i=>vs.getD i .non) (?ad):=by
 refine ⟨by simp,fun n v r e1 e2=>?_⟩;rw [n5_] at e1 e2;obtain ⟨i,ei,rfl⟩:=n10_.mp e1;rw [ei] at e2;cases e2
 have hi:=hq i (n17_ ei);have hv:i<vs.length:=by rw [al.1];exact hi
 have:=al.2 i vs[i] kl[i] (n0_ hv) (n0_ hi)
 show IsI H (vs.getD i .non) (kl.getD i [])
 rw [n4_,n4_,n0_ hv,n0_ hi];exact this
def Zn7 (H:Hp) (v:V) (r:Int×Rat×Rat):Prop:=∃ a x y,v=.ref a∧H a=some (.tup [.int r.1,x,y])∧IsQ H x r.2.1∧IsQ H y r.2.2
theorem Zcf {H H':Hp} {v:V} {r:Int×Rat×Rat} (t:Tk H H') (h:Zn7 H v r):Zn7 H' v r:=let ⟨a,x,y,e,h1,h2,h3⟩:=h;⟨a,x,y,e,t _ _ h1,h2.tk t,h3.tk t⟩
def slQ (cs:List Pnt) (p:?g):List (Int×Rat×Rat) :=
 [(p.getD 0 0,Rat.divInt ((p1 cs p).2-(p2 cs p).2) (dOf cs p),Rat.divInt ((p2 cs p).1-(p1 cs p).1) (dOf cs p)),
  (p.getD 1 0,Rat.divInt ((p2 cs p).2-(p0 cs p).2) (dOf cs p),Rat.divInt ((p0 cs p).1-(p2 cs p).1) (dOf cs p)),
  (p.getD 2 0,Rat.divInt ((p0 cs p).2-(p1 cs p).2) (dOf cs p),Rat.divInt ((p1 cs p).1-(p0 cs p).1) (dOf cs p))]
inductive BxSp_lslopes (vs:List V) (H:Hp) (Q:VK):Prop
 | mk (v:V) (P:Pl) (n:Int) (q1:vs=[v,.int n]) (q2:IsPl H v P) (q3:PlOk P) (q4:0≤n) (q5:n<P.ps.length) (q6:∀ (H':Hp) (r f:Addr) (us:List V),?H→H' r=some (.tup [.int (dOf P.cs ?y),.ref f])→H f=none→H' f=some (.lst us)→Al (Zn7 H') us (slQ P.cs ?y)→Q (.ref r) H'):BxSp_lslopes vs H Q
def Ze6:Sp:=fun vs H Q _=>BxSp_lslopes vs H Q
theorem lowB {a b:Int} (ha:a.natAbs≤200) (hb:b.natAbs≤80000) (h0:b≠0):FM.B 20 (Rat.divInt a b):=FM.B_divInt h0 (n14_ ha ?e) (n14_ hb ?e)
def mAt (ms:?z) (w:Int):Rat:=ms.getD w.toNat 0
def eL (ms:?z) (rs:List (Int×Rat×Rat)):?z:=rs.map fun r=>r.2.1*mAt ms (2*r.1)
def fL (ms:?z) (rs:List (Int×Rat×Rat)):?z:=rs.map fun r=>r.2.2*mAt ms (2*r.1+1)
def gL (ms:?z) (rs:List (Int×Rat×Rat)):?z:=rs.flatMap fun r=>[r.2.2*mAt ms (2*r.1),r.2.1*mAt ms (2*r.1+1)]
theorem Zrk (ms:?z):∀ rs:List (Int×Rat×Rat),(gL ms rs).length=2*rs.length
 | []=>rfl
 | r :: rs=>by
   have:=Zrk ms rs
   unfold gL at *;rw [n88_,n33_,this,n29_];show 2+2*rs.length=2*(rs.length+1)
   omega
theorem Zke {P:Pl} {n:Int} {ms:?z} (hl:(pcOf P n).length=3) (hd:dOf P.cs ?y≠0) :
 [tot (eL ms (slQ P.cs ?y)),tot (fL ms (slQ P.cs ?y)),tot (gL ms (slQ P.cs ?y))]=strQ P n ms:=by
 have h1:=Xf hd;unfold strQ Zbu;generalize pcOf P n=p at *;obtain ⟨i,j,k,rfl⟩:=len3 hl;have e0:Yw [i,j,k]=[2*i,2*j,2*k,2*i+1,2*j+1,2*k+1]:=rfl;rw [e0];simp only [n19_,n70_,n76_,List.take_zero,n85_,n86_];simp only [eL,fL,gL,slQ,tot,mAt,n19_,n70_,n88_,List.flatMap_nil,n67_,n61_,List.foldl_cons,List.foldl_nil,n42_,n43_,n68_];simp only [Yo,Yp,dotQ,n67_,n61_,n59_,n79_,n71_,n46_,List.sum_nil];generalize (dOf P.cs [i,j,k]:Rat)=d at *;generalize (((p1 P.cs [i,j,k]).2-(p2 P.cs [i,j,k]).2:Int):Rat)=b0;generalize (((p2 P.cs [i,j,k]).2-(p0 P.cs [i,j,k]).2:Int):Rat)=b1;generalize (((p0 P.cs [i,j,k]).2-(p1 P.cs [i,j,k]).2:Int):Rat)=b2;generalize (((p2 P.cs [i,j,k]).1-(p1 P.cs [i,j,k]).1:Int):Rat)=c0;generalize (((p0 P.cs [i,j,k]).1-(p2 P.cs [i,j,k]).1:Int):Rat)=c1;generalize (((p1 P.cs [i,j,k]).1-(p0 P.cs [i,j,k]).1:Int):Rat)=c2;generalize ms.getD (2*i).toNat 0=u0;generalize ms.getD (2*j).toNat 0=u1;generalize ms.getD (2*k).toNat 0=u2;generalize ms.getD (2*i+1).toNat 0=v0;generalize ms.getD (2*j+1).toNat 0=v1;generalize ms.getD (2*k+1).toNat 0=v2;have q1:0+b0/d*u0+b1/d*u1+b2/d*u2=(b0*u0+(b1*u1+(b2*u2+0)))/d:=by grind
 have q2:0+c0/d*v0+c1/d*v1+c2/d*v2=(c0*v0+(c1*v1+(c2*v2+0)))/d:=by grind
 have q3:0+c0/d*u0+b0/d*v0+c1/d*u1+b1/d*v1+c2/d*u2+b2/d*v2=(c0*u0+(c1*u1+(c2*u2+(b0*v0+(b1*v1+(b2*v2+0))))))/d:=by grind
 rw [q1,q2,q3]
inductive BxSp_lstrain (vs:List V) (H:Hp) (Q:VK):Prop
 | mk (v w:V) (P:Pl) (n:Int) (ms:?z) (q1:vs=[v,w,.int n]) (q2:IsPl H v P) (q3:PlOk P) (q4:0≤n) (q5:n<P.ps.length) (q6:IsQs H w ms) (q7:ms.length=2*P.cs.length) (q8:(∀ q∈ms,FM.B 60 q)) (q9:∀ (H':Hp) (r:V),?H→IsQs H' r (strQ P n ms)→Q r H'):BxSp_lstrain vs H Q
def Zfm:Sp:=fun vs H Q _=>BxSp_lstrain vs H Q
theorem sl_B {P:Pl} {n:Int} (ok:PlOk P) (h0:0≤n) (h1:n<P.ps.length):∀ r∈slQ P.cs ?y,(0≤r.1∧r.1≤(P.cs.length:Int)-1)∧FM.B 20 r.2.1∧FM.B 20 r.2.2:=by
 have pk:=ok.pc _ (Zas h0 h1);obtain ⟨b1,b2,b3⟩:=Zmx ok.nr pk.len pk.bd;have bd:=pk.bd;have hd:=pk.d;generalize pcOf P n=p at *;have hl:=pk.len;intro r hr;have gm:∀ i:Nat,i<3→p.getD i 0∈p:=fun i hi=>by rw [n4_,n0_ (?d)];exact n24_ _
 simp only [slQ,n12_,n16_,or_false] at hr
 rcases hr with rfl|rfl|rfl
 · exact ⟨bd _ (gm 0 ?e),lowB (b1 _ (by simp [Yo])) b3 hd,lowB (b2 _ (by simp [Yp])) b3 hd⟩
 · exact ⟨bd _ (gm 1 ?e),lowB (b1 _ (by simp [Yo])) b3 hd,lowB (b2 _ (by simp [Yp])) b3 hd⟩
 · exact ⟨bd _ (gm 2 ?e),lowB (b1 _ (by simp [Yo])) b3 hd,lowB (b2 _ (by simp [Yp])) b3 hd⟩
theorem Zm8 {ms:?z} {k:Nat} (h:∀ q∈ms,FM.B k q) (hk:1≤k) (w:Int):FM.B k (mAt ms w):=by
 unfold mAt;rw [n4_];cases e:ms[w.toNat]? with
 | none=>exact bd0.mono hk
 | some x=>exact h x (n17_ e)
theorem Al.app {α:Type} {R:V→α→Prop} {vs ws:List V} {xs ys:List α} (h:Al R vs xs) (g:Al R ws ys):Al R (vs++ws) (xs++ys):=by
 refine ⟨by simp [h.1,g.1],fun i w y e1 e2=>?_⟩
 by_cases hi:i<vs.length
 · rw [n72_ hi] at e1;rw [n72_ (by rw [← h.1];exact hi)] at e2;exact h.2 i w y e1 e2
 · rw [n66_ (?d)] at e1;rw [n66_ (by rw [← h.1];omega),← h.1] at e2;exact g.2 _ w y e1 e2
theorem Zwx {P:Pl} {n:Int} {ms:?z} (ok:PlOk P) (h0:0≤n) (h1:n<P.ps.length) (hB:∀ q∈ms,FM.B 60 q):∀ q∈strQ P n ms,FM.B 600 q:=by
 have pk:=ok.pc _ (Zas h0 h1);rw [← Zke pk.len pk.d];have sb:=sl_B ok h0 h1;have hm:=fun w=>Zm8 hB ?e w;intro q hq;simp only [n12_,n16_,or_false] at hq
 rcases hq with rfl|rfl|rfl
 · exact (Zpz (n:=80) _ fun x hx=>by obtain ⟨r,hr,rfl⟩:=n21_.mp hx;exact FM.B_mul (sb r hr).2.1 (hm _)).mono (by simp [eL,slQ])
 · exact (Zpz (n:=80) _ fun x hx=>by obtain ⟨r,hr,rfl⟩:=n21_.mp hx;exact FM.B_mul (sb r hr).2.2 (hm _)).mono (by simp [fL,slQ])
 · refine (Zpz (n:=80) _ fun x hx=>?_).mono (by simp [gL,slQ]);obtain ⟨r,hr,hx⟩:=List.mem_flatMap.mp hx;simp only [n12_,n16_,or_false] at hx
   rcases hx with rfl|rfl
   · exact FM.B_mul (sb r hr).2.2 (hm _)
   · exact FM.B_mul (sb r hr).2.1 (hm _)
inductive BxSp_lstress (vs:List V) (H:Hp) (Q:VK):Prop
 | mk (v w:V) (P:Pl) (s:?z) (q1:vs=[v,w]) (q2:IsPl H v P) (q3:PlOk P) (q4:IsQs H w s) (q5:s.length=3) (q6:(∀ q∈s,FM.B 600 q)) (q7:∀ (H':Hp) (r:V),?H→IsQs H' r (stsQ P.l P.m s)→Q r H'):BxSp_lstress vs H Q
def Zfo:Sp:=fun vs H Q _=>BxSp_lstress vs H Q
theorem Zjy (l:Int):rt (l:Rat)=[.int l,.int 1]:=by
 unfold rt;rfl
theorem Zjh {l:Int} (h:l.natAbs≤18):FM.B 5 (l:Rat):=⟨n14_ (show (l:Rat).num.natAbs≤18 from h) ?e,by show 1<2^5;decide⟩
def dI (ns:?g):PyData:=.tuple (ns.map .int)
noncomputable def dQ (q:Rat):PyData:=.tuple [.int q.num,.int q.den]
def dQs (qs:?z):PyData:=.tuple (qs.map dQ)
theorem Zj7 {α:Type} {N:Addr→Prop} {H:Hp} {k:Nat} {R:V→α→Prop} {f:α→PyData}:∀ {vs:List V} {xs:List α},Al R vs xs→(∀ v x,x∈xs→R v x→Dt N H k v (f x))→Dts N H k vs (xs.map f)
 | [],[],_,_=>.nil
 | [],x :: xs,h,_=>by have:=h.1;simp at this
 | v :: vs,[],h,_=>by have:=h.1;simp at this
 | v :: vs,x :: xs,h,g=>.cons (g v x n20_ (h.2 0 v x rfl rfl)) (Zj7 ⟨by have:=h.1;simpa using this,fun i w y e1 e2=>h.2 (i+1) w y (by simpa using e1) (by simpa using e2)⟩ fun v x hx=>g v x (n15_ _ hx))
theorem Zb4 {α:Type} {f:α→PyData} {c:Nat}:∀ {xs:List α},(∀ x∈xs,(f x).depth≤c)→PyData.depthAll (xs.map f)≤c
 | [],_=>n47_ _
 | x :: xs,h=>by
   have h1:=h x n20_;have h2:=Zb4 (xs:=xs) fun y hy=>h y (n15_ _ hy);simp only [n19_,PyData.depthAll];omega
theorem Zjz {α:Type} {f:α→PyData} {c:Nat}:∀ {xs:List α},(∀ x∈xs,nz (f x)≤c)→Zda (xs.map f)≤xs.length*(c+1)
 | [],_=>n47_ _
 | x :: xs,h=>by
   have h1:=h x n20_;have h2:=Zjz (xs:=xs) fun y hy=>h y (n15_ _ hy);simp only [n19_,Zda,n29_,Nat.add_mul,Nat.one_mul];omega
theorem Zva {N:Addr→Prop} {H:Hp} {k:Nat} {v:V} {ns:?g} (h:IsI H v ns) (hb:∀ i∈ns,i.natAbs<2^k):Dt N H k v (dI ns):=by
 obtain ⟨a,rfl,q⟩:=h;exact .tup q (Zj7 (Al.of_ints ns) fun v x hx e=>by cases e;exact .int (hb x hx))
theorem Zuj (ns:?g):(dI ns).depth≤1:=by
 have:=Zb4 (f:=PyData.int) (c:=0) (xs:=ns) fun x _=>n7_ _
 simp only [dI,PyData.depth];omega
theorem nzI (ns:?g):nz (dI ns)≤1+ns.length*2:=by
 have:=Zjz (f:=PyData.int) (c:=1) (xs:=ns) fun x _=>n7_ _
 simp only [dI,nz];omega
theorem dtQ {N:Addr→Prop} {H:Hp} {k:Nat} {v:V} {q:Rat} (h:IsQ H v q) (hb:FM.B k q):Dt N H k v (dQ q):=by
 obtain ⟨a,rfl,e⟩:=h;exact .tup e (.cons (.int hb.1) (.cons (.int (by simpa using hb.2)) .nil))
theorem dtQs {N:Addr→Prop} {H:Hp} {k:Nat} {v:V} {qs:?z} (h:IsQs H v qs) (hb:∀ q∈qs,FM.B k q):Dt N H k v (dQs qs):=by
 obtain ⟨a,vs,rfl,e,al⟩:=h;exact .tup e (Zj7 al fun v x hx r=>dtQ r (hb x hx))
theorem Zok (qs:?z):(dQs qs).depth≤2:=by
 have:=Zb4 (f:=dQ) (c:=1) (xs:=qs) fun x _=>n7_ _
 simp only [dQs,PyData.depth];omega
theorem nzQs (qs:?z):nz (dQs qs)≤1+qs.length*6:=by
 have:=Zjz (f:=dQ) (c:=5) (xs:=qs) fun x _=>n7_ _
 simp only [dQs,nz];omega
abbrev NF:Addr→Prop:=fun _=>False
inductive BxSp_law (K:PySem.W.Frag) (vs:List V) (H:Hp) (Q:VK):Prop
 | mk (a:Addr) (ns:?g) (q1:vs=[.ref a]) (q2:SqL K H a ?U) (q3:ns.length≤63) (q4:∀ H',Q (.bl true) H'):BxSp_law K vs H Q
def Zlb (K:PySem.W.Frag):Sp:=fun vs H Q _=>BxSp_law K vs H Q
theorem Zws {P:Pl} {n:Int} {ms:?z} (ok:PlOk P) (h0:0≤n) (h1:n<P.ps.length) (hB:∀ q∈ms,FM.B 60 q) (h60:∀ q∈ms,q.den∣60):∃ D:Int,(0<D∧D.natAbs<2^23)∧∀ q∈stsQ P.l P.m (strQ P n ms),FM.B 90 q∧(q.den:Int)∣D:=by
 have pk:=ok.pc _ (Zas h0 h1);obtain ⟨c1,c2,c3⟩:=Zmx ok.nr pk.len pk.bd
 have dv:∀ q∈Zbu P n ms,(q.den:Int)∣60:=fun q hq=>by
  obtain ⟨w,hw,rfl⟩:=n21_.mp hq;rw [n4_];cases e:ms[w.toNat]? with
  | none=>decide
  | some x=>exact_mod_cast h60 x (n17_ e)
 have hd:=pk.d;have hb:dOf P.cs ?y*60≠0:=Int.mul_ne_zero hd ?e
 have hz:∀ y∈(Zbu P n ms).map (lev 60),y.natAbs<2^66:=fun y hy=>by
  obtain ⟨q,hq,rfl⟩:=n21_.mp hy
  have h6:FM.B 60 q:=by
   obtain ⟨w,hw,rfl⟩:=n21_.mp hq;exact Zm8 hB ?e w
  exact FM.natAbs_mul_lt h6.1 (Xu (k:=6) (FM.den_pos q) (dv q hq) ?e)
 have b1:∀ x∈Yo P.cs ?y,x.natAbs<2^8:=fun x hx=>n14_ (c1 x hx) ?e;have b2:∀ x∈Yp P.cs ?y,x.natAbs<2^8:=fun x hx=>n14_ (c2 x hx) ?e;have hs:=Zvs (ms:=ms) (m:=60) hd ?e dv;rw [← hs];have hE:=Zjw _ _ b1 fun y (hy:y∈((Zbu P n ms).map (lev 60)).take 3)=>hz y (List.mem_of_mem_take hy);have hF:=Zjw _ _ b2 fun y (hy:y∈((Zbu P n ms).map (lev 60)).drop 3)=>hz y (List.mem_of_mem_drop hy);have hG:=Zjw _ _ (fun x (hx:x∈Yp P.cs (pcOf P n)++Yo P.cs (pcOf P n))=>(n36_.mp hx).elim (b2 x) (b1 x)) hz;have l1:(Yo P.cs ?y).length=3:=rfl;have l2:(Yp P.cs ?y).length=3:=rfl;rw [l1] at hE;rw [l2] at hF;rw [n33_,l1,l2] at hG;unfold strI;generalize dotI (Yo P.cs ?y) (((Zbu P n ms).map (lev 60)).take 3)=E at *;generalize dotI (Yp P.cs ?y) (((Zbu P n ms).map (lev 60)).drop 3)=F at *;generalize dotI (Yp P.cs ?y++Yo P.cs ?y) ((Zbu P n ms).map (lev 60))=G at *;rw [← Zui];generalize dOf P.cs ?y=dd at *;obtain ⟨l0,l9⟩:=ok.l9;obtain ⟨m0,m9⟩:=ok.m9;have p23:(2:Nat)^23=8388608:=?k
 have key:∀ t:Int,t.natAbs<2^90→FM.B 90 (Rat.divInt t (dd*60)):=fun t ht=>FM.B_divInt hb ht (n9_ (show (dd*60).natAbs<2^23 by omega) (n25_ ?e ?e));have p77:3*2^(8+66)=56668397794435742564352:=?k
 have p78:6*2^(8+66)=113336795588871485128704:=?k
 have p90:2^90=1237940039285380274899124224:=?k
 have m1:∀ (a x:Int),0≤a→a≤18→x.natAbs≤200000000000000000000000→(a*x).natAbs≤18*200000000000000000000000:=fun a x h1 h2 hx=>by
  rw [n53_];exact n54_ (?d) hx
 refine ⟨(dd*60).natAbs,⟨?d,?d⟩,fun q hq=>?_⟩;obtain ⟨t,ht,rfl⟩:=n21_.mp hq;refine ⟨key t ?_,Int.dvd_natAbs.mpr (Zi9 t hb)⟩;have a1:=m1 P.l (E+F) l0 (?d) (?d);have a2:=m1 (2*P.m) E (?d) (?d) (?d);have a3:=m1 (2*P.m) F (?d) (?d) (?d);have a4:=m1 P.m G (?d) (?d) (?d);simp only [n12_,n16_,or_false] at ht
 rcases ht with rfl|rfl|rfl<;>omega
inductive BxSp_lstresses (vs:List V) (H:Hp) (Q:VK):Prop
 | mk (v w:V) (P:Pl) (ms:?z) (q1:vs=[v,w]) (q2:IsPl H v P) (q3:PlOk P) (q4:IsQs H w ms) (q5:ms.length=2*P.cs.length) (q6:(∀ q∈ms,FM.B 60 q)) (q7:∀ (H':Hp) (r:V),?H→Zje H' r (Zgh P ms)→Q r H'):BxSp_lstresses vs H Q
def Zc6:Sp:=fun vs H Q _=>BxSp_lstresses vs H Q
theorem Zt8 {t d b c:Int} {p r:Rat} (hd:d≠0):Rat.divInt (t*(if d<0 then -d else d)) 2*(p*Rat.divInt b d+r*Rat.divInt c d)=((if 0<d then t else -t:Int):Rat)*(p*(b:Int)+r*(c:Int))/2:=by
 simp only [n68_];have h1:=Xf hd;have e2:((2:Int):Rat)=2:=rfl
 by_cases h:d<0
 · rw [if_pos h,if_neg (?d),n30_,Rat.intCast_neg,Rat.intCast_neg,e2];generalize (d:Rat)=D at *
   grind
 · rw [if_neg h,if_pos (?d),n30_,e2];generalize (d:Rat)=D at *
   grind
def ctrL (P:Pl) (n:Nat) (s:?z):List (Int×Rat):=[(2*pnt P n 0,xP P n s 0),(2*pnt P n 0+1,yP P n s 0),(2*pnt P n 1,xP P n s 1),(2*pnt P n 1+1,yP P n s 1),(2*pnt P n 2,xP P n s 2),(2*pnt P n 2+1,yP P n s 2)]
theorem Zs3 (P:Pl) (n:Nat) (s:?z) (w:Nat):pt' (ctrL P n s) w=pt' (ctr P n s) w:=by
 unfold pt' ctrL ctr;simp only [n19_,n70_,n46_,List.sum_nil]
 grind
theorem x_B {P:Pl} {n c:Nat} {u v:Rat} {D:Int} (ok:PlOk P) (hn:n<P.ps.length) (hc:c<3) (hD:0<D∧D.natAbs<2^23) (hu:FM.B 90 u∧(u.den:Int)∣D) (hv:FM.B 90 v∧(v.den:Int)∣D) (b c':Int) (hb:b.natAbs≤200) (hc':c'.natAbs≤200):FM.B 127 ((thk P n:Rat)*(u*(b:Int)+v*(c':Int))/2):=by
 have e1:=Znf hu.2;have e2:=Znf hv.2;have z1:(lev D u).natAbs<2^113:=FM.natAbs_mul_lt hu.1.1 (Xu (FM.den_pos u) hu.2 hD.2);have z2:(lev D v).natAbs<2^113:=FM.natAbs_mul_lt hv.1.1 (Xu (FM.den_pos v) hv.2 hD.2)
 have ht:(thk P n).natAbs≤9:=by
  have h:P.ts.getD n 0∈P.ts:=by
   have:n<P.ts.length:=by rw [ok.t1];exact hn
   rw [n4_,n0_ this];exact n24_ _
  have:=ok.t9 _ h
  unfold thk;split<;>omega
 have hD0:=Xf (show D≠0 by omega)
 have val:(thk P n:Rat)*(u*(b:Int)+v*(c':Int))/2=Rat.divInt (thk P n*(lev D u*b+lev D v*c')) (2*D):=by
  rw [n68_,n30_,n74_,n30_,n30_,n30_,e1,e2];have f3:((2:Int):Rat)=2:=rfl;rw [f3];generalize (D:Rat)=M at *
  grind
 rw [val];generalize lev D u=U at *;generalize lev D v=W at *;have g1:=FM.natAbs_mul_lt z1 (n14_ hb (show 200<2^8 by decide));have g2:=FM.natAbs_mul_lt z2 (n14_ hc' (show 200<2^8 by decide))
 have g3:(U*b+W*c').natAbs<2^122:=by
  have:2^(113+8)+2^(113+8)=2^122:=?k
  omega
 refine FM.B_divInt (?d) (n9_ (FM.natAbs_mul_lt (n:=4) (n14_ ht ?e) g3) (n25_ ?e ?e)) ?_;refine n9_ (show (2*D).natAbs<2^24 from ?_) (n25_ ?e ?e)
 have:2^24=2*2^23:=?k
 omega
inductive BxSp_lpushes (vs:List V) (H:Hp) (Q:VK):Prop
 | mk (v w:V) (P:Pl) (ss:List (?z)) (q1:vs=[v,w]) (q2:IsPl H v P) (q3:PlOk P) (q4:P.ps.length≤4) (q5:Zje H w ss) (q6:SOk P ss) (q7:∀ (H':Hp) (r:V),?H→IsQs H' r (Zlg P ss)→(∀ q∈Zlg P ss,FM.B 1600 q)→Q r H'):BxSp_lpushes vs H Q
def Zfs:Sp:=fun vs H Q _=>BxSp_lpushes vs H Q
def e6 (c:Nat):?g:=(List.range 6).map fun i=>if i=c then 1 else 0
def stsI (l m:Int) (s:?g):?g:=[l*(s.getD 0 0+s.getD 1 0)+2*m*s.getD 0 0,l*(s.getD 0 0+s.getD 1 0)+2*m*s.getD 1 0,m*s.getD 2 0]
def opI (P:Pl) (n:Nat) (a:Nat):?g:=Zeq (Yo P.cs ?y) (Yp P.cs ?y) (stsI P.l P.m (strI (Yo P.cs ?y) (Yp P.cs ?y) (e6 a)))
def opP (P:Pl) (n:Nat) (a i:Nat):Pnt:=(P.ts.getD n 0*(opI P n a).getD i 0,2*((dOf P.cs ?y).natAbs:Int))
def wAt (P:Pl) (n:Nat) (i:Nat):Int:=(Yw ?y).getD i 0
def ownL (P:Pl) (n:Nat):List ((Int×Int)×Pnt):=(List.range 6).flatMap fun a=>(List.range 6).map fun i=>((wAt P n i,wAt P n a),opP P n a i)
def uQ (N o:Nat):?z:=(List.range N).map fun i=>if i=o then 1 else 0
def pq (p:Pnt):Rat:=(p.1:Rat)/(p.2:Rat)
noncomputable def tbl (es:List ((Int×Int)×Pnt)) (k:Int×Int):List Pnt:=(es.filter fun e=>e.1=k).map (·.2)
theorem Zbb (p:Pnt) (r:List Pnt):rsum (p :: r)=pq p+rsum r:=rfl
theorem Zdm (r s:List Pnt):rsum (r++s)=rsum r+rsum s:=by unfold rsum;rw [n62_,List.sum_append]
theorem Zcu (r s:List ((Int×Int)×Pnt)) (k:Int×Int):tbl (r++s) k=tbl r k++tbl s k:=by unfold tbl;rw [List.filter_append,n62_]
theorem Zj0 (e:(Int×Int)×Pnt) (s:List ((Int×Int)×Pnt)) (k:Int×Int):rsum (tbl (e :: s) k)=(if e.1=k then pq e.2 else 0)+rsum (tbl s k):=by
 unfold tbl
 by_cases h:e.1=k
 · rw [List.filter_cons_of_pos (by simpa using h),n19_,Zbb,if_pos h]
 · rw [List.filter_cons_of_neg (by simpa using h),if_neg h,Rat.zero_add]
theorem Zta (b0 b1 b2 c0 c1 c2 l m D t s B C x0 x1 x2 x3 x4 x5:Rat) :
 (t*s)*((l*((b0*x0+(b1*x1+(b2*x2+0)))*D+(c0*x3+(c1*x4+(c2*x5+0)))*D)+2*m*((b0*x0+(b1*x1+(b2*x2+0)))*D))*B+(m*((c0*x0+(c1*x1+(c2*x2+(b0*x3+(b1*x4+(b2*x5+0))))))*D))*C)/2
 = x0*((t*((l*b0+2*m*b0)*B+m*c0*C))*(s*D)/2)+x1*((t*((l*b1+2*m*b1)*B+m*c1*C))*(s*D)/2)+x2*((t*((l*b2+2*m*b2)*B+m*c2*C))*(s*D)/2)
 + x3*((t*((l*c0)*B+m*b0*C))*(s*D)/2)+x4*((t*((l*c1)*B+m*b1*C))*(s*D)/2)+x5*((t*((l*c2)*B+m*b2*C))*(s*D)/2):=by
 grind
theorem Zs8 (b0 b1 b2 c0 c1 c2 l m D t s B C x0 x1 x2 x3 x4 x5:Rat) :
 (t*s)*((m*((c0*x0+(c1*x1+(c2*x2+(b0*x3+(b1*x4+(b2*x5+0))))))*D))*B+(l*((b0*x0+(b1*x1+(b2*x2+0)))*D+(c0*x3+(c1*x4+(c2*x5+0)))*D)+2*m*((c0*x3+(c1*x4+(c2*x5+0)))*D))*C)/2
 = x0*((t*(m*c0*B+(l*b0)*C))*(s*D)/2)+x1*((t*(m*c1*B+(l*b1)*C))*(s*D)/2)+x2*((t*(m*c2*B+(l*b2)*C))*(s*D)/2)
 + x3*((t*(m*b0*B+(l*c0+2*m*c0)*C))*(s*D)/2)+x4*((t*(m*b1*B+(l*c1+2*m*c1)*C))*(s*D)/2)+x5*((t*(m*b2*B+(l*c2+2*m*c2)*C))*(s*D)/2):=by
 grind
theorem Zww {P:Pl} {n:Nat} (hd:dOf P.cs ?y≠0):∃ s:Rat,(thk P n:Rat)=(P.ts.getD n 0:Int)*s∧∀ X:Int,pq (P.ts.getD n 0*X,2*((dOf P.cs ?y).natAbs:Int))=(((P.ts.getD n 0:Int):Rat)*(X:Rat))*(s*(dOf P.cs ?y:Rat)⁻¹)/2:=by
 have h1:=Xf hd;have e2:((2:Int):Rat)=2:=rfl;unfold thk pq;generalize P.ts.getD n 0=t
 by_cases h:0<dOf P.cs ?y
 · refine ⟨1,by rw [if_pos h,Rat.mul_one],fun X=>?_⟩;rw [show ((dOf P.cs ?y).natAbs:Int)=dOf P.cs ?y by omega];simp only [n30_];rw [e2];generalize (dOf P.cs ?y:Rat)=D at *
   grind
 · refine ⟨-1,by rw [if_neg h,Rat.intCast_neg];grind,fun X=>?_⟩;rw [show ((dOf P.cs ?y).natAbs:Int) = -dOf P.cs ?y by omega];simp only [n30_,Rat.intCast_neg];rw [e2];generalize (dOf P.cs ?y:Rat)=D at *
   grind
theorem Zwr {P:Pl} {n:Nat} (hd:dOf P.cs ?y≠0) {ms:?z} {x0 x1 x2 x3 x4 x5:Rat} (h6:Zbu P n ms=[x0,x1,x2,x3,x4,x5]) {i:Nat} (hi:i<6) :
 ((ctr P n (stsQ P.l P.m (strQ P n ms))).getD i (0,0)).2=x0*pq (opP P n 0 i)+x1*pq (opP P n 1 i)+x2*pq (opP P n 2 i)+x3*pq (opP P n 3 i)+x4*pq (opP P n 4 i)+x5*pq (opP P n 5 i):=by
 obtain ⟨s,hs,hp⟩:=Zww hd;unfold opP;simp only [hp];unfold opI ctr xP yP strQ;rw [h6,hs];obtain ⟨b0,b1,b2,hb⟩:∃ b0 b1 b2:Int,Yo P.cs ?y=[b0,b1,b2]:=⟨_,_,_,rfl⟩;obtain ⟨c0,c1,c2,hc⟩:∃ b0 b1 b2:Int,Yp P.cs ?y=[b0,b1,b2]:=⟨_,_,_,rfl⟩;rw [hb,hc];have e2:((2:Int):Rat)=2:=rfl;have e0:((0:Int):Rat)=0:=rfl;have e1:((1:Int):Rat)=1:=rfl;have g:∀ x:Rat,x/(dOf P.cs ?y:Rat)=x*(dOf P.cs ?y:Rat)⁻¹:=fun x=>Rat.div_def _ _;have o0:e6 0=[1,0,0,0,0,0]:=rfl;have o1:e6 1=[0,1,0,0,0,0]:=rfl;have o2:e6 2=[0,0,1,0,0,0]:=rfl;have o3:e6 3=[0,0,0,1,0,0]:=rfl;have o4:e6 4=[0,0,0,0,1,0]:=rfl;have o5:e6 5=[0,0,0,0,0,1]:=rfl;rw [o0,o1,o2,o3,o4,o5]
 match i,hi with
 | 0,_ =>
   simp only [stsQ,stsI,strI,Zeq,dotI,dotQ,g,n42_,n43_,n76_,List.take_zero,n85_,n86_,n59_,n79_,n71_,n46_,List.sum_nil,n67_,n61_,n74_,n30_,e2,e0,e1];rw [Zta b0 b1 b2 c0 c1 c2 P.l P.m (dOf P.cs ?y:Rat)⁻¹ (P.ts.getD n 0:Int) s b0 c0 x0 x1 x2 x3 x4 x5]
   grind
 | 1,_ =>
   simp only [stsQ,stsI,strI,Zeq,dotI,dotQ,g,n42_,n43_,n76_,List.take_zero,n85_,n86_,n59_,n79_,n71_,n46_,List.sum_nil,n67_,n61_,n74_,n30_,e2,e0,e1];rw [Zta b0 b1 b2 c0 c1 c2 P.l P.m (dOf P.cs ?y:Rat)⁻¹ (P.ts.getD n 0:Int) s b1 c1 x0 x1 x2 x3 x4 x5]
   grind
 | 2,_ =>
   simp only [stsQ,stsI,strI,Zeq,dotI,dotQ,g,n42_,n43_,n76_,List.take_zero,n85_,n86_,n59_,n79_,n71_,n46_,List.sum_nil,n67_,n61_,n74_,n30_,e2,e0,e1];rw [Zta b0 b1 b2 c0 c1 c2 P.l P.m (dOf P.cs ?y:Rat)⁻¹ (P.ts.getD n 0:Int) s b2 c2 x0 x1 x2 x3 x4 x5]
   grind
 | 3,_ =>
   simp only [stsQ,stsI,strI,Zeq,dotI,dotQ,g,n42_,n43_,n76_,List.take_zero,n85_,n86_,n59_,n79_,n71_,n46_,List.sum_nil,n67_,n61_,n74_,n30_,e2,e0,e1];rw [Zs8 b0 b1 b2 c0 c1 c2 P.l P.m (dOf P.cs ?y:Rat)⁻¹ (P.ts.getD n 0:Int) s b0 c0 x0 x1 x2 x3 x4 x5]
   grind
 | 4,_ =>
   simp only [stsQ,stsI,strI,Zeq,dotI,dotQ,g,n42_,n43_,n76_,List.take_zero,n85_,n86_,n59_,n79_,n71_,n46_,List.sum_nil,n67_,n61_,n74_,n30_,e2,e0,e1];rw [Zs8 b0 b1 b2 c0 c1 c2 P.l P.m (dOf P.cs ?y:Rat)⁻¹ (P.ts.getD n 0:Int) s b1 c1 x0 x1 x2 x3 x4 x5]
   grind
 | 5,_ =>
   simp only [stsQ,stsI,strI,Zeq,dotI,dotQ,g,n42_,n43_,n76_,List.take_zero,n85_,n86_,n59_,n79_,n71_,n46_,List.sum_nil,n67_,n61_,n74_,n30_,e2,e0,e1];rw [Zs8 b0 b1 b2 c0 c1 c2 P.l P.m (dOf P.cs ?y:Rat)⁻¹ (P.ts.getD n 0:Int) s b2 c2 x0 x1 x2 x3 x4 x5]
   grind
theorem Ztn {P:Pl} {n:Nat} (hd:dOf P.cs ?y≠0) (h3:(pcOf P n).length=3) {N o w:Nat} (hw:∀ x∈Yw ?y,0≤x∧x<N) :
 rsum (tbl (ownL P n) (w,o))=pt' (ctr P n (stsQ P.l P.m (strQ P n (uQ N o)))) w:=by
 obtain ⟨i,j,k,hp⟩:∃ i j k,pcOf P n=[i,j,k]:=by
  match hp:pcOf P n,h3 with
  | [i,j,k],_=>exact ⟨i,j,k,rfl⟩
 have ewl:Yw ?y=[2*i,2*j,2*k,2*i+1,2*j+1,2*k+1]:=by rw [hp];rfl
 have u:∀ x:Int,0≤x∧x<N→(uQ N o).getD x.toNat 0=if x=o then 1 else 0:=fun x ⟨x0,x1⟩=>by
  unfold uQ;rw [n4_,n5_,n78_ (?d)];show (if x.toNat=o then (1:Rat) else 0)=_
  by_cases z:x=o
  · rw [if_pos z,if_pos (?d)]
  · rw [if_neg z,if_neg (?d)]
 have h6:Zbu P n (uQ N o)=(Yw ?y).map fun x=>if x=(o:Int) then 1 else 0:=n57_ fun x hx=>u x (hw x hx)
 rw [ewl] at h6;simp only [n19_,n70_] at h6;have v:=fun i hi=>Zwr hd h6 (i:=i) hi;have v0:=v 0 ?e;have v1:=v 1 ?e;have v2:=v 2 ?e;have v3:=v 3 ?e;have v4:=v 4 ?e;have v5:=v 5 ?e;unfold ctr at *;simp only [n42_,n43_] at v0 v1 v2 v3 v4 v5;unfold pt' ownL;have p0:pnt P n 0=i:=by unfold pnt;rw [hp];rfl
 have p1':pnt P n 1=j:=by unfold pnt;rw [hp];rfl
 have p2':pnt P n 2=k:=by unfold pnt;rw [hp];rfl
 simp only [n19_,n70_,n46_,List.sum_nil,v0,v1,v2,v3,v4,v5,p0,p1',p2'];have w0:∀ c,wAt P n c=[2*i,2*j,2*k,2*i+1,2*j+1,2*k+1].getD c 0:=fun c=>by unfold wAt;rw [ewl]
 have r6:List.range 6=[0,1,2,3,4,5]:=rfl;simp only [r6,n88_,List.flatMap_nil,n19_,n70_,n67_,n61_,List.append_nil,Zj0,w0,n42_,n43_,Prod.mk.injEq];generalize 2*i=a0 at *;generalize 2*j=a1 at *;generalize 2*k=a2 at *;generalize a0+1=a3 at *;generalize a1+1=a4 at *;generalize a2+1=a5 at *
 have e:∀ (a b:Int) (x:Rat),(if a=(w:Int)∧b=(o:Int) then x else 0)=(if b=(o:Int) then 1 else 0)*(if a=(w:Int) then x else 0):=fun a b x=>by
  by_cases h1:a=(w:Int)<;>by_cases h2:b=(o:Int)<;>simp [h1,h2,Rat.one_mul,Rat.zero_mul]
 have e':∀ (a:Int) (x:Rat),(if a=(w:Int) then x else 0)=(if a=(w:Int) then 1 else 0)*x:=fun a x=>by
  by_cases h1:a=(w:Int)<;>simp [h1,Rat.one_mul,Rat.zero_mul]
 simp only [e];have z:rsum (tbl [] ((w:Int),(o:Int)))=0:=rfl;rw [z];simp only [e' _ (pq _),e' _ (_+_)];generalize (if a0=(o:Int) then (1:Rat) else 0)=y0;generalize (if a1=(o:Int) then (1:Rat) else 0)=y1;generalize (if a2=(o:Int) then (1:Rat) else 0)=y2;generalize (if a3=(o:Int) then (1:Rat) else 0)=y3;generalize (if a4=(o:Int) then (1:Rat) else 0)=y4;generalize (if a5=(o:Int) then (1:Rat) else 0)=y5;generalize (if a0=(w:Int) then (1:Rat) else 0)=z0;generalize (if a1=(w:Int) then (1:Rat) else 0)=z1;generalize (if a2=(w:Int) then (1:Rat) else 0)=z2;generalize (if a3=(w:Int) then (1:Rat) else 0)=z3;generalize (if a4=(w:Int) then (1:Rat) else 0)=z4;generalize (if a5=(w:Int) then (1:Rat) else 0)=z5
 grind
def mskS (P:Pl) (ks:?p) (o:Nat):List (?z):=(List.range P.ps.length).map fun k=>if k∈ks then stsQ P.l P.m (strQ P k (uQ (2*P.cs.length) o)) else [0,0,0]
def allL (P:Pl) (ks:?p):List ((Int×Int)×Pnt):=ks.flatMap (ownL P)
structure LotOk (P:Pl) (ks:?p):Prop where
 rise:ks.Pairwise (·<·)
 lt:∀ k∈ks,k<P.ps.length
theorem Zhj (n:Nat):∀ {ks:?p},ks.Pairwise (·<·)→ks.filter (·<n+1)=ks.filter (·<n)++if n∈ks then [n] else []
 | [],_=>by simp
 | a :: t,h=>by
   obtain ⟨h1,h2⟩:=List.pairwise_cons.mp h;have ih:=Zhj n h2
   by_cases c:a<n
   · rw [List.filter_cons_of_pos (by simp;omega),List.filter_cons_of_pos (by simpa using c),ih,n67_]
     congr 2
     by_cases z:n∈t
     · rw [if_pos z,if_pos (n15_ _ z)]
     · rw [if_neg z,if_neg fun m=>(n12_.mp m).elim (fun e=>?d) z]
   · have nt:n∉t:=fun m=>by have:=h1 n m;omega
     have f1:t.filter (·<n)=[]:=List.filter_eq_nil_iff.mpr fun x hx=>by have:=h1 x hx;simp;omega
     rw [if_neg nt,f1] at ih
     by_cases z:a=n
     · subst z;rw [List.filter_cons_of_pos ?f,List.filter_cons_of_neg ?f,ih,f1,if_pos n20_];rfl
     · rw [List.filter_cons_of_neg (by simp;omega),List.filter_cons_of_neg (by simp;omega),ih,f1,if_neg fun m=>(n12_.mp m).elim (fun e=>z e.symm) nt]
theorem pt_z (P:Pl) (k w:Nat):pt' (ctr P k [0,0,0]) w=0:=by
 unfold pt' ctr xP yP;simp only [n19_,n70_,n46_,List.sum_nil,n42_,n43_,Rat.zero_mul,Rat.mul_zero,n51_,Rat.div_def,ite_self]
theorem pc3 {P:Pl} (ok:PlOk P) {n:Nat} (hn:n<P.ps.length):PieceOk P.cs ?y:=ok.pc _ (Zas (?d) (?d))
theorem Zru {P:Pl} {ks:?p} {o k:Nat} (h:k<P.ps.length):(mskS P ks o).getD k []=if k∈ks then stsQ P.l P.m (strQ P k (uQ (2*P.cs.length) o)) else [0,0,0]:=by
 unfold mskS;rw [n4_,n5_,n78_ h];rfl
theorem Zne {P:Pl} {ks:?p} (hw:∀ k<P.ps.length,dOf P.cs (pcOf P k)≠0∧(pcOf P k).length=3∧∀ x∈Yw (pcOf P k),0≤x∧x<((2*P.cs.length:Nat):Int)) (L:LotOk P ks) (w o:Nat):∀ n≤P.ps.length,rsum (tbl (allL P (ks.filter (·<n))) (w,o))=Fn P (mskS P ks o) n w
 | 0,_=>by
   rw [List.filter_eq_nil_iff.mpr fun x _=>by simp];rfl
 | n+1,hn=>by
   have ih:=Zne hw L w o n (?d);obtain ⟨h1,h2,h3⟩:=hw n (?d);rw [Zhj n L.rise];unfold allL at *;rw [List.flatMap_append,Zcu,Zdm,ih];show _=Fn P (mskS P ks o) n w+pt' (ctr P n ((mskS P ks o).getD n [])) w
   rw [Zru (?d)]
   congr 1
   by_cases z:n∈ks
   · rw [if_pos z,if_pos z,n88_,List.flatMap_nil,List.append_nil];exact Ztn h1 h2 h3
   · rw [if_neg z,if_neg z,pt_z];rfl
theorem Zcy {P:Pl} (ok:PlOk P) {k:Nat} (hk:k<P.ps.length):dOf P.cs (pcOf P k)≠0∧(pcOf P k).length=3∧∀ x∈Yw (pcOf P k),0≤x∧x<((2*P.cs.length:Nat):Int):=by
 have h:=pc3 ok hk;refine ⟨h.d,h.len,fun x hx=>?_⟩;unfold Yw at hx
 rcases n36_.mp hx with m|m<;>obtain ⟨i,hi,rfl⟩:=n21_.mp m<;>have:=h.bd i hi<;>omega
theorem Zo5 {P:Pl} (ok:PlOk P) {ks:?p} (L:LotOk P ks) (w o:Nat):rsum (tbl (allL P ks) (w,o))=Fn P (mskS P ks o) P.ps.length w:=by
 have h:=Zne (fun k hk=>Zcy ok hk) L w o P.ps.length (n7_ _);rw [List.filter_eq_self.mpr fun x hx=>by simpa using L.lt x hx] at h;exact h
theorem uQ_B {N o:Nat}:∀ q∈uQ N o,FM.B 60 q∧q.den∣60:=fun q hq=>by
 obtain ⟨i,_,rfl⟩:=n21_.mp hq
 by_cases h:i=o
 · rw [if_pos h];exact ⟨⟨?k,?k⟩,?k⟩
 · rw [if_neg h];exact ⟨⟨?k,?k⟩,?k⟩
theorem Zqz {P:Pl} {ks:?p} {o:Nat} (ok:PlOk P):SOk P (mskS P ks o):=by
 refine ⟨by unfold mskS;simp,fun s hs=>?_,fun s hs=>?_⟩
 · obtain ⟨n,_,rfl⟩:=n21_.mp hs
   by_cases h:n∈ks
   · rw [if_pos h];rfl
   · rw [if_neg h];rfl
 · obtain ⟨n,hn,rfl⟩:=n21_.mp hs
   have:=n32_.mp hn
   by_cases h:n∈ks
   · rw [if_pos h];exact Zws ok (?d) (?d) (fun q hq=>(uQ_B q hq).1) fun q hq=>(uQ_B q hq).2
   · rw [if_neg h];refine ⟨1,?k,fun q hq=>?_⟩
     have:q=0:=by simpa using hq
     subst this;exact ⟨⟨?k,?k⟩,?k⟩
abbrev nI (ks:?p):?g:=ks.map fun k:Nat=>(k:Int)
theorem Zaq:∀ {ks:?p} {n m:Nat},ks.Pairwise (·<·)→(∀ k∈ks,m≤k∧k<n)→ks.length≤n-m
 | [],_,_,_,_=>n47_ _
 | k :: t,n,m,h,b=>by
   obtain ⟨h1,h2⟩:=List.pairwise_cons.mp h;have ih:=Zaq (n:=n) (m:=k+1) h2 fun x hx=>⟨h1 x hx,(b x (n15_ _ hx)).2⟩
   have:=b k n20_
   rw [n29_];omega
theorem stE (b0 b1 b2 c0 c1 c2:Int):∀ a:Nat,a<6→strI [b0,b1,b2] [c0,c1,c2] (e6 a)=[[b0,b1,b2,0,0,0].getD a 0,[0,0,0,c0,c1,c2].getD a 0,[c0,c1,c2,b0,b1,b2].getD a 0]
 | 0,_|1,_|2,_|3,_|4,_|5,_=>by simp only [strI,dotI,e6,List.range,List.range.loop];simp
theorem psE (b0 b1 b2 c0 c1 c2 p q r:Int):∀ a:Nat,a<6→(Zeq [b0,b1,b2] [c0,c1,c2] [p,q,r]).getD a 0=p*[b0,b1,b2,0,0,0].getD a 0+q*[0,0,0,c0,c1,c2].getD a 0+r*[c0,c1,c2,b0,b1,b2].getD a 0
 | 0,_|1,_|2,_=>by show p*_+r*_=p*_+q*0+r*_;rw [Int.mul_zero,Int.add_zero];rfl
 | 3,_|4,_|5,_=>by show r*_+q*_=p*0+q*_+r*_;rw [Int.mul_zero,Int.zero_add,Int.add_comm];rfl
theorem Zs9 {bs cs:?g} (lb:bs.length=3) (lc:cs.length=3) (hb:∀ x∈bs,x.natAbs≤200) (hc:∀ x∈cs,x.natAbs≤200) {a:Nat} (ha:a<6):∀ x∈strI bs cs (e6 a),x.natAbs≤200:=by
 match bs,lb,cs,lc,hb,hc with
 | [b0,b1,b2],_,[c0,c1,c2],_,hb,hc =>
  have k:∀ l:?g,(∀ x∈l,x.natAbs≤200)→(l.getD a 0).natAbs≤200:=fun l h=>by
   rw [List.getD_eq_getElem?_getD];cases e:l[a]? with
   | none=>exact Nat.zero_le _
   | some v=>exact h v (List.mem_of_getElem? e)
  rw [stE _ _ _ _ _ _ a ha];intro x hx;simp only [List.forall_mem_cons] at hb hc;simp only [List.mem_cons,List.not_mem_nil,or_false] at hx
  rcases hx with rfl|rfl|rfl<;>apply k<;>simp [hb,hc]
theorem mul9 {l t:Int} {k:Nat} (hl:0≤l∧l≤9) (ht:t.natAbs≤k):(l*t).natAbs≤9*k:=by
 rw [n53_];exact n54_ (?d) ht
theorem Zuh {l m:Int} (hl:0≤l∧l≤9) (hm:1≤m∧m≤9) {s:?g} (h3:s.length=3) (h:∀ x∈s,x.natAbs≤200):∀ x∈stsI l m s,x.natAbs≤10000:=by
 match s,h3 with
 | [e,f,g],_ =>
   have p0:=h e ?f;have p1:=h f ?f;have p2:=h g ?f;have m':0≤m∧m≤9:=?d
   have k1:=mul9 (t:=e+f) (k:=400) hl (?d);have k2:=mul9 (t:=e) (k:=200) m' p0;have k3:=mul9 (t:=f) (k:=200) m' p1;have k4:=mul9 (t:=g) (k:=200) m' p2;have a1:2*m*e=2*(m*e):=Int.mul_assoc ..;have a2:2*m*f=2*(m*f):=Int.mul_assoc ..;intro x hx;simp only [stsI,n42_,n43_,n12_,n16_,or_false,a1,a2] at hx
   rcases hx with rfl|rfl|rfl<;>omega
inductive BxSp_unit (vs:List V) (H:Hp) (Q:VK):Prop
 | mk (N o:Nat) (q1:vs=[.int N,.int o]) (q2:N≤1000) (q3:∀ (H':Hp) (r:V),?H→IsQs H' r (uQ N o)→Q r H'):BxSp_unit vs H Q
def Zno:Sp:=fun vs H Q _=>BxSp_unit vs H Q
inductive BxSp_lot (vs:List V) (H:Hp) (Q:VK):Prop
 | mk (l:Addr) (v:V) (P:Pl) (q1:vs=[.ref l,v]) (q2:StAt H l) (q3:IsPl H v P) (q4:PlOk P) (q5:∀ (H':Hp) (a:Addr) (ks:?p),Keep l H H'→StAt H' l→H' a=some (.tup (?Z))→LotOk P ks→Q (.ref a) H'):BxSp_lot vs H Q
def Zrb:Sp:=fun vs H Q _=>BxSp_lot vs H Q
noncomputable abbrev ek (e:Int×Int):List Key:=[.inl e.1,.inl e.2]
theorem Zq7 {a b:Int×Int} (h:ek a=ek b):a=b:=by
 obtain ⟨a,a'⟩:=a;obtain ⟨b,b'⟩:=b;injection h with h1 h2
 injection h2 with h2 _
 injection h1 with h1
 injection h2 with h2
 rw [show a=b from h1,show a'=b' from h2]
theorem Zs2 {P:Pl} {n:Nat} (h:PieceOk P.cs ?y):(Yw ?y).Nodup:=by
 match hp:pcOf P n,h.len,h.rise with
 | [i,j,k],_,hr =>
   simp only [n42_,n43_] at hr;show [2*i,2*j,2*k,2*i+1,2*j+1,2*k+1].Nodup
   simp only [List.nodup_cons,n12_,n16_,or_false,List.nodup_nil,and_true,not_or,not_false_eq_true];omega
theorem Zoy (g:Nat→Int) (f:Nat→Nat→Pnt) (x y:Int) (ws:?p):∀ as:?p,(tbl (as.flatMap fun a=>ws.map fun i=>((g i,g a),f a i)) (x,y)).length=(as.map g).count y*(ws.map g).count x
 | []=>by simp [tbl]
 | a :: as=>by
   have ih:=Zoy g f x y ws as;rw [n88_,Zcu,n33_,ih,n19_,List.count_cons]
   have:(tbl (ws.map fun i=>((g i,g a),f a i)) (x,y)).length=if g a=y then (ws.map g).count x else 0:=by
    unfold tbl;rw [n3_,List.filter_map,n3_]
    by_cases c:g a=y
    · rw [if_pos c,List.count_eq_length_filter,List.filter_map,n3_]
      congr 1
      refine List.filter_congr fun i _=>?_
      by_cases d:g i=x<;>simp [c,d,Function.comp]
    · rw [if_neg c,List.filter_eq_nil_iff.mpr fun i _=>by simp [c,Function.comp]];rfl
   rw [this]
   by_cases c:g a=y
   · simp [c,Nat.add_mul];omega
   · simp [c]
theorem Zr8 {P:Pl} {n:Nat} (h:PieceOk P.cs ?y) (k:Int×Int):(tbl (ownL P n) k).length≤1:=by
 have e:(List.range 6).map (wAt P n)=Yw ?y:=by
  match hp:pcOf P n,h.len with
  | [i,j,l],_=>unfold wAt;rw [hp];rfl
 have nd:=List.nodup_iff_count.mp (Zs2 h)
 have:=Zoy (wAt P n) (opP P n) k.1 k.2 (List.range 6) (List.range 6)
 rw [e] at this;unfold ownL;rw [this];exact n54_ (nd k.2) (nd k.1)
theorem Zo4 {P:Pl} (ok:PlOk P) (k:Int×Int):∀ ks:?p,(∀ n∈ks,n<P.ps.length)→(tbl (allL P ks) k).length≤ks.length
 | [],_=>n7_ _
 | n :: ks,h=>by
   have ih:=Zo4 ok k ks fun m hm=>h m (n15_ _ hm);unfold allL at *;rw [n88_,Zcu,n33_,n29_]
   have:=Zr8 (pc3 ok (h n n20_)) k
   omega
abbrev SmT (p:Pnt):Prop:=0<p.2∧p.2.natAbs≤160000∧p.1.natAbs<2^310
theorem Zrl:∀ ps:List Pnt,(∀ p∈ps,SmT p)→∃ t b:Int,rsum ps=Rat.divInt t b∧0<b∧b.natAbs≤160000^ps.length∧t.natAbs≤ps.length*(2^310*160000^ps.length)
 | [],_=>⟨0,1,by first|rfl|exact (Rat.zero_divInt _).symm|decide,?k,?k,?k⟩
 | p :: ps,h=>by
   obtain ⟨t,b,e,b0,b1,t1⟩:=Zrl ps fun q hq=>h q (n15_ _ hq);obtain ⟨p0,p1,p2⟩:=h p n20_;refine ⟨p.1*b+t*p.2,p.2*b,?_,Int.mul_pos p0 b0,?_,?_⟩
   · rw [Zbb,e,pq,n68_,n68_,n74_,n30_,n30_,n30_];have h1:=Xf (show p.2≠0 by omega);have h2:=Xf (show b≠0 by omega);generalize (p.2:Rat)=x at *;generalize (b:Rat)=y at *
     grind
   · rw [n53_,n29_,show 160000^(ps.length+1)=160000^ps.length*160000 from Nat.pow_succ ..,Nat.mul_comm];exact n54_ b1 p1
   · rw [n29_,show 160000^(ps.length+1)=160000^ps.length*160000 from Nat.pow_succ ..];have g1:(p.1*b).natAbs≤2^310*160000^ps.length:=by rw [n53_];exact n54_ (Nat.le_of_lt p2) b1
     have g2:(t*p.2).natAbs≤ps.length*(2^310*160000^ps.length)*160000:=by rw [n53_];exact n54_ t1 p1
     have g3:=Int.natAbs_add_le (p.1*b) (t*p.2);generalize 2^310=A at *;rw [show (ps.length+1)*(A*(160000^ps.length*160000))=(A*160000^ps.length)*160000+ps.length*(A*160000^ps.length)*160000 by rw [← Nat.mul_assoc A,Nat.add_mul,Nat.one_mul,Nat.add_comm,← Nat.mul_assoc ps.length]];generalize ps.length*(A*160000^ps.length)=C at *;generalize A*160000^ps.length=B at *;omega
theorem Zsk {ps:List Pnt} (h:∀ p∈ps,SmT p) (h4:ps.length≤4):FM.B 1000 (rsum ps)∧(rsum ps).den<2^71:=by
 obtain ⟨t,b,e,b0,b1,t1⟩:=Zrl ps h;have c1:160000^ps.length≤160000^4:=n25_ ?e h4;have b2:b.natAbs<2^71:=n14_ (n31_ b1 c1) ?e;have t2:t.natAbs<2^1000:=n14_ (n31_ t1 (n54_ h4 (Nat.mul_le_mul_left _ c1))) (?i);rw [e];refine ⟨FM.B_divInt (?d) t2 (n9_ b2 (n25_ ?e ?e)),?_⟩
 have:=Int.le_of_dvd b0 (Zi9 t (show b≠0 by omega))
 omega
theorem Zux {P:Pl} (ok:PlOk P) {n:Nat} (hn:n<P.ps.length):∀ e∈ownL P n,SmT e.2:=fun e he=>by
 obtain ⟨a,ha,he⟩:=List.mem_flatMap.mp he;obtain ⟨i,hi,rfl⟩:=n21_.mp he;have ha:=n32_.mp ha;have hi:=n32_.mp hi;have pk:=pc3 ok hn;obtain ⟨bz,cz,dz⟩:=Zmx ok.nr pk.len pk.bd;have d0:=pk.d;have sz:=Zs9 (a:=a) (bs:=Yo P.cs ?y) (cs:=Yp P.cs ?y) rfl rfl bz cz ha;have tz:=Zuh ok.l9 ok.m9 (s:=strI (Yo P.cs ?y) (Yp P.cs ?y) (e6 a)) rfl sz
 have pz:=Zsv bz cz rfl (fun x hx=>n14_ (tz x hx) (show 10000<2^200 by decide)) ((opI P n a).getD i 0) (by
  have lo:(opI P n a).length=6:=rfl;rw [n4_,n0_ (show i<(opI P n a).length by omega)];exact n24_ _)
 have tz9:(P.ts.getD n 0).natAbs≤9:=by
  have h:P.ts.getD n 0∈P.ts:=by
   have:n<P.ts.length:=by rw [ok.t1];exact hn
   rw [n4_,n0_ this];exact n24_ _
  have:=ok.t9 _ h
  omega
 refine ⟨?_,?_,?_⟩
 · show 0<2*((dOf P.cs ?y).natAbs:Int);omega
 · show (2*((dOf P.cs ?y).natAbs:Int)).natAbs≤160000;omega
 · exact n9_ (FM.natAbs_mul_lt (n:=4) (n14_ tz9 ?e) pz) (n25_ ?e ?e)
def fLot (P:Pl) (ks:?p) (k:Int×Int):Rat:=rsum (tbl (allL P ks) k)
theorem Zvm {P:Pl} (ok:PlOk P) {ks:?p} (h:∀ n∈ks,n<P.ps.length) (k:Int×Int):∀ p∈tbl (allL P ks) k,SmT p:=fun p hp=>by
 obtain ⟨e,he,rfl⟩:=n21_.mp hp;obtain ⟨n,hn,he⟩:=List.mem_flatMap.mp (List.mem_filter.mp he).1;exact Zux ok (h n hn) e he
def TabQ (H:Hp) (T:Addr) (f:?O):Prop:=∃ kvs,H T=some (.dT kvs)∧∀ k,(∀ v,valV kvs (ek k)=some v→IsQ H v (f k)∧FM.B 1000 (f k)∧(f k).den<2^71)∧(valV kvs (ek k)=none→f k=0)
theorem TabQ.more {H H':Hp} {T:Addr} {f:?O} (h:TabQ H T f) (s:?H):TabQ H' T f:=let ⟨kvs,e,g⟩:=h;⟨kvs,s _ _ e,fun k=>⟨fun v hv=>let ⟨a,b⟩:=(g k).1 v hv;⟨a.tk s.tk,b⟩,(g k).2⟩⟩
theorem Zph (q:Rat):rsum [prQ q]=q:=by
 rw [Zbb,show rsum []=0 from rfl,n51_];show ((q.num:Int):Rat)/((q.den:Int):Rat)=q
 rw [← n68_,n90_]
def IsFr (H:Hp) (v:V) (ns:?g) (f:?O):Prop:=∃ a w r z,v=.ref a∧H a=some (.tup [w,r,z])∧IsI H w ns∧Zje H r (ns.map fun w=>ns.map fun o=>f (w,o))∧IsQs H z (ns.map fun _=>0)
structure WaysL (P:Pl) (ks:?p) (ns:?g):Prop where
 rise:ns.Pairwise (·<·)
 mem:∀ x,x∈ns↔∃ k∈ks,x∈Yw (pcOf P k)
 le:ns.length≤24
inductive BxSp_frameOf (vs:List V) (H:Hp) (Q:VK):Prop
 | mk (v:V) (P:Pl) (a:Addr) (ks:?p) (q1:vs=[v,.ref a]) (q2:IsPl H v P) (q3:PlOk P) (q4:P.ps.length≤4) (q5:H a=some (.tup (?Z))) (q6:LotOk P ks) (q7:∀ (H':Hp) (r:V) (ns:?g),?H→WaysL P ks ns→IsFr H' r ns (fLot P ks)→Q r H'):BxSp_frameOf vs H Q
def Ze9:Sp:=fun vs H Q _=>BxSp_frameOf vs H Q
theorem Zdk {p:?g} {x:Int}:x∈Yw p↔∃ c∈p,x=2*c∨x=2*c+1:=by
 unfold Yw;rw [n36_,n21_,n21_];constructor
 · rintro (⟨c,hc,rfl⟩|⟨c,hc,rfl⟩)
   · exact ⟨c,hc,.inl rfl⟩
   · exact ⟨c,hc,.inr rfl⟩
 · rintro ⟨c,hc,rfl|rfl⟩
   · exact .inl ⟨c,hc,rfl⟩
   · exact .inr ⟨c,hc,rfl⟩
def mixS (P:Pl) (ks:?p) (ms:?z) (i:Nat):List (?z):=(List.range P.ps.length).map fun k=>if k∈ks∨i≤k then stsQ P.l P.m (strQ P k ms) else [0,0,0]
theorem Zu1 (P:Pl) (ks:?p) (ms:?z):mixS P ks ms 0=Zgh P ms:=by
 unfold mixS Zgh;exact n57_ fun k _=>if_pos (.inr (n47_ _))
theorem Zu0 (P:Pl) (ks:?p) (o:Nat):mixS P ks (uQ (2*P.cs.length) o) P.ps.length=mskS P ks o:=by
 unfold mixS mskS;refine n57_ fun k hk=>?_
 have:=n32_.mp hk
 by_cases h:k∈ks
 · rw [if_pos h,if_pos (.inl h)]
 · rw [if_neg h,if_neg fun z=>z.elim h fun z=>?d]
theorem Ztd {P:Pl} {ks:?p} {ms:?z} {i:Nat} (h:i∈ks):mixS P ks ms (i+1)=mixS P ks ms i:=by
 unfold mixS;refine n57_ fun k hk=>?_
 by_cases z:k=i
 · rw [if_pos (.inl (z ▸ h)),if_pos (.inl (z ▸ h))]
 · by_cases y:k∈ks∨i≤k
   · rw [if_pos y,if_pos (y.imp_right fun _=>?d)]
   · rw [if_neg y,if_neg fun w=>y (w.imp_right fun _=>?d)]
theorem Zqm {P:Pl} {ks:?p} {ms:?z} {i:Nat} (h:i∉ks):mixS P ks ms (i+1)=(mixS P ks ms i).set i [0,0,0]:=by
 unfold mixS;apply List.ext_getElem?
 intro j;rw [List.getElem?_set,n3_,n69_,n5_,n5_]
 by_cases hj:j<P.ps.length
 · rw [n78_ hj]
   by_cases z:i=j
   · subst z;rw [if_pos rfl,if_pos hj];exact congrArg some (if_neg fun w=>w.elim h fun w=>?d)
   · rw [if_neg z];refine congrArg some ?_;show (if j∈ks∨i+1≤j then stsQ P.l P.m (strQ P j ms) else [0,0,0])=if j∈ks∨i≤j then stsQ P.l P.m (strQ P j ms) else [0,0,0]
     by_cases y:j∈ks∨i≤j
     · rw [if_pos y,if_pos (y.imp_right fun _=>?d)]
     · rw [if_neg y,if_neg fun w=>y (w.imp_right fun _=>?d)]
 · rw [n58_ (by rw [n69_];omega)];split
   · split
     · omega
     · rfl
   · rfl
theorem Zmc {X:Cx} (hc:X.calm=true):Xl X (.type "set") (fun xs H Q=>∃ (p:Addr) (ns:?g),xs=[.ref p]∧SqL X.K H p ?U∧ns.length≤30∧∀ S H',?H→H' S=some (setI (Z3 X.w) S (metI ns))→Q (.ref S) H'):=fun pins s σ H xs us Q I r h=>Zm6 hc pins s σ H xs us Q I r (let ⟨p,ns,e,a,b,q⟩:=h;⟨p,ns,e,a,b,fun S nS=>q S _ (Same.new nS) Zc⟩)
theorem Zl0 {K:PySem.W.Frag} {p:Addr} {x:Int} {ns:?g} {H:Hp} {Q:VK} (h:SqT K H p ?U) (q:Q (.bl (!decide (x∈ns))) H):rIn K true (.int x) (.ref p) H Q:=⟨p,_,rfl,.inr h,rfl,by rw [List.all_map];exact n52_.mpr ?l,by rw [Zk3];exact q⟩
abbrev Sm (q:Rat):Prop:=FM.B 1000 q∧q.den<2^71
def IsFm (H:Hp) (v:V) (ks:?p) (f:?O) (g:Int→Rat):Prop:=∃ a w r z,v=.ref a∧H a=some (.tup [w,r,z])∧IsI H w (nI ks)∧Zje H r ((nI ks).map fun w=>(nI ks).map fun o=>f (w,o))∧IsQs H z ((nI ks).map g)
theorem IsFm.tk {H H':Hp} {v:V} {ks:?p} {f:?O} {g:Int→Rat} (t:Tk H H') (h:IsFm H v ks f g):IsFm H' v ks f g :=
 let ⟨a,w,r,z,e,ha,h1,h2,h3⟩:=h;⟨a,w,r,z,e,t _ _ ha,h1.tk t,Zdr t h2,Z5 t h3⟩
structure FmOk (ks:?p) (f:?O) (g:Int→Rat):Prop where
 rise:ks.Pairwise (·<·)
 lt:∀ k∈ks,k<60
 le:ks.length≤12
 zf:∀ x y,x∉nI ks∨y∉nI ks→f (x,y)=0
 zg:∀ x,x∉nI ks→g x=0
 sy:∀ x y,f (x,y)=f (y,x)
 bf:∀ k,Sm (f k)
 bg:∀ x,Sm (g x)
theorem Zm9 {H H':Hp} {a:Addr} {u:HO} (h:Rd H a u) (s:?H):Rd H' a u:=h.imp (fun e=>s _ _ e) fun ⟨o,e⟩=>⟨o,s _ _ e⟩
theorem Zue {H H':Hp} {a:Addr} {y:V} {r:Option V} (h:DGet H a y r) (s:?H):DGet H' a y r:=by
 rcases h with ⟨kvs,k,e,ey,er⟩|⟨kvs,k,b,e,ey,eb,er⟩
 · exact .inl ⟨kvs,k,Zm9 e s,ey,er⟩
 · exact .inr ⟨kvs,k,b,Zm9 e s,ey,s _ _ eb,er⟩
def DB (H:Hp) (y:V) (d:Addr×Rat×Bool):Prop:=∃ r,DGet H d.1 y r∧r.isSome=d.2.2∧(∀ v,r=some v→IsQ H v d.2.1∧Sm d.2.1)∧(d.2.2=false→d.2.1=0)
theorem DB.more {H H':Hp} {y:V} {d:Addr×Rat×Bool} (h:DB H y d) (s:?H):DB H' y d:=let ⟨r,a,b,c,e⟩:=h;⟨r,Zue a s,b,fun v hv=>⟨(c v hv).1.tk s.tk,(c v hv).2⟩,e⟩
def RowQ (H:Hp) (R:Addr) (g:Int→Rat):Prop:=∃ kvs:?N,Rd H R ?E∧∀ x:Int,(∀ v,valV kvs (.inl x)=some v→IsQ H v (g x)∧Sm (g x))∧(valV kvs (.inl x)=none→g x=0)
theorem RowQ.more {H H':Hp} {R:Addr} {g:Int→Rat} (h:RowQ H R g) (s:?H):RowQ H' R g:=let ⟨kvs,e,k⟩:=h;⟨kvs,Zm9 e s,fun x=>⟨fun v hv=>⟨((k x).1 v hv).1.tk s.tk,((k x).1 v hv).2⟩,(k x).2⟩⟩
theorem TabQ.db {H:Hp} {T b:Addr} {f:?O} (h:TabQ H T f) (k:Int×Int) (hb:H b=some (.tup ((ek k).map kV))):∃ c,DB H (.ref b) (T,f k,c):=by
 obtain ⟨kvs,e,g⟩:=h;refine ⟨_,valV kvs (ek k),.inr ⟨kvs,ek k,b,.inl e,rfl,hb,rfl⟩,rfl,fun v hv=>(g k).1 v hv,fun z=>(g k).2 ?_⟩;cases q:valV kvs (ek k) with
 | none=>rfl
 | some v=>rw [q] at z;cases z
theorem RowQ.db {H:Hp} {R:Addr} {g:Int→Rat} (h:RowQ H R g) (x:Int):∃ c,DB H (.int x) (R,g x,c):=by
 obtain ⟨kvs,e,k⟩:=h;refine ⟨_,valV kvs (.inl x),.inl ⟨kvs,.inl x,e,rfl,rfl⟩,rfl,fun v hv=>(k x).1 v hv,fun z=>(k x).2 ?_⟩;cases q:valV kvs (.inl x) with
 | none=>rfl
 | some v=>rw [q] at z;cases z
theorem dbs {α:Type} {H:Hp} {y:V} {fr:α→Rat} {ad:α→Addr}:∀ {l:List α},(∀ p∈l,∃ c,DB H y (ad p,fr p,c))→∃ ds:List (Addr×Rat×Bool),(ds.map fun d=>V.ref d.1)=l.map (fun p=>V.ref (ad p))∧ds.map (·.2.1)=l.map fr∧∀ d∈ds,DB H y d
 | [],_=>⟨[],rfl,rfl,by simp⟩
 | p :: l,h=>by
   obtain ⟨c,hc⟩:=h p n20_;obtain ⟨ds,e1,e2,e3⟩:=dbs (l:=l) fun q hq=>h q (n15_ _ hq);refine ⟨(ad p,fr p,c) :: ds,by rw [n19_,n19_,e1],by rw [n19_,n19_,e2],fun d hd=>?_⟩
   rcases n12_.mp hd with rfl|hd
   · exact hc
   · exact e3 d hd
theorem Zj1:∀ l:?z,rsum (l.map prQ)=l.sum
 | []=>rfl
 | q :: l=>by
   have h:=Zph q;rw [Zbb,show rsum []=0 from rfl,n51_] at h;rw [n19_,Zbb,n46_,h,Zj1 l]
noncomputable def inB (d:Addr×Rat×Bool):Option Rat:=if d.2.2=true then some d.2.1 else none
theorem Zen:∀ {ds:List (Addr×Rat×Bool)},(∀ d∈ds,d.2.2=false→d.2.1=0)→(ds.filterMap inB).sum=(ds.map (·.2.1)).sum
 | [],_=>rfl
 | d :: ds,h=>by
   have ih:=Zen fun e he=>h e (n15_ _ he);rw [n19_,n46_,← ih];cases c:d.2.2 with
   | false=>rw [List.filterMap_cons_none (by unfold inB;rw [c];rfl),h d n20_ c,Rat.zero_add]
   | true=>rw [List.filterMap_cons_some (b:=d.2.1) (by unfold inB;rw [c];rfl),n46_]
theorem Zpt {α β:Type} (f:α→Option β) (l:List α):(List.range l.length).filterMap (fun i=>l[i]?.bind f)=l.filterMap f:=by
 have:l.filterMap f=((List.range l.length).filterMap fun i=>l[i]?).filterMap f:=by
  congr 1
  refine List.ext_getElem? fun i=>?_
  have fm:∀ (m:?p),(∀ k∈m,k<l.length)→∀ i:Nat,(m.filterMap fun i=>l[i]?)[i]? = m[i]?.bind fun i=>l[i]?:=by
   intro m
   induction m with
   | nil=>intro _ i;rfl
   | cons a m ih =>
     intro hm i;rw [List.filterMap_cons_some (b:=l[a]'(hm a n20_)) (n0_ _)];cases i with
     | zero=>simp [n0_ (hm a n20_)]
     | succ i=>simpa using ih (fun k hk=>hm k (n15_ _ hk)) i
  rw [fm _ fun k hk=>n32_.mp hk]
  by_cases hi:i<l.length
  · rw [n78_ hi];rfl
  · rw [n58_ (?d),n58_ (by rw [n69_];omega)];rfl
 rw [this,List.filterMap_filterMap]
inductive BxSp_tog (vs:List V) (H:Hp) (Q:VK):Prop
 | mk (dl:Addr) (y:V) (ds:List (Addr×Rat×Bool)) (q1:vs=[.ref dl,y]) (q2:H dl=some (.lst (ds.map fun d=>.ref d.1))) (q3:ds.length≤2) (q4:(∀ d∈ds,DB H y d)) (q5:∀ (H':Hp) (r:V),?H→IsQ H' r (ds.map (·.2.1)).sum→Q r H'):BxSp_tog vs H Q
def Zrg:Sp:=fun vs H Q _=>BxSp_tog vs H Q
inductive BxSp_frameByK (At:Hp→Addr→List V→Prop) (vs:List V) (H:Hp) (Q:VK):Prop
 | mk (wl tl rl:Addr) (ks:?p) (Ts:List (Addr×(?O))) (Rs:List (Addr×(Int→Rat))) (q1:vs=[.ref wl,.ref tl,.ref rl]) (q2:At H wl (?Z)) (q3:H tl=some (.lst (Ts.map fun p=>.ref p.1))) (q4:H rl=some (.lst (Rs.map fun p=>.ref p.1))) (q5:(∀ p∈Ts,TabQ H p.1 p.2)) (q6:(∀ p∈Rs,RowQ H p.1 p.2)) (q7:Ts.length≤2) (q8:Rs.length≤2) (q9:ks.length≤30) (q10:∀ (H':Hp) (v:V),?H→IsFm H' v ks (fun k=>(Ts.map fun p=>p.2 k).sum) (fun x=>(Rs.map fun p=>p.2 x).sum)→Q v H'):BxSp_frameByK At vs H Q
def Zea (At:Hp→Addr→List V→Prop):Sp:=fun vs H Q _=>BxSp_frameByK At vs H Q
def Zdw:Sp:=Zea fun H a vs=>H a=some (.lst vs)
def Zdx:Sp:=Zea fun H a vs=>H a=some (.tup vs)
inductive BxSp_isOne2 (vs:List V) (H:Hp) (Q:VK):Prop
 | mk (l:Addr) (ns:?g) (x:Int) (q1:vs=[.ref l,.int x]) (q2:(H l=some (.lst ?U)∨H l=some (.tup ?U))) (q3:x∈ns) (q4:Q (.bl true) H):BxSp_isOne2 vs H Q
def Zic:Sp:=fun vs H Q _=>BxSp_isOne2 vs H Q
inductive BxSp_areSome6 (vs:List V) (H:Hp) (Q:VK):Prop
 | mk (l a:Addr) (n:Nat) (ks:?p) (q1:vs=[.ref l,.ref a]) (q2:H l=some (.lst ((nI (List.range n)).map V.int))) (q3:H a=some (.tup (?Z))) (q4:ks.Pairwise (·<·)) (q5:(∀ k∈ks,k<n)) (q6:n≤60) (q7:∀ H',?H→Q (.bl true) H'):BxSp_areSome6 vs H Q
def Zd6:Sp:=fun vs H Q _=>BxSp_areSome6 vs H Q
theorem Zv2 {X:Cx}:EqT X 1 IsQ:=by
 intro A pins σ H s v u a b x y hu I h1 h2 r1 r2;obtain ⟨p,rfl,e1⟩:=h1;obtain ⟨q,rfl,e2⟩:=h2;have h:=Zr7 (X:=X) Zr6 (fun H v x y (h1:v=.int x) (h2:v=.int y)=>by rw [h1] at h2;cases h2;rfl) A pins σ H s (.ref p) (.ref q) a b [x.num,(x.den:Int)] [y.num,(y.den:Int)] hu I ⟨p,_,rfl,e1,Al.of_ints [x.num,(x.den:Int)]⟩ ⟨q,_,rfl,e2,Al.of_ints [y.num,(y.den:Int)]⟩ r1 r2;rw [Zwi] at h;exact h
theorem Zvd {A:Around} {k:Nat} (hr:Room k A):A.units+1+1<cLine:=n14_ (Nat.add_le_add_left (?k:2≤64) _) hr.units
theorem Zsu (K:PySem.W.Frag) {X:Cx} {es:List Expr} {x1:Nat} {tp:Pos} (hK:X.K=K) (k l:SK) {a b:Expr} {ta:TA} {p pos:Pos} (hg:Gl X "zip") (hm:X.mg "zip" = none) (ha:PA X [a,b] ta) (hs:starEach [a,b] X.env=[(false,eval a X.env),(false,eval b X.env)]:=by rfl) (hs2:starEach [b] X.env=[(false,eval b X.env)]:=by rfl) :
 PI X (.Tuple es x1 tp) (.Call (.Name "zip" p) [a,b] [] pos) (iZip k l K ta):=hK ▸ Zif k l hg hm ha hs hs2
theorem Zog {A:Around} {k:Nat} (hr:Room k A):A.units+4<cLine:=by have:=hr.un;omega
inductive BxSp_isTable (vs:List V) (H:Hp) (Q:VK):Prop
 | mk (v:V) (ks:?p) (f:?O) (q1:vs=[v,.int ks.length]) (q2:Zje H v ((nI ks).map fun w=>(nI ks).map fun o=>f (w,o))) (q3:(∀ x y,f (x,y)=f (y,x))) (q4:(∀ k,Sm (f k))) (q5:ks.length≤60) (q6:∀ H',?H→Q (.bl true) H'):BxSp_isTable vs H Q
def Zfl:Sp:=fun vs H Q _=>BxSp_isTable vs H Q
inductive BxSp_isFrame (vs:List V) (H:Hp) (Q:VK):Prop
 | mk (v:V) (ks:?p) (f:?O) (g:Int→Rat) (q1:vs=[v]) (q2:IsFm H v ks f g) (q3:FmOk ks f g) (q4:∀ H',?H→Q (.bl true) H'):BxSp_isFrame vs H Q
def Zfn:Sp:=fun vs H Q _=>BxSp_isFrame vs H Q
inductive BxSp_lookFr (vs:List V) (H:Hp) (Q:VK):Prop
 | mk (v:V) (ks:?p) (f:?O) (g:Int→Rat) (q1:vs=[v]) (q2:IsFm H v ks f g) (q3:FmOk ks f g) (q4:∀ H',?H→Q .non H'):BxSp_lookFr vs H Q
def Zia:Sp:=fun vs H Q _=>BxSp_lookFr vs H Q
inductive BxSp_areLoads (vs:List V) (H:Hp) (Q:VK):Prop
 | mk (v:V) (L:Addr) (ks:?p) (f:?O) (g:Int→Rat) (kvs:?N) (q1:vs=[v,.ref L]) (q2:IsFm H v ks f g) (q3:H L=some ?E) (q4:(∀ p∈kvs,∃ x q,p.1=.inl x∧x∈nI ks∧IsQ H p.2 q∧FM.B 4000 q)) (q5:kvs.length≤60) (q6:∀ (H':Hp) (o:Obj),Keep L H H'→H' L=some (.frz o ?E)→Q (.bl true) H'):BxSp_areLoads vs H Q
def Zd0:Sp:=fun vs H Q _=>BxSp_areLoads vs H Q
inductive BxSp_tableOf (vs:List V) (H:Hp) (Q:VK):Prop
 | mk (v:V) (ks:?p) (f:?O) (g:Int→Rat) (q1:vs=[v]) (q2:IsFm H v ks f g) (q3:FmOk ks f g) (q4:∀ (H':Hp) (T:Addr),?H→TabQ H' T f→Q (.ref T) H'):BxSp_tableOf vs H Q
def Ze7:Sp:=fun vs H Q _=>BxSp_tableOf vs H Q
inductive BxSp_rightsOf (vs:List V) (H:Hp) (Q:VK):Prop
 | mk (v:V) (ks:?p) (f:?O) (g:Int→Rat) (q1:vs=[v]) (q2:IsFm H v ks f g) (q3:FmOk ks f g) (q4:∀ (H':Hp) (R:Addr),?H→RowQ H' R g→Q (.ref R) H'):BxSp_rightsOf vs H Q
def Zeg:Sp:=fun vs H Q _=>BxSp_rightsOf vs H Q
theorem Zbe (k:Key):∀ (l kvs:?N),(∀ v,valV (Yi kvs l) k=some v→(k,v)∈l∨valV kvs k=some v)∧(valV (Yi kvs l) k=none→k∉l.map (·.1)∧valV kvs k=none)
 | [],kvs=>⟨fun v h=>.inr h,fun h=>⟨by simp,h⟩⟩
 | p :: l,kvs=>by
   have ih:=Zbe k l (putK kvs p.1 p.2);have e:Yi kvs (p :: l)=Yi (putK kvs p.1 p.2) l:=rfl;rw [e];refine ⟨fun v h=>?_,fun h=>?_⟩
   · rcases ih.1 v h with m|m
     · exact .inl (n15_ _ m)
     · rw [Zb2] at m
       by_cases c:k=p.1
       · rw [if_pos c] at m;cases m
         exact .inl (by rw [c];exact n20_)
       · rw [if_neg c] at m;exact .inr m
   · obtain ⟨n1,n2⟩:=ih.2 h;rw [Zb2] at n2
     by_cases c:k=p.1
     · rw [if_pos c] at n2;cases n2
     · rw [if_neg c] at n2;exact ⟨fun z=>(n12_.mp z).elim c n1,n2⟩
theorem Zsz:∀ ns:?g,Al (fun v (key:Key)=>v=kV key) ?U (ns.map Sum.inl):=fun ns=>⟨by simp,fun i v x e1 e2=>by
 rw [n5_] at e1 e2;obtain ⟨n,en,rfl⟩:=n10_.mp e1;rw [en] at e2;cases e2
 rfl⟩
theorem Zu5 {J:It} {n:Nat} {D:Addr} {g0:TG} {wi1:TI} {g1:TG} {tk tv:TE} {σ0:L2.St} {H:Hp} {Q:VK} (Pv:Nat→L2.St→?w) (h0:Pv 0 σ0 (upd H D (.dT [])))
 (hg:∀ i σ H,i<n→Pv i σ H→J.go i H) (hs:∀ σ H,Pv n σ H→J.stop n H)
 (hb:∀ i x σ H2 H3,i<n→J.yld i H2 x H3→Pv i σ H2→g0 x σ H3 fun σ4 H4=>wi1 σ4 H4 fun J1 H5=>D2In J1 g1 tk tv D σ4 H5 fun σ6 H6=>∃ m',m'<n-i∧LcN n Pv (i+1) m' σ6 H6)
 (hd:∀ σ H,Pv n σ H→Q (.ref D) H):D2Go J g0 wi1 g1 tk tv σ0 H D Q:=by
 refine ⟨LcN n Pv,⟨_,n47_ _,rfl,h0⟩,?_⟩;rintro i m σ2 H2 ⟨hi,rfl,p⟩
 by_cases hlt:i<n
 · exact .inr ⟨hg i σ2 H2 hlt p,fun x H3 y=>hb i x σ2 H2 H3 hlt y p⟩
 · have e:i=n:=?d
   subst e;exact .inl ⟨hs _ _ p,hd _ _ p⟩
theorem Zwm {J:It} {n:Nat} {D:Addr} {g:TG} {tk tv:TE} {σ0:L2.St} {H:Hp} {fin:L2.St→?w} (Pv:Nat→L2.St→?w) (h0:Pv 0 σ0 H)
 (hg:∀ i σ H,i<n→Pv i σ H→J.go i H) (hs:∀ σ H,Pv n σ H→J.stop n H)
 (hb:∀ i x σ H2 H3,i<n→J.yld i H2 x H3→Pv i σ H2→g x σ H3 fun σ4 H4=>tk σ4 H4 fun k H5=>tv σ4 H5 fun y H6=>∃ kvs key b,H6 D=some (.dT kvs)∧k=.ref b∧H6 b=some (.tup (key.map kV))∧kvs.length<sizeLine∧∃ m',m'<n-i∧LcN n Pv (i+1) m' σ4 (upd H6 D (.dT (putK kvs key y))))
 (hd:∀ σ H,Pv n σ H→fin σ H):D2In J g tk tv D σ0 H fin:=by
 refine ⟨LcN n Pv,⟨_,n47_ _,rfl,h0⟩,?_⟩;rintro i m σ2 H2 ⟨hi,rfl,p⟩
 by_cases hlt:i<n
 · exact .inr ⟨hg i σ2 H2 hlt p,fun x H3 y=>hb i x σ2 H2 H3 hlt y p⟩
 · have e:i=n:=?d
   subst e;exact .inl ⟨hs _ _ p,hd _ _ p⟩
theorem Zkb {kvs:?N} {k:Key} {v:V} (h:valV kvs k=some v):(k,v)∈kvs:=by
 unfold valV at h;obtain ⟨p,hp,rfl⟩:=n10_.mp h
 have:=List.find?_some hp
 rw [← n49_ this];exact List.mem_of_find?_eq_some hp
structure LoadQ (H:Hp) (ks:?p) (kvs:?N) (h:Int→Rat):Prop where
 at_:∀ p∈kvs,∃ x,p.1=.inl x∧x∈nI ks∧IsQ H p.2 (h x)
 no:∀ x,valV kvs (.inl x)=none→h x=0
 sm:∀ x,Sm (h x)
 len:kvs.length≤60
theorem LoadQ.tk {H H':Hp} {ks:?p} {kvs:?N} {h:Int→Rat} (l:LoadQ H ks kvs h) (t:Tk H H'):LoadQ H' ks kvs h:=⟨fun p hp=>let ⟨x,a,b,c⟩:=l.at_ p hp;⟨x,a,b,c.tk t⟩,l.no,l.sm,l.len⟩
theorem LoadQ.row {H:Hp} {ks:?p} {kvs:?N} {h:Int→Rat} {L:Addr} (l:LoadQ H ks kvs h) (e:Rd H L ?E):RowQ H L h:=⟨kvs,e,fun x=>⟨fun v hv=>by
 obtain ⟨y,ey,_,hq⟩:=l.at_ _ (Zkb hv);cases ey
 exact ⟨hq,l.sm x⟩,l.no x⟩⟩
structure WaysJ (ks ms js:?p):Prop where
 le:js.length≤ks.length+ms.length
 rise:js.Pairwise (·<·)
 mem:∀ x,x∈js↔x∈ks∨x∈ms
theorem Zab {ks ms js ls:?p} (h:WaysJ ks ms js) (g:WaysJ ks ms ls):js=ls:=by
 have nd:∀ {l:?p},l.Pairwise (·<·)→l.Nodup:=fun h=>h.imp fun h=>?d
 have pm:js.Perm ls:=(List.perm_ext_iff_of_nodup (nd h.rise) (nd g.rise)).mpr fun x=>(h.mem x).trans (g.mem x).symm;exact pm.eq_of_pairwise (le:=(·<·)) (fun a b _ _ h1 h2=>?d) h.rise g.rise
inductive BxSp_withLoads (vs:List V) (H:Hp) (Q:VK):Prop
 | mk (v:V) (L:Addr) (ks:?p) (f:?O) (g:Int→Rat) (kvs:?N) (hl:Int→Rat) (q1:vs=[v,.ref L]) (q2:IsFm H v ks f g) (q3:FmOk ks f g) (q4:H L=some ?E) (q5:LoadQ H ks kvs hl) (q6:∀ (H':Hp) (r:V) (o:Obj),Keep L H H'→H' L=some (.frz o ?E)→IsFm H' r ks f (fun x=>g x+hl x)→Q r H'):BxSp_withLoads vs H Q
def Zc9:Sp:=fun vs H Q _=>BxSp_withLoads vs H Q
inductive BxSp_joined (vs:List V) (H:Hp) (Q:VK):Prop
 | mk (v u:V) (ks ms:?p) (f1 f2:?O) (g1 g2:Int→Rat) (q1:vs=[v,u]) (q2:IsFm H v ks f1 g1) (q3:FmOk ks f1 g1) (q4:IsFm H u ms f2 g2) (q5:FmOk ms f2 g2) (q6:∀ (H':Hp) (r:V) (js:?p),?H→WaysJ ks ms js→IsFm H' r js (fun k=>f1 k+f2 k) (fun x=>g1 x+g2 x)→Q r H'):BxSp_joined vs H Q
def Zhm:Sp:=fun vs H Q _=>BxSp_joined vs H Q
theorem Zeb {X:Cx} (hc:X.calm=true):Xl X (.type "set") (fun xs H Q=>∃ (p:Addr) (ns:?g),xs=[.ref p]∧SqT X.K H p ?U∧ns.length≤30∧∀ S H',H S=none→?H→H' S=some (setI (Z3 X.w) S (metI ns))→Q (.ref S) H'):=fun pins s σ H xs us Q I r h=>Zmf hc pins s σ H xs us Q I r (let ⟨p,ns,e,a,b,q⟩:=h;⟨p,ns,e,a,b,fun S nS=>q S _ nS (Same.new nS) Zc⟩)
theorem Zj8 {α:Type} (f g:α→Rat):∀ l:List α,(l.map fun x=>f x+g x).sum=(l.map f).sum+(l.map g).sum
 | []=>by simp [n51_]
 | a :: l=>by
   rw [n19_,n19_,n19_,n46_,n46_,n46_,Zj8 f g l]
   grind
theorem Zkp {α β:Type} (G:α→β→Rat) (is:List β):∀ as:List α,(as.map fun a=>(is.map fun i=>G a i).sum).sum=(is.map fun i=>(as.map fun a=>G a i).sum).sum
 | []=>by
   have:∀ l:List β,(l.map fun _=>(0:Rat)).sum=0:=fun l=>by
    induction l with
    | nil=>rfl
    | cons b l ih=>rw [n19_,n46_,ih,n51_]
   exact (this is).symm
 | a :: as=>by
   rw [n19_,n46_,Zkp G is as,← Zj8];rfl
theorem Zjo (u:Nat→Int) (F:Nat→Nat→Pnt) (x y:Int) (is:?p):∀ as:?p,rsum (tbl (as.flatMap fun a=>is.map fun i=>((u i,u a),F a i)) (x,y))=(as.map fun a=>(is.map fun i=>if u i=x∧u a=y then pq (F a i) else 0).sum).sum
 | []=>rfl
 | a :: as=>by
   have row:∀ l:?p,rsum (tbl (l.map fun i=>((u i,u a),F a i)) (x,y))=(l.map fun i=>if u i=x∧u a=y then pq (F a i) else 0).sum:=fun l=>by
    induction l with
    | nil=>rfl
    | cons i l ih =>
      rw [n19_,Zj0,n19_,n46_,ih];simp only [Prod.mk.injEq]
   rw [n88_,Zcu,Zdm,row,Zjo u F x y is as,n19_,n46_]
theorem Zq6 (b0 b1 b2 c0 c1 c2 l m:Int) (a i:Nat) (h:a<6) (g:i<6):(Zeq [b0,b1,b2] [c0,c1,c2] (stsI l m (strI [b0,b1,b2] [c0,c1,c2] (e6 a)))).getD i 0=(Zeq [b0,b1,b2] [c0,c1,c2] (stsI l m (strI [b0,b1,b2] [c0,c1,c2] (e6 i)))).getD a 0:=by
 unfold stsI;rw [psE _ _ _ _ _ _ _ _ _ _ g,psE _ _ _ _ _ _ _ _ _ _ h,stE _ _ _ _ _ _ _ h,stE _ _ _ _ _ _ _ g]
 show (_*(List.getD _ a 0+_)+_)*_+(_*(_+_)+_)*_+_*List.getD _ a 0*_=(_*(List.getD _ i 0+_)+_)*_+(_*(_+_)+_)*_+_*List.getD _ i 0*_
 grind
theorem Zsm (P:Pl) (n:Nat) (x y:Int):rsum (tbl (ownL P n) (x,y))=rsum (tbl (ownL P n) (y,x)):=by
 have sy:∀ a i:Nat,a<6→i<6→opP P n a i=opP P n i a:=fun a i ha hi=>by
  unfold opP opI;obtain ⟨b0,b1,b2,hb⟩:∃ b0 b1 b2:Int,Yo P.cs ?y=[b0,b1,b2]:=⟨_,_,_,rfl⟩;obtain ⟨c0,c1,c2,hc⟩:∃ b0 b1 b2:Int,Yp P.cs ?y=[b0,b1,b2]:=⟨_,_,_,rfl⟩;rw [hb,hc,Zq6 b0 b1 b2 c0 c1 c2 P.l P.m a i ha hi]
 unfold ownL;rw [Zjo (wAt P n) (opP P n),Zjo (wAt P n) (opP P n),Zkp];refine congrArg List.sum (n57_ fun i hi=>congrArg List.sum (n57_ fun a ha=>?_));rw [sy a i (n32_.mp ha) (n32_.mp hi)]
 by_cases c:wAt P n i=x∧wAt P n a=y
 · rw [if_pos c,if_pos ⟨c.2,c.1⟩]
 · rw [if_neg c,if_neg fun z=>c ⟨z.2,z.1⟩]
theorem Zkl (P:Pl) (x y:Int):∀ ks:?p,fLot P ks (x,y)=fLot P ks (y,x)
 | []=>rfl
 | k :: ks=>by
   have ih:=Zkl P x y ks;unfold fLot allL at *;rw [n88_,Zcu,Zdm,Zcu,Zdm,Zsm P k x y,ih]
theorem Zm3 {P:Pl} (ok:PlOk P) {ks:?p} (hl:∀ k∈ks,k<P.ps.length) {x y:Int} (h:(∀ k∈ks,x∉Yw (pcOf P (k:Nat)))∨∀ k∈ks,y∉Yw (pcOf P (k:Nat))):fLot P ks (x,y)=0:=by
 have e:tbl (allL P ks) (x,y)=[]:=by
  unfold tbl;rw [List.filter_eq_nil_iff.mpr fun e he=>?_];rfl;obtain ⟨k,hk,he⟩:=List.mem_flatMap.mp he;obtain ⟨a,ha,he⟩:=List.mem_flatMap.mp he;obtain ⟨i,hi,rfl⟩:=n21_.mp he
  have wm:∀ c<6,wAt P k c∈Yw (pcOf P (k:Nat)):=fun c hc=>by
   have l6:(Yw (pcOf P (k:Nat))).length=6:=by unfold Yw;rw [n33_,n3_,n3_,(pc3 ok (hl k hk)).len]
   unfold wAt;rw [n4_,n0_ (?d)];exact n24_ _
  intro z;have z:=n49_ z;injection z with z1 z2
  rcases h with h|h
  · exact h k hk (z1 ▸ wm i (n32_.mp hi))
  · exact h k hk (z2 ▸ wm a (n32_.mp ha))
 unfold fLot;rw [e];rfl
def gOf (ks:?p) (ms:?z) (x:Int):Rat:=if x∈nI ks then ms.getD ((nI ks).idxOf x) 0 else 0
def fOf (ks:?p) (R:List (?z)) (k:Int×Int):Rat:=if k.1∈nI ks then gOf ks (R.getD ((nI ks).idxOf k.1) []) k.2 else 0
theorem Zvu {ks:?p} (h:ks.Pairwise (·<·)):(nI ks).Nodup:=by
 rw [List.nodup_iff_pairwise_ne,List.pairwise_map];exact h.imp fun h=>?d
theorem Zqx {ks:?p} (h:ks.Pairwise (·<·)) {ms:?z} {i:Nat} {x:Int} (e:(nI ks)[i]? = some x):gOf ks ms x=ms.getD i 0:=by
 obtain ⟨hi,rfl⟩:=n22_.mp e;unfold gOf;rw [if_pos (n24_ hi),List.Nodup.idxOf_getElem (Zvu h) i hi]
theorem Zju {ks:?p} (h:ks.Pairwise (·<·)) {ms:?z} (hl:ms.length=ks.length):(nI ks).map (gOf ks ms)=ms:=by
 refine n91_ (by rw [n3_,n3_,hl]) fun i h1 h2=>?_;have hi:i<(nI ks).length:=by rw [n3_] at h1;exact h1
 rw [List.getElem_map,Zqx h (n0_ hi),n4_,n0_ h2];rfl
theorem Zlc {ks:?p} {ms:?z} (h:∀ q∈ms,Sm q) (x:Int):Sm (gOf ks ms x):=by
 have z:Sm 0:=⟨⟨?k,?k⟩,?k⟩;unfold gOf;split
 · rw [n4_];cases e:ms[(nI ks).idxOf x]? with
   | none=>exact z
   | some q=>exact h q (n17_ e)
 · exact z
theorem sm60 {q:Rat} (h:FM.B 60 q):Sm q:=⟨h.mono ?e,Nat.lt_trans h.2 ?e⟩
theorem Zt9 {ks:?p} (rise:ks.Pairwise (·<·)) (lt:∀ k∈ks,k<60) (le:ks.length≤12) {R:List (?z)} {ms:?z} (hR:∀ r∈R,∀ q∈r,Sm q) (hm:∀ q∈ms,Sm q) (sy:∀ i j,i<ks.length→j<ks.length→(R.getD i []).getD j 0=(R.getD j []).getD i 0):FmOk ks (fOf ks R) (gOf ks ms):=by
 have row:∀ i,∀ q∈R.getD i [],Sm q:=fun i q hq=>by
  rw [n4_] at hq;cases e:R[i]? with
  | none=>rw [e] at hq;cases hq
  | some r=>rw [e] at hq;exact hR r (n17_ e) q hq
 refine ⟨rise,lt,le,fun x y h=>?_,fun x h=>if_neg h,fun x y=>?_,fun k=>?_,Zlc hm⟩
 · unfold fOf gOf
   rcases h with h|h
   · exact if_neg h
   · rw [if_neg h,ite_self]
 · unfold fOf gOf
   by_cases hx:x∈nI ks<;>by_cases hy:y∈nI ks
   · have i1:=List.idxOf_lt_length_of_mem hx;have i2:=List.idxOf_lt_length_of_mem hy;rw [n3_] at i1 i2;rw [if_pos hx,if_pos hy,if_pos hy,if_pos hx];exact sy _ _ i1 i2
   · rw [if_pos hx,if_neg hy,if_neg hy]
   · rw [if_neg hx,if_pos hy,if_neg hx]
   · rw [if_neg hx,if_neg hy]
 · unfold fOf;split
   · exact Zlc (row _) k.2
   · exact ⟨⟨?k,?k⟩,?k⟩
theorem Ztm {ks:?p} (h:ks.Pairwise (·<·)) {R:List (?z)} (hl:R.length=ks.length) (hr:∀ r∈R,r.length=ks.length):((nI ks).map fun w=>(nI ks).map fun o=>fOf ks R (w,o))=R:=by
 refine n91_ (by rw [n3_,n3_,hl]) fun i h1 h2=>?_;have hi:i<(nI ks).length:=by rw [n3_] at h1;exact h1
 rw [List.getElem_map]
 have e:∀ o,fOf ks R ((nI ks)[i],o)=gOf ks R[i] o:=fun o=>by
  unfold fOf;rw [if_pos (n24_ hi),List.Nodup.idxOf_getElem (Zvu h) i hi,n4_,n0_ h2];rfl
 rw [show ((nI ks).map fun o=>fOf ks R ((nI ks)[i],o))=(nI ks).map (gOf ks R[i]) from n57_ fun o _=>e o];exact Zju h (hr _ (n24_ h2))
inductive BxSp_plate6 (vs:List V) (H:Hp) (Q:VK):Prop
 | mk (l:Addr) (q1:vs=[.ref l,.int 8]) (q2:StAt H l) (q3:∀ (H':Hp) (v:V) (P:Pl),Keep l H H'→StAt H' l→IsPl H' v P→PlOk P→P.ps.length≤4→P.cs.length≤6→Q v H'):BxSp_plate6 vs H Q
def Zhi:Sp:=fun vs H Q _=>BxSp_plate6 vs H Q
inductive BxSp_fmDrawn (vs:List V) (H:Hp) (Q:VK):Prop
 | mk (l:Addr) (q1:vs=[.ref l]) (q2:StAt H l) (q3:∀ (H':Hp) (v:V) (ks:?p) (f:?O) (g:Int→Rat),Keep l H H'→StAt H' l→IsFm H' v ks f g→FmOk ks f g→Q v H'):BxSp_fmDrawn vs H Q
def Zfp:Sp:=fun vs H Q _=>BxSp_fmDrawn vs H Q
def Zkg:Sp:=Zfp
def Zh6:Sp:=Zfp
inductive BxSp_kept (vs:List V) (H:Hp) (Q:VK):Prop
 | mk (l:Addr) (v:V) (ks:?p) (f:?O) (g:Int→Rat) (q1:vs=[.ref l,v]) (q2:StAt H l) (q3:IsFm H v ks f g) (q4:FmOk ks f g) (q5:∀ (H':Hp) (a:Addr) (js:?p),Keep l H H'→StAt H' l→H' a=some (.tup ((nI js).map V.int))→js.Pairwise (·<·)→(∀ j∈js,j∈ks)→js.length≤ks.length→Q (.ref a) H'):BxSp_kept vs H Q
def Znp:Sp:=fun vs H Q _=>BxSp_kept vs H Q
theorem Zpe {xs:List V} {n:Nat}:cutV xs none (some (n:Int))=xs.take n:=by
 unfold cutV;rw [HT.sIx_none,HT.sIx_nat,n86_,Nat.sub_zero]
 by_cases h:n≤xs.length
 · rw [Nat.min_eq_left h]
 · rw [Nat.min_eq_right (?d),n34_ (n7_ _),n34_ (?d)]
inductive BxSp_ljoined (vs:List V) (H:Hp) (Q:VK):Prop
 | mk (v u:V) (ks ms:?p) (f1 f2:?O) (g1 g2:Int→Rat) (q1:vs=[v,u]) (q2:IsFm H v ks f1 g1) (q3:FmOk ks f1 g1) (q4:IsFm H u ms f2 g2) (q5:FmOk ms f2 g2) (q6:∀ (H':Hp) (r:V) (js:?p),?H→WaysJ ks ms js→IsFm H' r js (fun k=>f1 k+f2 k) (fun x=>g1 x+g2 x)→Q r H'):BxSp_ljoined vs H Q
def Zfv:Sp:=fun vs H Q _=>BxSp_ljoined vs H Q
structure JSt (H0:Hp) (SD RD:Addr) (js:?p) (n:Nat) (s:?O) (r:Int→Rat) (G:Hp):Prop where
 keep:∀ b o,b≠SD→b≠RD→H0 b=some o→G b=some o
 sd:∃ kvs,G SD=some (.dT kvs)∧kvs.length≤n∧∀ k,(∀ v,valV kvs (ek k)=some v→IsQ G v (s k))∧(valV kvs (ek k)=none→s k=0)
 rd:∃ rvs:?N,G RD=some (.dK rvs)∧rvs.length≤n+30∧∀ x∈nI js,∃ v,valV rvs (.inl x)=some v∧IsQ G v (r x)
theorem JSt.more {H0:Hp} {SD RD:Addr} {js:?p} {n:Nat} {s:?O} {r:Int→Rat} {G G':Hp} (h:JSt H0 SD RD js n s r G) (e:Same G G'):JSt H0 SD RD js n s r G':=by
 obtain ⟨kvs,h1,h2,h3⟩:=h.sd;obtain ⟨rvs,g1,g2,g3⟩:=h.rd;exact ⟨fun b o n1 n2 q=>e _ _ (h.keep b o n1 n2 q),⟨kvs,e _ _ h1,h2,fun k=>⟨fun v hv=>((h3 k).1 v hv).tk e.tk,(h3 k).2⟩⟩,⟨rvs,e _ _ g1,g2,fun x hx=>let ⟨v,a,b⟩:=g3 x hx;⟨v,a,b.tk e.tk⟩⟩⟩
theorem JSt.to {H0:Hp} {SD RD:Addr} {js:?p} {n n':Nat} {s s':?O} {r r':Int→Rat} {G:Hp} (h:JSt H0 SD RD js n s r G) (hn:n≤n') (es:∀ k,s k=s' k) (er:∀ x,r x=r' x):JSt H0 SD RD js n' s' r' G:=by
 obtain ⟨kvs,h1,h2,h3⟩:=h.sd;obtain ⟨rvs,g1,g2,g3⟩:=h.rd;exact ⟨h.keep,⟨kvs,h1,n31_ h2 hn,fun k=>by rw [← es k];exact h3 k⟩,⟨rvs,g1,?d,fun x hx=>by rw [← er x];exact g3 x hx⟩⟩
theorem JSt.putS {H0:Hp} {SD RD b:Addr} {js:?p} {n:Nat} {s:?O} {r:Int→Rat} {G:Hp} (h:JSt H0 SD RD js n s r G) (hn:n≤1000) {k:Int×Int} {v:V} {q:Rat} (hb:G b=some (.tup ((ek k).map kV))) (hv:IsQ G v q) :
 ∃ G',DPut G SD (.ref b) v G'∧JSt H0 SD RD js (n+1) (fun j=>if j=k then q else s j) r G':=by
 obtain ⟨kvs,h1,h2,h3⟩:=h.sd;obtain ⟨rvs,g1,g2,g3⟩:=h.rd;have tk:Tk G (upd G SD (.dT (putK kvs (ek k) v))):=fun c xs e=>by rw [Zl fun z=>by rw [z,h1] at e;cases e];exact e
 have ne:RD≠SD:=fun z=>by rw [z,h1] at g1;cases g1
 refine ⟨_,DPut.tq h1 hb (by rw [sizeLine_eq];omega),⟨fun c o n1 n2 e=>by rw [Zl n1];exact h.keep c o n1 n2 e,⟨_,Zc,?_,fun j=>?_⟩,⟨rvs,by rw [Zl ne];exact g1,?d,fun x hx=>let ⟨w,a,c⟩:=g3 x hx;⟨w,a,c.tk tk⟩⟩⟩⟩
 · have:=Yh kvs (ek k) v;omega
 · rw [Zb2]
   by_cases c:j=k
   · subst c;rw [if_pos rfl,if_pos rfl];exact ⟨fun u e=>by cases e;exact hv.tk tk,fun e=>by cases e⟩
   · rw [if_neg fun z=>c (Zq7 z),if_neg c];exact ⟨fun u e=>((h3 j).1 u e).tk tk,(h3 j).2⟩
theorem JSt.putR {H0:Hp} {SD RD:Addr} {js:?p} {n:Nat} {s:?O} {r:Int→Rat} {G:Hp} (h:JSt H0 SD RD js n s r G) (hn:n≤1000) {x:Int} {v:V} {q:Rat} (hv:IsQ G v q) :
 ∃ G',DPut G RD (.int x) v G'∧JSt H0 SD RD js (n+1) s (fun y=>if y=x then q else r y) G':=by
 obtain ⟨kvs,h1,h2,h3⟩:=h.sd;obtain ⟨rvs,g1,g2,g3⟩:=h.rd;have tk:Tk G (upd G RD (.dK (putK rvs (.inl x) v))):=fun c xs e=>by rw [Zl fun z=>by rw [z,g1] at e;cases e];exact e
 have ne:SD≠RD:=fun z=>by rw [← z,h1] at g1;cases g1
 refine ⟨_,DPut.kq (k:=.inl x) g1 (by rw [sizeLine_eq];omega),⟨fun c o n1 n2 e=>by rw [Zl n2];exact h.keep c o n1 n2 e,⟨kvs,by rw [Zl ne];exact h1,?d,fun k=>⟨fun u e=>((h3 k).1 u e).tk tk,(h3 k).2⟩⟩,⟨_,Zc,?_,fun y hy=>?_⟩⟩⟩
 · have:=Yh rvs (.inl x) v;omega
 · rw [Zb2]
   by_cases c:y=x
   · subst c;rw [if_pos rfl,if_pos rfl];exact ⟨v,rfl,hv.tk tk⟩
   · rw [if_neg fun z=>c (Sum.inl.inj z),if_neg c];obtain ⟨w,a,b⟩:=g3 y hy;exact ⟨w,a,b.tk tk⟩
theorem Zld {H:Hp}:∀ {us:List V} {xs:?g},Al (fun v (x:Int)=>∃ c p,v=.ref c∧H c=some (.tup [.int x,.ref p])∧H p=some (.tup (rt 0))) us xs→∃ ps:?N,Al (fun v (p:Key×V)=>∃ c,v=.ref c∧H c=some (.tup [kV p.1,p.2])) us ps∧ps.map (·.1)=xs.map Sum.inl∧∀ p∈ps,IsQ H p.2 0
 | [],[],_=>⟨[],.nil,rfl,by simp⟩
 | [],x :: xs,h=>by have:=h.1;simp at this
 | v :: us,[],h=>by have:=h.1;simp at this
 | v :: us,x :: xs,h=>by
   obtain ⟨c,p,rfl,e1,e2⟩:=h.2 0 v x rfl rfl;obtain ⟨ps,a,b,d⟩:=Zld (us:=us) (xs:=xs) ⟨by have:=h.1;simpa using this,fun i w y e1 e2=>h.2 (i+1) w y (by simpa using e1) (by simpa using e2)⟩;refine ⟨(.inl x,.ref p) :: ps,⟨by simp [a.1],fun i w y e1' e2'=>?_⟩,by rw [n19_,n19_,b],fun q hq=>?_⟩
   · cases i with
     | zero=>cases e1';cases e2';exact ⟨c,rfl,e1⟩
     | succ i=>exact a.2 i w y (by simpa using e1') (by simpa using e2')
   · rcases n12_.mp hq with rfl|hq
     · exact ⟨p,rfl,e2⟩
     · exact d q hq
theorem Zcx:∀ (l kvs:?N),(Yi kvs l).length≤kvs.length+l.length
 | [],_=>n7_ _
 | p :: l,kvs=>by
   have h1:=Zcx l (putK kvs p.1 p.2);have h2:=Yh kvs p.1 p.2;show (Yi (putK kvs p.1 p.2) l).length≤_
   rw [n29_];omega
theorem Zof {ks:?p} (h:ks.Pairwise (·<·)) {i:Nat} (hi:i<(nI ks).length):(nI ks)[i]∉(nI ks).take i:=fun m=>by
 obtain ⟨j,hj,e⟩:=n50_ m;rw [n60_] at hj;rw [List.getElem_take] at e
 have r:(nI ks).Pairwise (·<·):=by
  rw [List.pairwise_map];exact h.imp fun h=>?d
 have:=n84_.mp r j i (?d) hi (?d)
 omega
theorem Zmh {a b:Rat} (ha:Sm a) (hb:Sm b):FM.B 1100 (a+b):=by
 have e:a+b=Rat.divInt (a.num*b.den+b.num*a.den) (a.den*b.den):=by
  rw [n68_,n74_,n30_,n30_,n30_];have h1:=n90_ a;have h2:=n90_ b;rw [n68_] at h1 h2;have d1:=Xf (show (a.den:Int)≠0 by have:=a.den_nz;omega);have d2:=Xf (show (b.den:Int)≠0 by have:=b.den_nz;omega);generalize ((a.num:Int):Rat)=an at *;generalize ((b.num:Int):Rat)=bn at *;generalize (((a.den:Nat):Int):Rat)=ad at *;generalize (((b.den:Nat):Int):Rat)=bd at *;rw [← h1,← h2]
  grind
 rw [e];have z1:=a.den_nz;have z2:=b.den_nz;have m1:((a.den:Int)*(b.den:Int))≠0:=Int.mul_ne_zero (?d) (?d);have da:((a.den:Nat):Int).natAbs<2^71:=by rw [Int.natAbs_natCast];exact ha.2
 have db:((b.den:Nat):Int).natAbs<2^71:=by rw [Int.natAbs_natCast];exact hb.2
 have n1:=FM.natAbs_mul_lt ha.1.1 db;have n2:=FM.natAbs_mul_lt hb.1.1 da;refine FM.B_divInt m1 ?_ (n9_ (FM.natAbs_mul_lt da db) (n25_ ?e ?e))
 have:2^(1000+71)+2^(1000+71)=2^1072:=?i
 refine n9_ (show _<2^1072 from ?_) (n25_ ?e ?e)
 have:=Int.natAbs_add_le (a.num*b.den) (b.num*a.den)
 omega
def dFm (ks:?p) (f:?O) (g:Int→Rat):PyData:=.tuple [dI (nI ks),.tuple ((nI ks).map fun w=>dQs ((nI ks).map fun o=>f (w,o))),dQs ((nI ks).map g)]
theorem dtFm {N:Addr→Prop} {H:Hp} {v:V} {ks:?p} {f:?O} {g:Int→Rat} {b:Nat} (h:IsFm H v ks f g) (hi:∀ k∈ks,k<2^b) (hf:∀ k,FM.B b (f k)) (hg:∀ x,FM.B b (g x)):Dt N H b v (dFm ks f g):=by
 obtain ⟨a,w,r,z,rfl,e,hw,⟨c,us,rfl,ec,al⟩,hz⟩:=h
 have hd:Dts N H b us (((nI ks).map fun w=>(nI ks).map fun o=>f (w,o)).map dQs):=Zj7 al fun v x hx r=>dtQs r fun q hq=>by
  obtain ⟨w,_,rfl⟩:=n21_.mp hx;obtain ⟨o,_,rfl⟩:=n21_.mp hq;exact hf _
 rw [List.map_map] at hd;refine .tup e (.cons (Zva hw fun i hi'=>?_) (.cons (.tup ec hd) (.cons (dtQs hz fun q hq=>?_) .nil)))
 · obtain ⟨k,hk,rfl⟩:=n21_.mp hi';rw [Int.natAbs_natCast];exact hi k hk
 · obtain ⟨x,_,rfl⟩:=n21_.mp hq;exact hg x
theorem Zcj (ks:?p) (f:?O) (g:Int→Rat):(dFm ks f g).depth≤4:=by
 have h1:=Zuj (nI ks);have h2:=Zb4 (f:=fun w=>dQs ((nI ks).map fun o=>f (w,o))) (c:=2) (xs:=nI ks) fun x _=>Zok _;have h3:=Zok ((nI ks).map g);simp only [dFm,PyData.depth,PyData.depthAll];omega
theorem nzFm {ks:?p} (f:?O) (g:Int→Rat) (h:ks.length≤24):nz (dFm ks f g)≤3900:=by
 have hl:(nI ks).length=ks.length:=n3_ ..;have h1:=nzI (nI ks)
 have h2:=Zjz (f:=fun w=>dQs ((nI ks).map fun o=>f (w,o))) (c:=145) (xs:=nI ks) fun x _=>by
  have:=nzQs ((nI ks).map fun o=>f (x,o))
  rw [n3_] at this;omega
 have h3:=nzQs ((nI ks).map g);rw [n3_] at h3;simp only [dFm,nz,Zda];omega
theorem b60 {ks:?p} {b:Nat} (h:∀ k∈ks,k<60) (hb:6≤b):∀ k∈ks,k<2^b:=fun k hk=>n9_ (show k<2^6 by have:=h k hk;omega) (n25_ ?e hb)
theorem FmOk.dt {N:Addr→Prop} {H:Hp} {v:V} {ks:?p} {f:?O} {g:Int→Rat} (ok:FmOk ks f g) (h:IsFm H v ks f g):Dt N H 1100 v (dFm ks f g):=dtFm h (b60 ok.lt ?e) (fun k=>(ok.bf k).1.mono ?e) fun x=>(ok.bg x).1.mono ?e
theorem Zds {N:Addr→Prop} {H:Hp} {v:V} {ks ms js:?p} {f1 f2:?O} {g1 g2:Int→Rat} (o1:FmOk ks f1 g1) (o2:FmOk ms f2 g2) (wj:WaysJ ks ms js) (h:IsFm H v js (fun k=>f1 k+f2 k) fun x=>g1 x+g2 x):Dt N H 1100 v (dFm js (fun k=>f1 k+f2 k) fun x=>g1 x+g2 x) :=
 dtFm h (b60 (fun k hk=>((wj.mem k).mp hk).elim (o1.lt k) (o2.lt k)) ?e) (fun k=>Zmh (o1.bf k) (o2.bf k)) fun x=>Zmh (o1.bg x) (o2.bg x)
def dF2 (ks ms:?p) (f1 f2:?O) (g1 g2:Int→Rat):PyData:=.tuple [dFm ks f1 g1,dFm ms f2 g2]
theorem Zoz (ks ms:?p) (f1 f2:?O) (g1 g2:Int→Rat):(dF2 ks ms f1 f2 g1 g2).depth≤5:=by
 have h1:=Zcj ks f1 g1;have h2:=Zcj ms f2 g2;simp only [dF2,PyData.depth,PyData.depthAll];omega
theorem nzF2 {ks ms:?p} {f1 f2:?O} {g1 g2:Int→Rat} (o1:FmOk ks f1 g1) (o2:FmOk ms f2 g2):nz (dF2 ks ms f1 f2 g1 g2)≤8000:=by
 have h1:=nzFm f1 g1 (n31_ o1.le ?e);have h2:=nzFm f2 g2 (n31_ o2.le ?e);simp only [dF2,nz,Zda];omega
theorem Zuu:FmOk [] (fun _=>0) (fun _=>0):=⟨.nil,by simp,?k,fun _ _ _=>rfl,?l,?l,fun _=>⟨⟨?k,?k⟩,?k⟩,fun _=>⟨⟨?k,?k⟩,?k⟩⟩
theorem Zff:∀ (l kvs:?N) (p:Key×V),p∈Yi kvs l→p∈l∨p∈kvs
 | [],kvs,p,h=>.inr h
 | q :: l,kvs,p,h=>by
   rcases Zff l (putK kvs q.1 q.2) p h with m|m
   · exact .inl (n15_ _ m)
   · unfold putK at m;split at m
     · obtain ⟨r,hr,e⟩:=n21_.mp m
       by_cases c:r.1=q.1
       · rw [if_pos c] at e;exact .inl (by rw [← e,c];exact n20_)
       · rw [if_neg c] at e;exact .inr (e ▸ hr)
     · rcases n36_.mp m with m|m
       · exact .inr m
       · exact .inl (by rw [n18_.mp m];exact n20_)
theorem Zto {H:Hp} {ks js:?p} (rise:js.Pairwise (·<·)) (sub:∀ j∈js,j∈ks) (le:js.length≤12) {ps:?N} {qs:?z} (kp:ps.map (·.1)=(nI js).map Sum.inl) (aq:Al (IsQ H) (ps.map (·.2)) qs) (sq:∀ q∈qs,Sm q):LoadQ H ks (Yi [] ps) (gOf js qs):=by
 have lp:ps.length=js.length:=by have:=congrArg List.length kp;rwa [n3_,n3_,n3_] at this
 refine ⟨fun p hp=>?_,fun x hn=>?_,Zlc sq,?_⟩
 · rcases Zff ps [] p hp with m|m
   · obtain ⟨i,hi⟩:=List.mem_iff_getElem?.mp m;have e1:(ps.map (·.1))[i]? = some p.1:=by rw [n5_,hi];rfl
     rw [kp,n5_] at e1;obtain ⟨x,ex,e1⟩:=n10_.mp e1;obtain ⟨q,eq,hq⟩:=aq.get (show (ps.map (·.2))[i]? = some p.2 by rw [n5_,hi];rfl);refine ⟨x,e1.symm,?_,?_⟩
     · obtain ⟨k,hk,rfl⟩:=n21_.mp (n17_ ex);exact n89_ (sub k hk)
     · rw [Zqx rise ex,n4_,eq];exact hq
   · cases m
 · refine if_neg fun m=>((Zbe (.inl x) ps []).2 hn).1 ?_;rw [kp];exact n89_ m
 · have:=Zcx ps []
   rw [List.length_nil] at this;omega
section
variable (P:Program) (w:World) (K:PySem.W.Frag) (mg:Str→?C) (base:Heap)
abbrev a0_:=Cal P w K mg base "plain_divisor" 1 ["one","other"] Zks
abbrev a1_:=Cal P w K mg base "divisor" 2 ["one","other"] Zfi
abbrev a2_:=Cal P w K mg base "is_whole" 1 ["thing"] Zeo
abbrev a3_:=Cal P w K mg base "is_fraction" 3 ["thing"] Zbm
abbrev a4_:=Cal P w K mg base "multiple" 3 ["bottoms"] Zkt
abbrev a5_:=Cal P w K mg base "levelled" 4 ["parts"] Zn8
abbrev a6_:=Cal P w K mg base "reduced" 3 ["top","bottom"] Zft
abbrev a7_:=Cal P w K mg base "are_rising" 1 ["things"] Ze8
abbrev a8_:=Cal P w K mg base "is_one_of" 2 ["known","thing"] Zic
abbrev a9_:=Cal P w K mg base "are_fractions" 4 ["thing","many"] Zkc
abbrev a10_:=Cal P w K mg base "are_some_of" 3 ["known","thing"] Zd6
abbrev a11_:=Cal P w K mg base "is_table" 5 ["thing","many"] Zfl
abbrev a12_:=Cal P w K mg base "is_frame" 6 ["thing"] Zfn
abbrev a13_:=Cal P w K mg base "added" 6 ["terms"] Zj2
abbrev a14_:=Cal P w K mg base "together" 7 ["dicts","key"] Zrg
abbrev a15_:=Cal P w K mg base "are_loads_of" 4 ["frame","thing"] Zd0
abbrev a16_:=Cal P w K mg base "frame_by" 8 ["ways","tables","rights"] Zdx
abbrev a17_:=Cal P w K mg base "look_at_frame" 7 ["frame"] Zia
abbrev a18_:=Cal P w K mg base "rights_of" 2 ["frame"] Zeg
abbrev a19_:=Cal P w K mg base "table_of" 2 ["frame"] Ze7
abbrev a20_:=Cal P w K mg base "frame_by" 8 ["ways","tables","rights"] Zdw
abbrev a21_:=Cal P w K mg base "_law_cell_at" 1 ["_law_script","_law_k"] (Zmu K)
abbrev a22_:=Cal P w K mg base "_law_choice" 1 ["_law_state_here","_law_many"] Zel
abbrev a23_:=Cal P w K mg base "_law_low" 1 ["_law_top","_law_bottom"] Zqw
abbrev a24_:=Cal P w K mg base "_law_add" 2 ["_law_one","_law_other"] (Zp2 (·+·))
abbrev a25_:=Cal P w K mg base "_law_order" 2 ["_law_state_here","_law_many"] Zkr
abbrev a26_:=Cal P w K mg base "_law_shapes" 1 [] Zhn
abbrev a27_:=Cal P w K mg base "_law_fraction" 2 ["_law_state_here"] (Zhf 60)
abbrev a28_:=Cal P w K mg base "_law_mul" 2 ["_law_one","_law_other"] (Zp2 (·*·))
abbrev a29_:=Cal P w K mg base "_law_slopes" 2 ["_law_plate_here","_law_piece"] Ze6
abbrev a30_:=Cal P w K mg base "_law_total" 3 ["_law_some"] Zkx
abbrev a31_:=Cal P w K mg base "_law_strain" 4 ["_law_plate_here","_law_motions","_law_piece"] Zfm
abbrev a32_:=Cal P w K mg base "_law_stress" 3 ["_law_plate_here","_law_own"] Zfo
abbrev a33_:=Cal P w K mg base "_law_pushes" 4 ["_law_plate_here","_law_some"] Zfs
abbrev a34_:=Cal P w K mg base "_law_stresses" 5 ["_law_plate_here","_law_motions"] Zc6
abbrev a35_:=Cal P w K mg base "_law_unit" 2 ["_law_many","_law_way"] Zno
abbrev a36_:=Cal P w K mg base "_law_row" 3 ["_law_state_here","_law_many"] Znc
abbrev a37_:=Cal P w K mg base "_law_any_frame" 5 ["_law_state_here"] Zkg
abbrev a38_:=Cal P w K mg base "_law_lot" 4 ["_law_state_here","_law_sheet"] Zrb
abbrev a39_:=Cal P w K mg base "_law_lot_frame" 7 ["_law_sheet","_law_lot_here"] Ze9
abbrev a40_:=Cal P w K mg base "_law_plate" 3 ["_law_state_here","_law_most"] Zhi
abbrev a41_:=Cal P w K mg base "_law_joined" 3 ["_law_one","_law_other"] Zfv
abbrev a42_:=Cal P w K mg base "_law_kept" 3 ["_law_state_here","_law_frame"] Znp
abbrev a43_:=Cal P w K mg base "_law_same" 1 ["_law_found","_law_due"] Zkf
abbrev a44_:=Cal P w K mg base "_law_some_frame" 8 ["_law_state_here"] Zh6
abbrev a45_:=Cal P w K mg base "_law_state" 2 ["_law_script","_law_k"] (Zkj K)
abbrev a46_:=Cal P w K mg base "joined" 9 ["one","other"] Zhm
abbrev a47_:=Cal P w K mg base "with_loads" 9 ["frame","loads"] Zc9
end
section
variable {P:Program} {w:World} {K:PySem.W.Frag} {mg:Str→?C} {base:Heap} {f:Addr} {fd:FuncData} (T:Bt mg)
include T
abbrev Xr:Stmt:=top 7
theorem Zdc (F:Fun K "plain_divisor" "plain_divisor" Xr f fd):FnOk P w K mg base CX0 1 f fd ["one","other"] Zks:=by
 have sc:FnScope ["one","other"] ["one","other"] (Zf Xr):=fsc (?i);refine F.ok sc (fun vs H Q E h=>by obtain ⟨a,b,rfl,_⟩:=h;rfl) ?I;obtain ⟨a,b,rfl,q⟩:=h;have nd:=sc.nd;refine' ?J
 case term=>refine' Ze (Zdo PassesOwn.never (Z7 (pv 1) (fun _=>rfl)) (Zi (Zb7 rfl nd (i:=0) (j:=1) rfl rfl ?e rfl rfl (Za (pv 1) (Za (Zp X9 (pv 0) (pv 1)) Zb rfl) rfl) rfl))) (Zi (Zq (Zm Zb0 rfl T.b_abs Zh3 ?Q)))
 refine Zdn (fun σ H'=>∃ x y:Int,σ=[some (.int x),some (.int y)]∧H'=H∧Int.gcd x y=Int.gcd a b) (fun σ _=>match σ with|[_,some (.int y)]=>y.natAbs|_=>0) ⟨a,b,rfl,rfl,rfl⟩ ?_ ?_
 · rintro σ H' ⟨x,y,rfl,rfl,e⟩
   refine ⟨_,rfl,(y != 0),rfl,?_⟩
   by_cases hy:y=0
   · subst hy;refine iteF ?_;refine ⟨_,rfl,x,rfl,?_⟩
     have z:(if x<0 then -x else x)=(Int.gcd a b:Int):=by
      rw [← e,Int.gcd_zero_right];split<;>omega
     rw [z];exact q
   · rw [show (y != 0)=true by simpa using hy];refine iteT ?_;refine ⟨_,rfl,_,rfl,_,rfl,x,y,rfl,rfl,hy,_,_,rfl,⟨y,x.fmod y,rfl,rfl,by rw [FM.gcd_fmod hy];exact e⟩,FM.fmod_abs_lt hy⟩
 · rintro σ H' Q1 Q2 hq ⟨v,e,k,t,q'⟩
   exact ⟨v,e,k,t,hq _ _ q'⟩
abbrev Zdy:Stmt:=top 11
theorem Zl4 (F:Fun K "divisor" "divisor" Zdy f fd) (Cx_:a0_ P w K mg base):FnOk P w K mg base CX0 2 f fd ["one","other"] Zfi:=by
 have sc:FnScope ["one","other","half"] ["one","other"] (Zf Zdy):=fsc (?i);refine F.ok sc (fun vs H Q E h=>by obtain ⟨a,b,rfl,_⟩:=h;rfl) ?I;obtain ⟨a,b,rfl,hb,q⟩:=h;refine' ?J
 case term=>refine' Ze (Zdo PassesOwn.never (Z9 Zpm (Zm (Zhs rfl) rfl T.b_min Zqy (Za (Zri PySem.F.plainAttrs_int PySem.F.slot_int_bit_length PySem.F.type_int_bit_length Zmp (pv 0)) (Za (Zri PySem.F.plainAttrs_int PySem.F.slot_int_bit_length PySem.F.type_int_bit_length Zmp (pv 1)) Zb rfl) rfl)) (Zmv T.n_GREAT_BITS rfl) (Yk _)) Zem) (Zi (Zq (Zh Cx_ hr ?e rfl (Za (pv 0) ?P rfl))))
 refine Zdn (fun σ H'=>σ=[some (.int a),some (.int b),none]∧H'=H) (fun σ _=>0) ⟨rfl,rfl⟩ ?_ ?_
 · rintro σ H' ⟨rfl,rfl⟩
   refine ⟨_,rfl,rfl,_,rfl,rfl,_,rfl,rfl,_,rfl,rfl,_,_,rfl,_,_,rfl,rfl,_,rfl,?_⟩;rw [Ztv hb];refine iteF ?_;exact ⟨_,rfl,_,rfl,a,b,rfl,q⟩
 · rintro σ H' Q1 Q2 hq ⟨v1,e1,t1,i1,a1,n1,v2,e2,t2,i2,a2,n2,i,j,e3,i4,j4,e4,e5,b,e6,q'⟩
   exact ⟨v1,e1,t1,i1,a1,n1,v2,e2,t2,i2,a2,n2,i,j,e3,i4,j4,e4,e5,b,e6,hq _ _ q'⟩
abbrev Zcs:Stmt:=top 13
theorem Zig (F:Fun K "is_whole" "is_whole" Zcs f fd):FnOk P w K mg base CX0 1 f fd ["thing"] Zeo:=by
 have sc:FnScope ["thing"] ["thing"] (Zf Zcs):=fsc (?i);refine F.ok sc (fun vs H Q E h=>by obtain ⟨a,rfl,_⟩:=h;rfl) ?I;obtain ⟨a,rfl,q⟩:=h;refine' ?J
 case term=>refine' Zi (Zq (Zku (Zm X8 rfl T.b_isinstance Yc (Za (pv 0) (Za (Za7 (v:=.ty "int") rfl T.b_int Zrq rfl) Zb rfl) rfl)) (Zkk (Zvq (Zm X8 rfl T.b_isinstance Yc (Za (pv 0) (Za (Za7 (v:=.ty "bool") rfl T.b_bool Zts rfl) Zb rfl) rfl))))))
 refine ⟨_,rfl,_,_,_,_,rfl,TyOf.int a,rfl,true,rfl,iteT ?_⟩;refine ⟨_,rfl,_,_,_,_,rfl,TyOf.int a,rfl,false,rfl,q⟩
abbrev Zcm:Stmt:=top 14
theorem Zi4 (F:Fun K "multiple" "multiple" Zcm f fd) (Ck_:a1_ P w K mg base):FnOk P w K mg base CX0 3 f fd ["bottoms"] Zkt:=by
 have sc:FnScope ["bottoms","many","bottom"] ["bottoms"] (Zf Zcm):=fsc (?i);refine F.ok sc (fun vs H Q E h=>by obtain ⟨l,ds,k,rfl,_⟩:=h;rfl) ?I;obtain ⟨l,ds,k,rfl,hl,hd,h39,hk39,q⟩:=h;have nd:=sc.nd;refine' ?J
 case term=>refine' Ze (Z0 (i:=1) nd rfl ?o Zd) (Ze (Y7 PassesOwn.never rfl (Yl (pv 0)) (Zk (i:=2) nd rfl ?o) (Zi (Z0 (i:=1) nd rfl ?o (Zp Zy (Zp Xj (pv 1) (Zh Ck_ hr ?e rfl (Za (pv 1) ?Y rfl))) (pv 2))))) (Zi (Zq (pv 1))))
 refine ⟨_,rfl,l,rfl,⟨_,SqL.of hl⟩,?_⟩;refine Yu (n:=ds.length) (fun i σ H2=>H2=H∧∃ (m:Int) (x:Option V),σ=[some (.ref l),some (.int m),x]∧0<m∧(∀ x∈ds.take i,x∣m)∧m.natAbs<2^(k*i+1)) ⟨rfl,1,_,rfl,?k,by simp,by rw [Nat.mul_zero];decide⟩ (fun i σ H2 hi p=>⟨_,V.int ds[i],SqL.of (p.1 ▸ hl),by simp [hi]⟩) (fun σ H2 p=>⟨_,SqL.of (p.1 ▸ hl),by simp⟩) (fun i x σ H2 H3 hi y p=>?_) (fun σ H2 p=>?_)
 · obtain ⟨rfl,m,x',rfl,hm,dv,sz⟩:=p;obtain ⟨rfl,y2⟩:=y;have ex:=y2 _ (SqL.of hl);rw [n5_,n0_ hi] at ex;cases ex
   obtain ⟨b0,b64⟩:=hd ds[i] (n24_ hi);obtain ⟨l1,l2,l3,l4⟩:=Zpk hm b0;have hg:=FM.gcd_ne (t:=m) (b:=ds[i]) (?d);have gz:(Int.gcd m ds[i])<2^k:=n14_ (Nat.gcd_le_right _ (?d)) b64;have sz2:(m.fdiv (Int.gcd m ds[i]:Int)).natAbs<2^(k*i+1):=n14_ l4 sz;have ki:k*i≤3900:=n31_ (Nat.mul_le_mul_left k (Nat.le_of_lt hi)) h39;refine ⟨_,rfl,_,rfl,_,rfl,m,ds[i],rfl,up 4000 b64 (?d),_,_,rfl,rfl,⟨hg,up 8999 gz (?d)⟩,_,rfl,_,_,rfl,rfl,⟨up 1000000 sz2 (?d),up 1000000 b64 (?d)⟩,?_⟩;refine ⟨rfl,_,_,rfl,l1,fun x hx=>?_,?_⟩
   · rw [List.take_succ_eq_append_getElem hi] at hx
     rcases n36_.mp hx with h|h
     · exact Int.dvd_trans (dv x h) l2
     · rw [n18_.mp h];exact l3
   · exact n9_ (FM.natAbs_mul_lt sz2 b64) (n25_ ?e (by rw [Nat.mul_add];omega))
 · obtain ⟨rfl,m,x',rfl,hm,dv,sz⟩:=p;rw [n34_ (n7_ _)] at dv;exact ⟨_,rfl,q m hm dv sz⟩
abbrev Zep:Stmt:=top 15
theorem Zlo (F:Fun K "reduced" "reduced" Zep f fd) (Ck_:a1_ P w K mg base):FnOk P w K mg base CX0 3 f fd ["top","bottom"] Zft:=by
 have sc:FnScope ["top","bottom","common"] ["top","bottom"] (Zf Zep):=fsc (?i);refine F.ok sc (fun vs H Q E h=>by obtain ⟨t,b,rfl,_⟩:=h;rfl) ?I;obtain ⟨t,b,rfl,hb,hz,q⟩:=h;have nd:=sc.nd;refine' ?J
 case term=>refine' Ze (Z0 (i:=2) nd rfl ?o (Zh Ck_ hr ?e rfl (Za (pv 0) ?P rfl))) (Ze (X5 (Z9 Zhr (pv 1) Zd (Yk _)) (Zi (Z0 (i:=2) nd rfl ?o (Zt5 Zq3 (pv 2)))) Yb) (Zi (Zq (Zr (Za (Zp Xj (pv 0) (pv 2)) (Za (Zp Xj (pv 1) (pv 2)) Zb rfl) rfl)))))
 refine ⟨_,rfl,_,rfl,t,b,rfl,hz,?_⟩;have hg:=FM.gcd_ne (t:=t) hb;have hgz:(Int.gcd t b)<2^8999:=n14_ (Nat.gcd_le_right _ (Int.natAbs_pos.mpr hb)) (Zqu hz);have hsg:FM.sg t b≠0:=FM.sg_ne hb
 have hsz:(FM.sg t b).natAbs<2^8999:=by
  unfold FM.sg;split
  · rw [Int.natAbs_neg];exact hgz
  · exact hgz
 have fin:∀ g:Int,g=FM.sg t b→∀ p,H p=none→Q (.ref p) (upd H p (.tup [.int (t.fdiv g),.int (b.fdiv g)])):=by
  rintro g rfl p hp
  rw [FM.fdiv_num hb,FM.fdiv_den hb];exact q p _ (Same.new hp) Zc
 refine ⟨_,rfl,_,_,rfl,rfl,_,rfl,?_⟩;refine ite2 (fun hlt=>?_) (fun hlt=>?_)
 · have hlt':b<0:=n49_ hlt;have e:-(Int.gcd t b:Int)=FM.sg t b:=by unfold FM.sg;rw [if_pos hlt']
   refine ⟨_,rfl,_,rfl,?_⟩;refine ⟨_,rfl,_,rfl,t,_,rfl,rfl,⟨by rw [e];exact hsg,by rw [e];exact hsz⟩,_,rfl,_,rfl,b,_,rfl,rfl,⟨by rw [e];exact hsg,by rw [e];exact hsz⟩,z2_,?_⟩;exact fin _ e
 · have hlt':¬ b<0:=fun z=>hlt (n44_ z);have e:(Int.gcd t b:Int)=FM.sg t b:=by unfold FM.sg;rw [if_neg hlt']
   refine ⟨_,rfl,_,rfl,t,_,rfl,rfl,⟨by rw [e];exact hsg,by rw [e];exact hsz⟩,_,rfl,_,rfl,b,_,rfl,rfl,⟨by rw [e];exact hsg,by rw [e];exact hsz⟩,z2_,?_⟩;exact fin _ e
abbrev Zar:Stmt:=top 16
theorem Zey (F:Fun K "is_fraction" "is_fraction" Zar f fd) (Ck_:a1_ P w K mg base) (Co_:a2_ P w K mg base):FnOk P w K mg base CX0 3 f fd ["thing"] Zbm:=by
 have sc:FnScope ["thing","top","bottom"] ["thing"] (Zf Zar):=fsc (?i);refine F.ok sc (fun vs H Q E h=>by obtain ⟨p,x,rfl,_⟩:=h;rfl) ?I;obtain ⟨p,x,rfl,hp,hB,q⟩:=h;have nd:=sc.nd;refine' ?J
 case term=>refine' Ze (X5 (PW.pt (Zh4 (Xh (Z7 (Zm X8 rfl T.b_isinstance Yc (Za (pv 0) (Za (Za7 (v:=.ty "tuple") rfl T.b_tuple Zt rfl) Zb rfl) rfl)) (fun _=>rfl))) (Zd9 (Z9 Znk (Zm Zs rfl T.b_len Y0 ?Q) Zd (Yk _))))) (Zi (Zq Zca)) Yb) ?g1;case g1=>refine' Ze (Yx (pv 0) (Z2 (n:=2) rfl (Zg (Zk (i:=1) nd rfl ?o) (Zg (Zk (i:=2) nd rfl ?o) Zz)))) ?g2;case g2=>refine' Ze ?g3 (Zi (Zq (Zct Zjm (Zh Ck_ hr ?e rfl (Za (pv 1) ?Y rfl)) Zd (Yk _))));case g3=>refine' X5 ?g4 (Zi (Zq Zca)) Yb;case g4=>refine' PW.pt ?g5;case g5=>refine' Zh4 (Xh (Z7 (Zh Co_ hr ?e rfl ?P) (fun _=>rfl))) (Zh4 (Xh (Z7 (Zh Co_ hr ?e rfl ?Y) (fun _=>rfl))) (Zd9 (Z9 Zhr (pv 2) Zd (Yk _))))
 have hd:=x.den_nz;refine ⟨_,rfl,_,_,_,_,rfl,TyOf.tup hp,rfl,true,rfl,iteF ?_⟩;refine ⟨_,rfl,p,_,rfl,.inr (SqT.of hp),rfl,false,rfl,iteF ?_⟩;refine ⟨_,rfl,p,_,rfl,SqT.of hp,rfl,_,_,rfl,_,_,rfl,rfl,?_⟩;refine ⟨_,rfl,_,rfl,true,rfl,iteF ?_⟩;refine ⟨_,rfl,_,rfl,true,rfl,iteF ?_⟩;refine ⟨_,rfl,_,_,rfl,rfl,_,rfl,?_⟩;rw [show decide ((x.den:Int)<1)=false by exact n35_ (?d)];refine iteF ?_;refine ⟨_,rfl,_,rfl,_,_,rfl,hB.2,rfl,?_⟩;rw [FM.gcd_one x];exact q
abbrev Xy:Stmt:=top 17
theorem Zde (F:Fun K "are_fractions" "are_fractions" Xy f fd) (Cl_:a3_ P w K mg base):FnOk P w K mg base CX0 4 f fd ["thing","many"] Zkc:=by
 have sc:FnScope ["thing","many"] ["thing","many"] (Zf Xy):=fsc (?i);refine F.ok sc (fun vs H Q E h=>by obtain ⟨v,ms,rfl,_⟩:=h;rfl) ?I;obtain ⟨v,ms,rfl,⟨a,us,rfl,ha,al⟩,hB,h1000,q⟩:=h;refine' ?J
 case term=>refine' Ze (X5 (PW.pt (Zh4 (Xh (Z7 (Zm X8 rfl T.b_isinstance Yc (Za (pv 0) (Za (Za7 (v:=.ty "tuple") rfl T.b_tuple Zt rfl) Zb rfl) rfl)) (fun _=>rfl))) (Zd9 (Z9 Znk (Zm Zs rfl T.b_len Y0 ?Q) (pv 1) (Yk _))))) (Zi (Zq Zca)) Yb) (Zi (Zq (Zm (Zag rfl) rfl T.b_all Zfd (Za (Y6 (N:=["part"]) (fr:=[none]) rfl (Zac ?e rfl ?e rfl rfl) (Zai (pv 0)) ?X ?R (fun _ _ _ _=>Zh Cl_ hr ?e rfl ?Q)) Zb rfl))))
 have hl:=al.1;refine ⟨_,rfl,_,_,_,_,rfl,TyOf.tup ha,rfl,true,rfl,iteF ?_⟩;refine ⟨_,rfl,a,us,rfl,.inr (SqT.of ha),_,rfl,rfl,_,rfl,?_⟩;rw [n44_ (show V.int us.length=V.int ms.length by rw [hl])];refine iteF ?_;refine ⟨_,rfl,a,rfl,⟨_,SqT.of ha⟩,fun D nD=>?_⟩;refine lc_T (k:=.t) (vs:=us) RB hRB (List.replicate us.length true) ?f (?d) nD ha (fun i w H2 C hw s2 c=>?_) (fun H2 us' s2 e2 a2=>?_)
 · obtain ⟨x,ex,p,rfl,hp⟩:=al.get hw;exact ⟨_,rfl,p,x,rfl,s2 _ _ hp,hB x (n17_ ex),c _ _ true (Same.refl _) (repT (Zef hw)) rfl⟩
 · rw [a2.bls] at e2;refine ⟨D,List.replicate us.length true,rfl,SqL.of e2,?_⟩;rw [allT];exact q _ s2
abbrev Zap:Stmt:=top 18
theorem Zg2 (F:Fun K "levelled" "levelled" Zap f fd) (Caq_:a4_ P w K mg base):FnOk P w K mg base CX0 4 f fd ["parts"] Zn8:=by
 have sc:FnScope ["parts","many"] ["parts"] (Zf Zap):=fsc (?i);refine F.ok sc (fun vs H Q E h=>by obtain ⟨l,us,ps,k,rfl,_⟩:=h;rfl) ?I;obtain ⟨l,us,ps,k,rfl,hl,al,hB,h39,hk39,h1000,q⟩:=h;have nd:=sc.nd;refine' ?J
 case term=>refine' Ze (Z0 (i:=1) nd rfl (Or.inr rfl) (Zh Caq_ hr ?e rfl (Za (Y6 (g:=?ak) (N:=["top","bottom"]) (fr:=[none,none]) rfl (Zac ?e rfl ?e rfl rfl) (Yl (pv 0)) ?am ?R (fun _ _ _ _=>pv 1)) Zb rfl))) (Zi (Zq (Zr (Za (Y6 (g:=?ak) (N:=["top","bottom","many"]) (fr:=[none,none,some 1]) rfl (Z1 (XN:=["parts","many"]) (Scope.names (Zf Zap)) rfl rfl rfl (fun _ h=>Zx h) (?i) rfl) (Yl (pv 0)) ?am ?R (fun _ _ _ _=>Zp Zy (pv 0) (Zp Xj (pv 2) (pv 1)))) ?P rfl))))
 have hl2:=al.1;refine ⟨_,rfl,l,rfl,⟨_,SqL.of hl⟩,fun D nD=>?_⟩;refine Zt6 (k:=.l) (vs:=us) RI hRI (ps.map fun x=>x.2) (by simp [hl2]) (?d) nD hl (Zrj al) (fun i p x y H2 C hw hp s2 c=>?_) (fun H2 us' s2 e2 a2=>?_)
 · obtain ⟨x',ex,rfl,rfl⟩:=Zut al hw hp;exact ⟨_,rfl,c _ _ _ (Same.refl _) (by rw [n5_,ex];rfl) rfl⟩
 · rw [a2.ints] at e2;refine ⟨D,_,k,rfl,e2,fun x hx=>?_,by rw [n3_];exact h39,hk39,fun m hm dv sz=>?_⟩
   · obtain ⟨x',hx',rfl⟩:=n21_.mp hx;exact (hB x' hx').1
   · rw [n3_] at sz;have dv':∀ p∈ps,p.2∣m:=fun x hx=>dv _ (n21_.mpr ⟨x,hx,rfl⟩);refine ⟨_,rfl,l,rfl,⟨_,SqL.of (s2 _ _ hl)⟩,fun E nE=>?_⟩;have al2:Al (IsP H2) us ps:=al.imp fun v x r=>r.tk s2.tk;refine Zt6 (k:=.l) (vs:=us) RI hRI (ps.map (levP m)) (by simp [hl2]) (?d) nE (s2 _ _ hl) (Zrj al2) (fun i p x y H4 C hw hp s4 c=>?_) (fun H4 us'' s4 e4 a4=>?_)
     · obtain ⟨x',ex,rfl,rfl⟩:=Zut al2 hw hp;obtain ⟨⟨b0,b1⟩,t1⟩:=hB x' (n17_ ex);have d1:=Xu b0 (dv' x' (n17_ ex)) sz;exact ⟨_,rfl,_,rfl,_,rfl,m,_,rfl,rfl,⟨?d,up 8999 b1 (?d)⟩,_,_,rfl,rfl,Zka (n:=4000) (up 4000 t1 (?d)) (up 4000 d1 (?d)),c _ _ _ (Same.refl _) (by rw [n5_,ex];rfl) rfl⟩
     · rw [a4.ints] at e4;refine ⟨_,rfl,z2_,fun p np=>?_⟩;have s5:Same H4 (upd H4 p (.tup [.ref E,.int m])):=Same.new np;exact q _ p E m (s2.trans (s4.trans s5)) Zc (s5 _ _ e4) hm dv' sz
abbrev Zcq:Stmt:=top 19
theorem Zpw (F:FunD K "mixed" "mixed" Zcq f fd) (Cal_:a5_ P w K mg base) (Cau_:a6_ P w K mg base):FnOk P w K mg base CX0 5 f fd ["weights","parts","bottom"] Zgu:=by
 have sc:FnScope ["weights","parts","bottom","tops","many"] ["weights","parts","bottom"] (Zf Zcq):=fsc (?i);refine F.ok sc (fun vs H Q E h=>by obtain ⟨a,l,us,ps,b,rfl,_⟩:=h;rfl) ?I;obtain ⟨a,l,us,ps,b,rfl,ha,hl,al,hB,h40,hb0,hb1,q⟩:=h;have nd:=sc.nd;refine' ?J
 case term=>refine' Ze (Yx (Zh Cal_ hr ?e rfl ?P) (Z2 (n:=2) rfl (Zg (Zk (i:=3) nd rfl ?o) (Zg (Zk (i:=4) nd rfl ?o) Zz)))) (Zi (Zq (Zh Cau_ hr ?e rfl (Za (Zm (Zn0 rfl) rfl T.b_sum Zt2 (Za (Y6 (g:=?ak) (N:=["weight","top"]) (fr:=[none,none]) rfl (Zac ?e rfl ?e rfl rfl) (Zif .l .l rfl T.b_zip (Za (pv 0) (Za (pv 3) Zb rfl) rfl)) ?am ?R (fun _ _ _ _=>Zp Zy (pv 0) (pv 1))) Zb rfl)) (Za (Zp Zy (pv 4) (pv 2)) Zb rfl) rfl))))
 have hl2:=al.1;refine ⟨_,rfl,l,us,ps,71,rfl,hl,al,hB,?d,?k,?d,fun H1 r t m s1 hr1 ht1 mp dv sz=>?_⟩;refine ⟨r,_,rfl,SqT.of hr1,rfl,_,_,rfl,_,_,rfl,rfl,?_⟩;have mz:m.natAbs<2^2850:=up 2850 sz (?d);refine ⟨_,rfl,_,rfl,a,t,rfl,⟨_,SqL.of (s1 _ _ ha)⟩,⟨_,SqL.of ht1⟩,fun D nD=>?_⟩;refine lc_Z (k:=.l) (l:=.l) (vs:=List.replicate ps.length (.int 1)) (ws:=(ps.map (levP m)).map V.int) RI hRI (ps.map (levP m)) ?f (by simp;omega) nD (s1 _ _ ha) ht1 (fun i v w H2 C hv hw s2 c=>?_) (fun H2 us s2 e2 a2=>?_)
 · rw [n5_] at hw;obtain ⟨y,ey,rfl⟩:=n10_.mp hw;rw [List.getElem?_replicate] at hv;split at hv
   · cases hv
     have hy:y.natAbs<2^4000:=by
      obtain ⟨p,hp,rfl⟩:=n21_.mp (n17_ ey);exact up 4000 (Zsl (hB p hp).1.1 (dv p hp) mz (hB p hp).2)
     refine ⟨_,rfl,_,rfl,1,y,rfl,rfl,Zka (n:=4000) (Nat.one_lt_two_pow ?e) hy,?_⟩;show C (V.int (1*y)) H2
     rw [Int.one_mul];exact c _ _ _ (Same.refl _) ey rfl
   · cases hv
 · rw [a2.ints] at e2;refine ⟨D,_,rfl,SqL.of e2,_,rfl,_,rfl,_,_,rfl,rfl,Zka (n:=2850) mz (up 2850 hb1),_,_,rfl,Int.mul_ne_zero (?d) hb0,up 4000 (FM.natAbs_mul_lt mz hb1),fun p H3 s3 hp=>?_⟩;refine q _ _ (s1.trans (s2.trans s3)) ⟨p,rfl,?_⟩;rw [hp];have e:=Znm ps fun p hp=>⟨(hB p hp).1.1,dv p hp⟩
   have:Rat.divInt (ps.map (levP m)).sum (m*b)=rsum ps/b:=by
    rw [n68_,e,n30_];have h1:=Xf (show m≠0 by omega);have h2:=Xf hb0;generalize rsum ps=S at *
    grind
   rw [this]
abbrev Zaj:Stmt:=top 21
theorem Zew (F:Fun K "are_rising" "are_rising" Zaj f fd):FnOk P w K mg base CX0 1 f fd ["things"] Ze8:=by
 have sc:FnScope ["things"] ["things"] (Zf Zaj):=fsc (?i);refine F.ok sc (fun vs H Q E h=>by obtain ⟨a,ns,rfl,_⟩:=h;rfl) ?I;obtain ⟨a,ns,rfl,ha,hz,hr',q⟩:=h;refine' ?J
 case term=>refine' Zi (Zq (Zm (Zag rfl) rfl T.b_all Zfd (Za (Y6 (g:=?ak) (N:=["one","other"]) (fr:=[none,none]) rfl (Zac ?e rfl ?e rfl rfl) (Zif .t .t rfl T.b_zip (Za (pv 0) (Za (Zfz Zoi (pv 0) (Zik Zd) Zi5) Zb rfl) rfl)) ?am ?R (fun _ _ _ _=>Zct Zhr (pv 0) (pv 1) (Yk _))) Zb rfl)))
 refine ⟨_,rfl,_,rfl,_,rfl,a,_,rfl,ha,fun p H1 s1 h1=>?_⟩;rw [cut1] at h1;refine ⟨a,p,rfl,⟨_,SqT.of (s1 _ _ ha)⟩,⟨_,SqT.of h1⟩,fun D nD=>?_⟩;refine lc_Z (k:=.t) (l:=.t) (vs:=ns.map V.int) (ws:=(ns.map V.int).drop 1) (fun _ v b=>v=V.bl b) (fun _ _ _ _ _ e=>e) (List.replicate (ns.length-1) true) ?f (by simp;omega) nD (s1 _ _ ha) h1 (fun i v w H2 C hv hw s2 c=>?_) (fun H2 us s2 e2 a2=>?_)
 · rw [List.getElem?_drop,n5_,Nat.add_comm] at hw;rw [n5_] at hv;obtain ⟨x,ex,rfl⟩:=n10_.mp hv;obtain ⟨y,ey,rfl⟩:=n10_.mp hw;refine ⟨_,rfl,_,rfl,_,_,rfl,rfl,qT (hr' i x y ex ey) (c _ _ true (Same.refl _) ?_ rfl)⟩
   have:i+1<ns.length:=(n22_.mp ey).1
   rw [List.getElem?_replicate,if_pos (?d)]
 · rw [a2.bls] at e2;refine ⟨D,List.replicate (ns.length-1) true,rfl,SqL.of e2,?_⟩;rw [List.all_replicate];split<;>exact q _ (s1.trans s2)
abbrev Zbr:Stmt:=top 23
theorem Zho (F:Fun K "is_one_of" "is_one_of" Zbr f fd) (Co_:a2_ P w K mg base):FnOk P w K mg base CX0 2 f fd ["known","thing"] Zic:=by
 have sc:FnScope ["known","thing"] ["known","thing"] (Zf Zbr):=fsc (?i);refine F.ok sc (fun vs H Q E h=>by obtain ⟨l,ns,x,rfl,_⟩:=h;rfl) ?I;obtain ⟨l,ns,x,rfl,hl,hx,q⟩:=h;refine' ?J
 case term=>refine' Zi (Zq (Zku (Zh Co_ hr ?e rfl ?P) (Zkk (Zct Zn6 (pv 1) (pv 0) rfl))))
 refine ⟨_,rfl,x,rfl,true,rfl,?_⟩;refine ⟨_,rfl,_,rfl,l,_,rfl,hl.imp (fun e=>SqL.of e) (fun e=>SqT.of e),rfl,by rw [List.all_map];exact n52_.mpr ?l,?_⟩;rw [Zk3,n44_ hx];exact q
abbrev Xo:Stmt:=top 24
theorem Ze3 (F:Fun K "are_some_of" "are_some_of" Xo f fd) (Cab_:a7_ P w K mg base) (Cs_:a8_ P w K mg base):FnOk P w K mg base CX0 3 f fd ["known","thing"] Zd6:=by
 have sc:FnScope ["known","thing"] ["known","thing"] (Zf Xo):=fsc (?i);refine F.ok sc (fun vs H Q E h=>by obtain ⟨l,a,n,ks,rfl,_⟩:=h;rfl) ?I;obtain ⟨l,a,n,ks,rfl,hl,ha,rise,lt,n60,q⟩:=h;refine' ?J
 case term=>refine' Ze ?g1 (Zi (Zq (Zh Cab_ hr ?e rfl ?P)));case g1=>refine' X5 ?g2 (Zi (Zq Zca)) Yb;case g2=>refine' PW.pt ?g3;case g3=>refine' Zh4 (Xh (Z7 (Zm X8 rfl T.b_isinstance Yc (Za (pv 1) (Za (Za7 (v:=.ty "tuple") rfl T.b_tuple Zt rfl) Zb rfl) rfl)) (fun _=>rfl))) ?g4;case g4=>refine' Zd9 ?g5;case g5=>refine' Xh ?g6;case g6=>refine' Z7 (Zm (Zag rfl) rfl T.b_all Zfd (Za (Y6 (N:=["part","known"]) (fr:=[none,some 0]) rfl (Z1 (XN:=["known","thing"]) (Scope.names (Zf Xo)) rfl rfl rfl (fun _ h=>Zx h) (?i) rfl) (Zai (pv 1)) ?X ?R (fun _ _ _ _=>Zh Cs_ hr ?e rfl (Za (pv 1) ?Q rfl))) Zb rfl)) (fun _=>rfl)
 have lk:ks.length≤60:=by
  have:=Zaq (m:=0) rise fun k hk=>⟨n47_ _,lt k hk⟩
  omega
 refine ⟨_,rfl,_,_,_,_,rfl,TyOf.tup ha,rfl,true,rfl,iteF ?_⟩;refine ⟨_,rfl,a,rfl,⟨_,SqT.of ha⟩,fun D nD=>?_⟩;refine lc_T (k:=.t) (vs:=?Z) RB hRB (List.replicate ks.length true) ?f (by simp;omega) nD ha (fun i w H2 C hw s2 c=>?_) (fun H2 us' s2 e2 a2=>?_)
 · rw [n5_] at hw;obtain ⟨x,ex,rfl⟩:=n10_.mp hw;rw [n5_] at ex;obtain ⟨k,ek,rfl⟩:=n10_.mp ex;have hk:=n17_ ek;exact ⟨_,rfl,_,rfl,l,_,_,rfl,.inl (s2 _ _ hl),n21_.mpr ⟨k,n32_.mpr (lt k hk),rfl⟩,c _ _ true (Same.refl _) (repT (Zef ek)) rfl⟩
 · rw [a2.bls] at e2;refine ⟨D,List.replicate ks.length true,rfl,SqL.of e2,?_⟩;rw [allT];refine ⟨true,rfl,iteF ?_⟩;refine ⟨_,rfl,a,nI ks,rfl,s2 _ _ ha,by simp;omega,fun i x y e1 e2=>?_,fun H3 s3=>q _ (s2.trans s3)⟩;rw [n5_] at e1 e2;obtain ⟨k,ek,rfl⟩:=n10_.mp e1;obtain ⟨m,em,rfl⟩:=n10_.mp e2;obtain ⟨i1,f1⟩:=n22_.mp ek;obtain ⟨i2,f2⟩:=n22_.mp em
   have:=n84_.mp rise i (i+1) i1 i2 (n87_ i)
   omega
abbrev Ziv:Stmt:=top 26
theorem Zpr (F:Fun K "added" "added" Ziv f fd) (Cav_:CalD P w K mg base "mixed" 5 ["weights","parts","bottom"] [.int 1] Zgu):FnOk P w K mg base CX0 6 f fd ["terms"] Zj2:=by
 have sc:FnScope ["terms"] ["terms"] (Zf Ziv):=fsc (?i);refine F.ok sc (fun vs H Q E h=>by obtain ⟨l,us,ps,rfl,_⟩:=h;rfl) ?I;obtain ⟨l,us,ps,rfl,hl,al,hB,h40,q⟩:=h;refine' ?J
 case term=>refine' Zi (Zq (Zsw Cav_ hr ?e rfl (Za (Zp Zmm (Yj ?G) (Zm Zs rfl T.b_len Y0 ?Q)) ?Q rfl)))
 have hl2:=al.1;refine ⟨z1_,fun y ny=>?_⟩;generalize gG:upd H y (.lst [.int 1])=H1;obtain ⟨s1,e1⟩:=gen_upd gG ny;refine ⟨_,rfl,l,us,rfl,.inl (SqL.of (s1 _ _ hl)),y,us.length,_,rfl,rfl,e1,?d,?d,by simp;rw [sizeLine_eq];omega,fun C nC=>?_⟩;rw [n63_,Zce,hl2];generalize gG:upd H1 C (.lst (List.replicate ps.length (.int 1)))=H2;obtain ⟨s2,e2⟩:=gen_upd gG nC;have s12:=s1.trans s2;refine ⟨_,rfl,C,l,us,ps,1,rfl,e2,s12 _ _ hl,al.imp fun v x r=>r.tk s12.tk,hB,h40,?k,?k,fun H3 v s3 hv=>q _ _ (s12.trans s3) ?_⟩
 have:rsum ps/((1:Int):Rat)=rsum ps:=by
  have:((1:Int):Rat)=1:=rfl
  rw [this];grind
 rw [this] at hv;exact hv
abbrev Xp:Stmt:=top 29
theorem Zii (F:Fun K "is_table" "is_table" Xp f fd) (Cg_:a9_ P w K mg base):FnOk P w K mg base CX0 5 f fd ["thing","many"] Zfl:=by
 have sc:FnScope ["thing","many"] ["thing","many"] (Zf Xp):=fsc (?i);refine F.ok sc (fun vs H Q E h=>by obtain ⟨v,ks,f,rfl,_⟩:=h;rfl) ?I;obtain ⟨v,ks,f,rfl,⟨a,us,rfl,ha,al⟩,sy,bf,l60,q⟩:=h;refine' ?J
 case term=>refine' Ze (X5 (PW.pt (Zh4 (Xh (Z7 (Zm X8 rfl T.b_isinstance Yc (Za (pv 0) (Za (Za7 (v:=.ty "tuple") rfl T.b_tuple Zt rfl) Zb rfl) rfl)) (fun _=>rfl))) (Zd9 (Z9 Znk (Zm Zs rfl T.b_len Y0 ?Q) (pv 1) (Yk _))))) (Zi (Zq Zca)) Yb) ?g1;case g1=>refine' Ze ?g2 (Zi (Zq (Zm (Zag rfl) rfl T.b_all Zfd (Za (Y6 (g:=?ak) (N:=["at","row","thing"]) (fr:=[none,none,some 0]) rfl (Z1 (XN:=["thing","many"]) (Scope.names (Zf Xp)) rfl rfl rfl (fun _ h=>Zx h) (?i) rfl) (Zei .t rfl T.b_enumerate ?Q) (fun _ _ _ _=>Z2 (n:=2) rfl (Zg (Zk (i:=0) (show List.Nodup (["at","row","thing"]:List Str) by decide) rfl (Or.inr rfl) ?o) (Zg (pgB 1) Zz))) ?R (fun _ _ _ _=>Zct (Zve Zv2 (Zvd hr)) (pv 1) (Zo (Ye K rfl) rfl T.b_tuple Zt (Za (Y6 (N:=["other","at"]) (fr:=[none,some 0]) rfl (Z1 (XN:=["at","row","thing"]) (relN _ (Scope.names (Zf Xp))) rfl rfl rfl (fun _ h=>Zad (?i) h) (?i) rfl) (Zi1 K rfl (pv 2)) ?X ?R (fun _ _ _ _=>Zv (Zet K rfl) (pv 0) (pv 1) (?l))) Zb rfl)) (Yk _))) Zb rfl))));case g2=>refine' X5 ?g3 (Zi (Zq Zca)) Yb;case g3=>refine' Xh ?g4;case g4=>refine' Z7 (Zm (Zag rfl) rfl T.b_all Zfd (Za (Y6 (N:=["row","many"]) (fr:=[none,some 1]) rfl (Z1 (XN:=["thing","many"]) (Scope.names (Zf Xp)) rfl rfl rfl (fun _ h=>Zx h) (?i) rfl) (Zai (pv 0)) ?X ?R (fun _ _ _ _=>Zh Cg_ hr ?e rfl (Za (pv 0) ?P rfl))) Zb rfl)) (fun _=>rfl)
 have hl:us.length=ks.length:=by rw [al.1];simp
 refine ⟨_,rfl,_,_,_,_,rfl,TyOf.tup ha,rfl,true,rfl,iteF ?_⟩;refine ⟨_,rfl,a,us,rfl,.inr (SqT.of ha),_,rfl,rfl,_,rfl,?_⟩;rw [n44_ (show V.int us.length=V.int ks.length by rw [hl])];refine iteF ?_
 have row:∀ {i:Nat} {w:V},us[i]? = some w→∃ x,(nI ks)[i]? = some x∧IsQs H w ((nI ks).map fun o=>f (x,o)):=fun hw=>by
  obtain ⟨r,er,hr⟩:=al.get hw;rw [n5_] at er;obtain ⟨x,ex,rfl⟩:=n10_.mp er;exact ⟨x,ex,hr⟩
 refine ⟨_,rfl,a,rfl,⟨_,SqT.of ha⟩,fun D nD=>?_⟩;refine lc_T (k:=.t) (vs:=us) RB hRB (List.replicate us.length true) ?f (?d) nD ha (fun i w H2 C hw s2 c=>?_) (fun H2 us' s2 e2 a2=>?_)
 · obtain ⟨x,ex,hx⟩:=row hw;refine ⟨_,rfl,_,rfl,w,_,by rw [n3_,n3_],Z5 s2.tk hx,fun q' hq'=>?_,by simp;omega,fun H3 s3=>c _ _ true s3 (repT (Zef hw)) rfl⟩;obtain ⟨o,_,rfl⟩:=n21_.mp hq';exact (bf _).1.mono ?e
 · rw [a2.bls] at e2;refine ⟨D,List.replicate us.length true,rfl,SqL.of e2,?_⟩;rw [allT];refine ⟨true,rfl,iteF ?_⟩;refine ⟨_,rfl,a,rfl,⟨_,SqT.of (s2 _ _ ha)⟩,fun E nE=>?_⟩;refine Zee (n:=us.length) RB hRB (List.replicate us.length true) ?f (?d) (fun σ=>∃ u u',σ=[u,u',some (.ref a)]) ⟨_,_,rfl⟩ nE (fun i H3 s3 hi=>⟨us,us[i],SqT.of (s3 _ _ (s2 _ _ ha)),n0_ hi⟩) (fun H3 s3=>⟨us,SqT.of (s3 _ _ (s2 _ _ ha)),rfl⟩) (fun i x σ3 H3 H4 C hi s3 y o c=>?_) (fun H3 us3 s3 e3 a3=>?_)
   · obtain ⟨u,u',rfl⟩:=o;obtain ⟨g,x',rfl,ng,rfl,yx⟩:=y;have hw:=yx _ (SqT.of (s3 _ _ (s2 _ _ ha)));obtain ⟨x,ex,hx⟩:=row hw;generalize gG:upd H3 g (.tup [.int i,x'])=H4;obtain ⟨s4,e4⟩:=gen_upd gG ng;have s04:=s2.trans (s3.trans s4);refine ⟨g,_,rfl,SqT.of e4,rfl,_,_,rfl,_,_,rfl,rfl,?_⟩;refine ⟨_,rfl,_,rfl,a,rfl,⟨_,SqT.of (s04 _ _ ha)⟩,fun D2 nD2=>?_⟩;refine lc_T (k:=.t) (vs:=us) IsQ hRQ ((nI ks).map fun o=>f (o,x)) (by simp [hl]) (?d) nD2 (s04 _ _ ha) (fun j w H5 C' hj s5 c'=>?_) (fun H5 us5 s5 e5 a5=>?_)
     · obtain ⟨y,ey,p,ps,rfl,ep,ap⟩:=row hj;obtain ⟨z,ez,hz⟩:=ap.got (show ((nI ks).map fun o=>f (y,o))[i]? = some (f (y,x)) by rw [n5_,ex];rfl);exact ⟨_,rfl,_,rfl,p,ps,(i:Nat),z,rfl,rfl,SqT.of (s5 _ _ (s04 _ _ ep)),Ys ez,c' _ _ _ (Same.refl _) (by rw [n5_,ey];rfl) (hz.tk (s04.trans s5).tk)⟩
     · refine ⟨D2,us5,rfl,.inl ⟨SqL.of e5,fun r nr=>?_⟩⟩;have s6:Same H5 (upd H5 r (.tup us5)):=Same.new nr;refine ⟨_,_,Z5 (s04.trans (s5.trans s6)).tk hx,⟨r,us5,rfl,Zc,a5.imp fun v x r=>r.tk s6.tk⟩,?_⟩;rw [show ((nI ks).map fun o=>f (x,o))=(nI ks).map fun o=>f (o,x) from n57_ fun o _=>sy x o,n44_ rfl];exact c _ _ _ true ⟨_,_,rfl⟩ (s4.trans (s5.trans s6)) (repT hi) rfl
   · rw [a3.bls] at e3;refine ⟨E,List.replicate us.length true,rfl,SqL.of e3,?_⟩;rw [allT];exact q _ (s2.trans s3)
abbrev Zcr:Stmt:=top 30
theorem Ziu (F:Fun K "is_frame" "is_frame" Zcr f fd) (Cg_:a9_ P w K mg base) (Cac_:a10_ P w K mg base) (Car_:a11_ P w K mg base):FnOk P w K mg base CX0 6 f fd ["thing"] Zfn:=by
 have sc:FnScope ["thing","ways","table","rights"] ["thing"] (Zf Zcr):=fsc (?i);refine F.ok sc (fun vs H Q E h=>by obtain ⟨v,ks,f,g,rfl,_⟩:=h;rfl) ?I;obtain ⟨v,ks,f,g,rfl,hv,ok,q⟩:=h;have nd:=sc.nd;refine' ?J
 case term=>refine' Ze (X5 (PW.pt (Zh4 (Xh (Z7 (Zm X8 rfl T.b_isinstance Yc (Za (pv 0) (Za (Za7 (v:=.ty "tuple") rfl T.b_tuple Zt rfl) Zb rfl) rfl)) (fun _=>rfl))) (Zd9 (Z9 Znk (Zm Zs rfl T.b_len Y0 ?Q) Zd (Yk _))))) (Zi (Zq Zca)) Yb) (Ze (Yx (pv 0) (Z2 (n:=3) rfl (Zg (Zk (i:=1) nd rfl ?o) (Zg (Zk (i:=2) nd rfl ?o) (Zg (Zk (i:=3) nd rfl ?o) Zz))))) (Ze (X5 (Xh (Z7 (Zh Cac_ hr ?e rfl (Za (Zo (Zfh rfl) rfl T.b_list Zi0 (Za (Zq2 rfl T.b_range (Za (Zmv T.n_MOST_WAYS rfl) Zb rfl)) Zb rfl)) ?P rfl)) (fun _=>rfl))) (Zi (Zq Zca)) Yb) (Zi (Zq (Zku (Zh Car_ hr ?e rfl (Za (pv 2) (Za (Zm Zs rfl T.b_len Y0 ?P) Zb rfl) rfl)) (Zkk (Zh Cg_ hr ?e rfl (Za (pv 3) (Za (Zm Zs rfl T.b_len Y0 ?P) Zb rfl) rfl))))))))
 obtain ⟨a,wv,rv,zv,rfl,ha,⟨wa,rfl,hw⟩,hr',hz⟩:=id hv;have l12:=ok.le;refine ⟨_,rfl,_,_,_,_,rfl,TyOf.tup ha,rfl,true,rfl,iteF ?_⟩;refine ⟨_,rfl,a,_,rfl,.inr (SqT.of ha),rfl,false,rfl,iteF ?_⟩;refine ⟨_,rfl,a,_,rfl,SqT.of ha,rfl,_,_,rfl,_,_,rfl,_,_,rfl,rfl,?_⟩;refine ⟨_,rfl,fun R nR=>?_⟩;generalize gG:upd H R (.rng 0 60)=H1;obtain ⟨s1,e1⟩:=gen_upd gG nR;refine ⟨R,60,rfl,e1,?k,fun L nL=>?_⟩;have s2:Same H1 (upd H1 L (.lst ((List.range 60).map fun i:Nat=>V.int i))):=Same.new nL;have e2:upd H1 L (.lst ((List.range 60).map fun i:Nat=>V.int i)) L=some (.lst ((nI (List.range 60)).map V.int)):=by rw [Zc,List.map_map];rfl
 generalize upd H1 L (.lst ((List.range 60).map fun i:Nat=>V.int i))=H2 at s2 e2 ⊢;have s02:=s1.trans s2;refine ⟨_,rfl,L,wa,60,ks,rfl,e2,s02 _ _ hw,ok.rise,ok.lt,?k,fun H3 s3=>⟨true,rfl,iteF ?_⟩⟩;have s03:=s02.trans s3;have ln:(?Z).length=ks.length:=by simp
 refine ⟨_,rfl,_,rfl,wa,_,rfl,.inr (SqT.of (s03 _ _ hw)),rv,ks,f,by rw [ln],Zdr s03.tk hr',ok.sy,ok.bf,?d,fun H4 s4=>?_⟩;have s04:=s03.trans s4;refine ⟨true,rfl,iteT ?_⟩;refine ⟨_,rfl,_,rfl,wa,_,rfl,.inr (SqT.of (s04 _ _ hw)),zv,_,by rw [ln,n3_,n3_],Z5 s04.tk hz,fun q' hq'=>?_,by simp;omega,fun H5 s5=>q _ (s04.trans s5)⟩;obtain ⟨o,_,rfl⟩:=n21_.mp hq';exact (ok.bg _).1.mono ?e
abbrev Xs:Stmt:=top 31
theorem Zdg (F:Fun K "look_at_frame" "look_at_frame" Xs f fd) (Cas_:a12_ P w K mg base):FnOk P w K mg base CX0 7 f fd ["frame"] Zia:=by
 have sc:FnScope ["frame"] ["frame"] (Zf Xs):=fsc (?i);refine F.ok sc (fun vs H Q E h=>by obtain ⟨v,ks,f,g,rfl,_⟩:=h;rfl) ?I;obtain ⟨v,ks,f,g,rfl,hv,ok,q⟩:=h;refine' ?J
 case term=>refine' Zi (X5 (Xh (Z7 (Zh Cas_ hr ?e rfl ?Q) (fun _=>rfl))) Zem Yb)
 exact ⟨_,rfl,v,ks,f,g,rfl,hv,ok,fun H' s=>⟨true,rfl,iteF (q _ s)⟩⟩
abbrev Xg:Stmt:=top 32
theorem Zed (F:Fun K "are_loads_of" "are_loads_of" Xg f fd) (Cl_:a3_ P w K mg base) (Cs_:a8_ P w K mg base):FnOk P w K mg base CX0 4 f fd ["frame","thing"] Zd0:=by
 have sc:FnScope ["frame","thing"] ["frame","thing"] (Zf Xg):=fsc (?i);refine F.ok sc (fun vs H Q E h=>by obtain ⟨v,L,ks,f,g,kvs,rfl,_⟩:=h;rfl) ?I;obtain ⟨v,L,ks,f,g,kvs,rfl,hv,hL,hk,l60,q⟩:=h;refine' ?J
 case term=>refine' Ze (X5 (Xh (Z7 (Zm X8 rfl T.b_isinstance Yc (Za (pv 1) (Za (Za7 (v:=.ty "dict") rfl T.b_dict Zil rfl) Zb rfl) rfl)) (fun _=>rfl))) (Zi (Zq Zca)) Yb) (Zi (Zq (Zm (Zag rfl) rfl T.b_all Zfd (Za (Y6 (g:=?ak) (N:=["way","load","frame"]) (fr:=[none,none,some 0]) rfl (Z1 (XN:=["frame","thing"]) (Scope.names (Zf Xg)) rfl rfl rfl (fun _ h=>Zx h) (?i) rfl) (Zn9 (pv 1)) ?am ?R (fun _ _ _ _=>Zku (Zh Cs_ hr ?e rfl (Za (Zv (Zet K rfl) (pv 2) Zd (?l)) ?Q rfl)) (Zkk (Zh Cl_ hr ?e rfl ?P)))) Zb rfl))))
 obtain ⟨a,wv,rv,zv,rfl,ha,⟨wa,rfl,hw⟩,_⟩:=id hv;refine ⟨_,rfl,_,_,_,_,rfl,TyOf.dK hL,rfl,true,rfl,iteF ?_⟩;refine ⟨_,rfl,L,kvs,rfl,hL,fun o D nD=>?_⟩;have k1:Keep L H (upd H L (.frz o ?E)):=Keep.upd;have e1:upd H L (.frz o ?E) L=some (.frz o ?E):=Zc;have t1:Tk H (upd H L (.frz o ?E)):=fun b xs e=>by rw [Zl fun z=>by rw [z,hL] at e;cases e];exact e
 generalize upd H L (.frz o ?E)=H1 at k1 e1 t1 nD ⊢;refine Zee (n:=kvs.length) RB hRB (List.replicate kvs.length true) ?f (?d) (fun σ=>∃ u u',σ=[u,u',some (.ref a)]) ⟨_,_,rfl⟩ nD (fun i H2 s2 hi=>⟨kvs,s2 _ _ e1,hi⟩) (fun H2 s2=>⟨kvs,s2 _ _ e1,n7_ _⟩) (fun i x σ2 H2 H3 C hi s2 y oo c=>?_) (fun H2 us s2 e2 a2=>?_)
 · obtain ⟨u,u',rfl⟩:=oo;obtain ⟨gg,key,w',rfl,ng,rfl,yx⟩:=y;have ek:=yx _ (s2 _ _ e1);obtain ⟨x,qq,rfl,hx,⟨p,rfl,hp⟩,hB⟩:∃ x qq,key=.inl x∧x∈nI ks∧IsQ H w' qq∧FM.B 4000 qq:=hk _ (n17_ ek);have s3:Same H2 (upd H2 gg (.tup [.int x,.ref p])):=Same.new ng;have e3:upd H2 gg (.tup [.int x,.ref p]) gg=some (.tup [.int x,.ref p]):=Zc;generalize hG:upd H2 gg (.tup [.int x,.ref p])=H3 at s3 e3;rw [show upd H2 gg (.tup [kV (.inl x),.ref p])=H3 from hG];have t3:=t1.trans (s2.trans s3).tk;exact ⟨gg,_,rfl,SqT.of e3,rfl,_,_,rfl,_,_,rfl,rfl,_,rfl,a,_,0,_,rfl,rfl,SqT.of (t3 _ _ ha),rfl,_,rfl,wa,nI ks,x,rfl,.inr (t3 _ _ hw),hx,true,rfl,iteT ⟨_,rfl,p,qq,rfl,t3 _ _ hp,hB,c _ _ _ true ⟨_,_,rfl⟩ s3 (repT hi) rfl⟩⟩
 · rw [a2.bls] at e2;refine ⟨D,List.replicate kvs.length true,rfl,SqL.of e2,?_⟩;rw [allT];exact q _ o (k1.trans s2.keep) (s2 _ _ e1)
abbrev Zbk:Stmt:=top 33
theorem Zjp (F:Fun K "table_of" "table_of" Zbk f fd):FnOk P w K mg base CX0 2 f fd ["frame"] Ze7:=by
 have sc:FnScope ["frame","ways","table","rights"] ["frame"] (Zf Zbk):=fsc (?i);refine F.ok sc (fun vs H Q E h=>by obtain ⟨v,ks,f,g,rfl,_⟩:=h;rfl) ?I;obtain ⟨v,ks,f,g,rfl,hv,ok,q⟩:=h;have nd:=sc.nd;have hu:=Zlq hr;have hu1:=Nat.lt_of_succ_lt hu;refine' ?J
 case term=>refine' Ze (Yx (pv 0) (Z2 (n:=3) rfl (Zg (Zk (i:=1) nd rfl (Or.inr rfl)) (Zg (Zk (i:=2) nd rfl ?o) (Zg (Zk (i:=3) nd rfl ?o) Zz))))) ?g1;case g1=>refine' Zi ?g2;case g2=>refine' Zq (Zuz (g0:=?ak) (g1:=(gTup K 2 (Xx (Xb 2) (Xx (Xb 3) gNil)))) (N:=["way","row","other","part","ways"]) (fr:=[none,none,none,none,some 1]) hu1 rfl (Z1 (XN:=["frame","ways","table","rights"]) (Scope.names (Zf Zbk)) rfl rfl rfl (fun _ h=>Zx h) (?i) rfl) (Zif .t .t rfl T.b_zip (Za (pv 1) ?Y rfl)) ?am (fun _ _ _ _=>Zsu K rfl .t .t rfl T.b_zip (Za (pv 4) ?P rfl)) (fun _ _ _ _=>Z2 (n:=2) rfl (Zg (pgB 2) (Zg (pgB 3) Zz))) (fun _ _ _ _=>Zr (Za (pv 0) ?Y rfl)) (fun _ _ _ _=>pv 3))
 obtain ⟨a,wv,rv,zv,rfl,ha,⟨wa,rfl,hw⟩,⟨ra,rs,rfl,hra,ar⟩,_⟩:=id hv;have l12:=ok.le;have ln:(nI ks).length=ks.length:=n3_ ..;have lr:rs.length=ks.length:=by rw [ar.1,n3_,ln]
 refine ⟨_,rfl,a,_,rfl,SqT.of ha,rfl,_,_,rfl,_,_,rfl,_,_,rfl,rfl,?_⟩;refine ⟨_,rfl,_,rfl,wa,ra,rfl,⟨_,SqT.of hw⟩,⟨_,SqT.of hra⟩,fun D nD=>?_⟩
 have tab:∀ {kvs:List (List Key×V)} {G:Hp} {d:Int×Int→Prop} {k:Int×Int} {v:V},(∀ j,(∀ v,valV kvs (ek j)=some v→IsQ G v (f j))∧(valV kvs (ek j)=none→¬ d j))→IsQ G v (f k)→∀ {d':Int×Int→Prop},(∀ j,d' j→d j∨j=k)→∀ j,(∀ u,valV (putK kvs (ek k) v) (ek j)=some u→IsQ G u (f j))∧(valV (putK kvs (ek k) v) (ek j)=none→¬ d' j):=fun {kvs G d k v} h hv {d'} hd j=>by
  rw [Zb2]
  by_cases c:j=k
  · subst c;rw [if_pos rfl];exact ⟨fun u e=>by cases e;exact hv,fun e=>by cases e⟩
  · rw [if_neg fun z=>c (Zq7 z)];exact ⟨(h j).1,fun e z=>(hd j z).elim ((h j).2 e) c⟩
 have tkD:∀ {G:Hp} {kvs kvs':List (List Key×V)},G D=some (.dT kvs)→Tk G (upd G D (.dT kvs')):=fun e b xs e'=>by rw [Zl fun z=>by rw [z,e] at e';cases e'];exact e'
 refine Zu5 (n:=ks.length) (fun i σ G=>(∃ u0 u1 u2 u3,σ=[u0,u1,u2,u3,some (.ref wa)])∧Keep D H G∧∃ kvs,G D=some (.dT kvs)∧kvs.length≤12*i∧∀ j:Int×Int,(∀ v,valV kvs (ek j)=some v→IsQ G v (f j))∧(valV kvs (ek j)=none→¬ (j.1∈(nI ks).take i∧j.2∈nI ks))) ⟨⟨_,_,_,_,rfl⟩,Keep.new nD,[],Zc,n47_ _,fun j=>⟨fun v e=>(nomatch e),fun _=>by simp⟩⟩ (fun i σ G hi p=>?_) (fun σ G p=>?_) (fun i x σ G G' hi y p=>?_) (fun σ G p=>?_)
 · obtain ⟨_,kG,_⟩:=p;exact ⟨_,_,.int ((nI ks)[i]'(?d)),rs[i]'(?d),SqT.of (kG _ _ (Zj hw nD) hw),SqT.of (kG _ _ (Zj hra nD) hra),by rw [n5_,n0_ (?d)];rfl,n0_ (?d)⟩
 · obtain ⟨_,kG,_⟩:=p;exact ⟨_,_,SqT.of (kG _ _ (Zj hw nD) hw),SqT.of (kG _ _ (Zj hra nD) hra),.inl (by rw [n3_,ln];exact n7_ _)⟩
 · obtain ⟨⟨u0,u1,u2,u3,rfl⟩,kG,kvs,eD,lk,hk⟩:=p;obtain ⟨g2,x1,x2,rfl,ng2,rfl,yx2,yy2⟩:=y;have hwG:=kG _ _ (Zj hw nD) hw;have ex1:=yx2 _ (SqT.of hwG);have ex2:=yy2 _ (SqT.of (kG _ _ (Zj hra nD) hra));rw [n5_,n0_ (?d)] at ex1;cases ex1
   obtain ⟨row,er,pr,ps,rfl,hpr,ap⟩:=ar.get ex2;rw [n5_,n0_ (show i<(nI ks).length by omega)] at er;cases er
   generalize gG:upd G g2 (.tup [.int (nI ks)[i],.ref pr])=G3;obtain ⟨s3,e3⟩:=gen_upd gG ng2;have k3:Keep D H G3:=kG.trans s3.keep;have hprG:=k3 _ _ (Zj hpr nD) hpr;have lp:ps.length=ks.length:=by rw [ap.1,n3_,ln]
   refine ⟨g2,_,rfl,SqT.of e3,rfl,_,_,rfl,_,_,rfl,rfl,?_⟩;refine ⟨_,rfl,_,rfl,wa,pr,rfl,⟨_,SqT.of (s3 _ _ hwG)⟩,⟨_,SqT.of hprG⟩,?_⟩;refine Zwm (n:=ks.length) (fun m σ U=>(∃ u2 u3,σ=[some (.int (nI ks)[i]),some (.ref pr),u2,u3,some (.ref wa)])∧Keep D H U∧∃ kvs,U D=some (.dT kvs)∧kvs.length≤12*i+m∧∀ j:Int×Int,(∀ v,valV kvs (ek j)=some v→IsQ U v (f j))∧(valV kvs (ek j)=none→¬ ((j.1∈(nI ks).take i∧j.2∈nI ks)∨(j.1=(nI ks)[i]∧j.2∈(nI ks).take m)))) ⟨⟨_,_,rfl⟩,k3,kvs,s3 _ _ eD,lk,fun j=>⟨fun v e=>((hk j).1 v e).tk s3.tk,fun e z=>(hk j).2 e (by simpa using z)⟩⟩ (fun m σ U hm p=>?_) (fun σ U p=>?_) (fun m y σ U U' hm y' p=>?_) (fun σ U p=>?_)
   · obtain ⟨_,kU,_⟩:=p;exact ⟨_,_,.int ((nI ks)[m]'(?d)),ps[m]'(?d),SqT.of (kU _ _ (Zj hw nD) hw),SqT.of (kU _ _ (Zj hpr nD) hpr),by rw [n5_,n0_ (?d)];rfl,n0_ (?d)⟩
   · obtain ⟨_,kU,_⟩:=p;exact ⟨_,_,SqT.of (kU _ _ (Zj hw nD) hw),SqT.of (kU _ _ (Zj hpr nD) hpr),.inl (by rw [n3_,ln];exact n7_ _)⟩
   · obtain ⟨⟨u2,u3,rfl⟩,kU,kvs2,eD2,lk2,hk2⟩:=p;obtain ⟨g4,y1,y2,rfl,ng4,rfl,yx4,yy4⟩:=y';have ey1:=yx4 _ (SqT.of (kU _ _ (Zj hw nD) hw));have ey2:=yy4 _ (SqT.of (kU _ _ (Zj hpr nD) hpr));rw [n5_,n0_ (?d)] at ey1;cases ey1
     obtain ⟨z,ez,pz,rfl,hpz⟩:=ap.get ey2;rw [n5_,n0_ (show m<(nI ks).length by omega)] at ez;cases ez
     generalize gG:upd U g4 (.tup [.int (nI ks)[m],.ref pz])=U5;obtain ⟨s5,e5⟩:=gen_upd gG ng4;refine ⟨g4,_,rfl,SqT.of e5,rfl,_,_,rfl,_,_,rfl,rfl,?_⟩;refine ⟨_,rfl,_,rfl,z2_,fun b nb=>?_⟩;have s6:Same U5 (upd U5 b (.tup [.int (nI ks)[i],.int (nI ks)[m]])):=Same.new nb;have e6:upd U5 b (.tup [.int (nI ks)[i],.int (nI ks)[m]]) b=some (.tup ((ek ((nI ks)[i],(nI ks)[m])).map kV)):=Zc;generalize upd U5 b (.tup [.int (nI ks)[i],.int (nI ks)[m]])=U6 at s6 e6 ⊢;have s46:=s5.trans s6;have eD6:=s46 _ _ eD2;have k6:Keep D H U6:=kU.trans s46.keep;refine ⟨_,rfl,kvs2,ek ((nI ks)[i],(nI ks)[m]),b,eD6,rfl,e6,by rw [sizeLine_eq];omega,ks.length-(m+1),?d,?d,rfl,⟨_,_,rfl⟩,fun c o ne e=>by rw [Zl ne];exact k6 _ _ ne e,_,Zc,?_,tab (d:=fun j=>(j.1∈(nI ks).take i∧j.2∈nI ks)∨(j.1=(nI ks)[i]∧j.2∈(nI ks).take m)) (fun j=>⟨fun v e=>(((hk2 j).1 v e).tk s46.tk).tk (tkD eD6),(hk2 j).2⟩) ⟨pz,rfl,tkD eD6 _ _ (k6 _ _ (Zj hpz nD) hpz)⟩ fun j hj=>?_⟩
     · have:=Yh kvs2 (ek ((nI ks)[i],(nI ks)[m])) (V.ref pz);omega
     · rw [n77_,n0_ (show m<(nI ks).length by omega)] at hj
       rcases hj with hj|⟨h1,h2⟩
       · exact .inl (.inl hj)
       · rcases n36_.mp h2 with h2|h2
         · exact .inl (.inr ⟨h1,h2⟩)
         · exact .inr (Prod.ext h1 (by simpa using h2))
   · obtain ⟨⟨u2,u3,rfl⟩,kU,kvs2,eD2,lk2,hk2⟩:=p;refine ⟨ks.length-(i+1),?d,?d,rfl,⟨_,_,_,_,rfl⟩,kU,kvs2,eD2,?d,fun j=>⟨(hk2 j).1,fun e z=>(hk2 j).2 e ?_⟩⟩;rw [n77_,n0_ (show i<(nI ks).length by omega)] at z;rw [show (nI ks).take ks.length=nI ks from n34_ (Nat.le_of_eq ln)];obtain ⟨z1,z2⟩:=z
     rcases n36_.mp z1 with z1|z1
     · exact .inl ⟨z1,z2⟩
     · exact .inr ⟨by simpa using z1,z2⟩
 · obtain ⟨_,kG,kvs,eD,_,hk⟩:=p;refine q _ D (fun b o e=>kG _ _ (Zj e nD) e) ⟨kvs,eD,fun k=>⟨fun v hv=>⟨(hk k).1 v hv,ok.bf k⟩,fun hn=>?_⟩⟩;have nz:=(hk k).2 hn;rw [n34_ (?d)] at nz;refine ok.zf k.1 k.2 ?_
   by_cases c:k.1∈nI ks
   · exact .inr fun z=>nz ⟨c,z⟩
   · exact .inl c
abbrev Zbw:Stmt:=top 34
theorem Zhb (F:Fun K "rights_of" "rights_of" Zbw f fd):FnOk P w K mg base CX0 2 f fd ["frame"] Zeg:=by
 have sc:FnScope ["frame"] ["frame"] (Zf Zbw):=fsc (?i);refine F.ok sc (fun vs H Q E h=>by obtain ⟨v,ks,f,g,rfl,_⟩:=h;rfl) ?I;obtain ⟨v,ks,f,g,rfl,hv,ok,q⟩:=h;refine' ?J
 case term=>refine' Zi ?g1;case g1=>refine' Zq (Zqj .t .t rfl (Zog hr) rfl T.b_dict rfl T.b_zip (Za (Zv Zw (pv 0) Zd (?l)) (Za (Zv Zw (pv 0) Zd (?l)) Zb rfl) rfl))
 obtain ⟨a,wv,rv,zv,rfl,ha,⟨wa,rfl,hw⟩,_,⟨za,zs,rfl,hza,az⟩⟩:=id hv;have l12:=ok.le;refine ⟨_,rfl,a,_,0,_,rfl,rfl,SqT.of ha,rfl,_,rfl,a,_,2,_,rfl,rfl,SqT.of ha,rfl,wa,za,rfl,⟨_,SqT.of hw⟩,⟨_,SqT.of hza⟩,_,zs,(nI ks).map Sum.inl,SqT.of hw,SqT.of hza,Zsz _,by simp;omega,fun D nD=>?_⟩;have s1:Same H (upd H D (.dK (Yi [] (((nI ks).map Sum.inl).zip zs)))):=Same.new nD;refine q _ D s1 ⟨_,.inl Zc,fun x=>?_⟩;obtain ⟨h1,h2⟩:=Zbe (.inl x) (((nI ks).map Sum.inl).zip zs) [];refine ⟨fun v hv=>?_,fun hn=>?_⟩
 · rcases h1 v hv with m|m
   · obtain ⟨i,hi⟩:=List.mem_iff_getElem?.mp m;obtain ⟨e1,e2⟩:=List.getElem?_zip_eq_some.mp hi;obtain ⟨y,ey,hy⟩:=az.get e2;rw [n5_] at e1 ey;obtain ⟨n,en,e⟩:=n10_.mp e1;cases e
     rw [en] at ey;cases ey
     exact ⟨hy.tk s1.tk,ok.bg x⟩
   · cases m
 · refine ok.zg x fun m=>(h2 hn).1 ?_;have lz:((nI ks).map (Sum.inl:Int→Key)).length≤zs.length:=by rw [az.1];simp
   rw [List.map_fst_zip lz];exact n89_ m
abbrev Zbh:Stmt:=top 35
theorem Zi2 (F:Fun K "together" "together" Zbh f fd) (Caw_:a13_ P w K mg base):FnOk P w K mg base CX0 7 f fd ["dicts","key"] Zrg:=by
 have sc:FnScope ["dicts","key"] ["dicts","key"] (Zf Zbh):=fsc (?i);refine F.ok sc (fun vs H Q E h=>by obtain ⟨dl,y,ds,rfl,_⟩:=h;rfl) ?I;obtain ⟨dl,y,ds,rfl,hl,h2,hd,q⟩:=h;have hu:=Zlq hr;refine' ?J
 case term=>refine' Zi (Zq (Zh Caw_ hr ?e rfl (Za (Y6 (N:=["parts","key"]) (fr:=[none,some 1]) rfl (Z1 (XN:=["dicts","key"]) (Scope.names (Zf Zbh)) rfl rfl rfl (fun _ h=>Zx h) (?i) rfl) (Yl (pv 0)) ?X (fun _ _ _ _=>Zdp (Zu8 (Zu7 hu (pv 1) (pv 0)) rfl)) (fun _ _ _ _=>Zjc hu (pv 0) (pv 1) (?l))) Zb rfl)))
 refine ⟨_,rfl,dl,rfl,⟨_,SqL.of hl⟩,fun D nD=>?_⟩;refine lc_F (k:=.l) (vs:=ds.map fun d:Addr×Rat×Bool=>V.ref d.1) IsQ hRQ (fun i=>ds[i]?.bind inB) (by rw [n3_];omega) nD hl (fun i w H2 C N hw s2 c n=>?_) (fun H2 us s2 e2 a2=>?_)
 · rw [n5_] at hw;obtain ⟨d,ed,rfl⟩:=n10_.mp hw;obtain ⟨r,g,hb,hv,_⟩:=(hd d (n17_ ed)).more s2;refine ⟨_,rfl,_,rfl,d.1,_,rfl,g,?_⟩;cases r with
   | none=>exact ⟨false,rfl,n _ (Same.refl _) (by rw [ed];show inB d=_;unfold inB;rw [← hb];rfl)⟩
   | some v=>exact ⟨true,rfl,_,rfl,_,rfl,d.1,_,rfl,g,c _ _ d.2.1 (Same.refl _) (by rw [ed];show inB d=_;unfold inB;rw [← hb];rfl) (hv v rfl).1⟩
 · rw [n3_,Zpt] at a2
   have sm:∀ x∈ds.filterMap inB,Sm x:=fun x hx=>by
    obtain ⟨d,hd',e⟩:=List.mem_filterMap.mp hx;obtain ⟨r,_,hb,hv,_⟩:=hd d hd';unfold inB at e;cases c:d.2.2 with
    | false=>rw [c] at e;cases e
    | true =>
      rw [c] at e hb;cases e
      cases r with
      | none=>cases hb
      | some v=>exact (hv v rfl).2
   have len:((ds.filterMap inB).map prQ).length≤40:=by rw [n3_];have:=List.length_filterMap_le inB ds;omega
   exact ⟨D,us,_,rfl,e2,Zuk a2,Zup sm,len,fun H3 r s3 hr=>q _ _ (s2.trans s3) (by rw [Zj1,Zen fun d hd'=>let ⟨_,_,_,_,z⟩:=hd d hd';z] at hr;exact hr)⟩
abbrev Xe:Stmt:=top 36
theorem Zhk (F:Fun K "frame_by" "frame_by" Xe f fd) (Ch_:a14_ P w K mg base):FnOk P w K mg base CX0 8 f fd ["ways","tables","rights"] Zdw:=by
 have sc:FnScope ["ways","tables","rights","rows"] ["ways","tables","rights"] (Zf Xe):=fsc (?i);refine F.ok sc (fun vs H Q E h=>by obtain ⟨wl,tl,rl,ks,Ts,Rs,rfl,_⟩:=h;rfl) ?I;obtain ⟨wl,tl,rl,ks,Ts,Rs,rfl,hw,ht,hri,hT,hR,t2,r2,h30,q⟩:=h;have nd:=sc.nd;refine' ?J
 case term=>refine' Ze (Zfe (N:=["way","ways","tables"]) (fr:=[none,some 0,some 1]) rfl rfl (Zk (i:=3) nd rfl ?o) (Z1 (XN:=["ways","tables","rights","rows"]) (Scope.names (Zf Xe)) rfl rfl rfl (fun _ h=>Zx h) (?i) rfl) (Yl (pv 0)) (fun _ _ _ _=>Zk (i:=0) (show List.Nodup (["way","ways","tables"]:List Str) by decide) rfl (Or.inr rfl) ?o) ?R (fun _ _ _ _=>Zo (Ye K rfl) rfl T.b_tuple Zt (Za (Y6 (N:=["other","tables","way"]) (fr:=[none,some 2,some 0]) rfl (Z1 (XN:=["way","ways","tables"]) (relN _ (Scope.names (Zf Xe))) rfl rfl rfl (fun _ h=>Zad (?i) h) (?i) rfl) (Zf9 K rfl (pv 1)) ?X ?R (fun _ _ _ _=>Zh Ch_ hr ?e rfl (Za (pv 1) (Za (Zr (Za (pv 2) ?Q rfl)) Zb rfl) rfl))) Zb rfl))) (Zi (Zq (Zr (Za (Zo Zn rfl T.b_tuple Zt ?Q) (Za (Zo Zn rfl T.b_tuple Zt (Za (pv 3) Zb rfl)) (Za (Zo Zn rfl T.b_tuple Zt (Za (Y6 (N:=["way","rights"]) (fr:=[none,some 2]) rfl (Z1 (XN:=["ways","tables","rights","rows"]) (Scope.names (Zf Xe)) rfl rfl rfl (fun _ h=>Zx h) (?i) rfl) (Yl (pv 0)) ?X ?R (fun _ _ _ _=>Zh Ch_ hr ?e rfl (Za (pv 1) ?Q rfl))) Zb rfl)) Zb rfl) rfl) rfl))))
 have l30:(?Z).length≤1000:=by simp;omega
 refine ⟨_,rfl,wl,rfl,⟨_,SqL.of hw⟩,fun D nD=>?_⟩;refine lc_T (k:=.l) (vs:=?Z) IsQs hRQs ((nI ks).map fun w=>(nI ks).map fun o=>(Ts.map fun p=>p.2 (w,o)).sum) ?f l30 nD hw (fun i w H2 C hi s2 c=>?_) (fun H2 us s2 e2 a2=>?_)
 · rw [n5_] at hi;obtain ⟨x,ex,rfl⟩:=n10_.mp hi;refine ⟨_,rfl,wl,rfl,⟨_,SqL.of (s2 _ _ hw)⟩,fun D2 nD2=>?_⟩;refine lc_T (k:=.l) (vs:=?Z) IsQ hRQ ((nI ks).map fun o=>(Ts.map fun p=>p.2 (x,o)).sum) ?f l30 nD2 (s2 _ _ hw) (fun j w H3 C' hj s3 c'=>?_) (fun H3 us s3 e3 a3=>?_)
   · rw [n5_] at hj;obtain ⟨y,ey,rfl⟩:=n10_.mp hj;refine ⟨_,rfl,_,rfl,_,rfl,z2_,fun b nb=>?_⟩;have s4:Same H3 (upd H3 b (.tup [.int x,.int y])):=Same.new nb;have s24:=s2.trans (s3.trans s4);obtain ⟨ds,e1,e2,e3⟩:=dbs (y:=.ref b) (fr:=fun p=>p.2 (x,y)) (ad:=fun p=>p.1) fun p hp=>((hT p hp).more s24).db (x,y) Zc;have le:ds.length=Ts.length:=by have:=congrArg List.length e2;rwa [n3_,n3_] at this
     refine ⟨tl,.ref b,ds,rfl,by rw [e1];exact s24 _ _ ht,?d,e3,fun H5 r s5 h5=>c' _ _ _ (s4.trans s5) (by rw [n5_,ey];rfl) ?_⟩;rw [e2] at h5;exact h5
   · refine ⟨D2,us,rfl,.inl ⟨SqL.of e3,fun r nr=>?_⟩⟩;have s5:Same H3 (upd H3 r (.tup us)):=Same.new nr;exact c _ _ _ (s3.trans s5) (by rw [n5_,ex];rfl) ⟨r,us,rfl,Zc,a3.imp fun v x r=>r.tk s5.tk⟩
 · refine ⟨_,rfl,wl,_,rfl,.inl ⟨SqL.of (s2 _ _ hw),fun W nW=>?_⟩⟩;generalize gG:upd H2 W (.tup (?Z))=H3;obtain ⟨s3,e3⟩:=gen_upd gG nW;refine ⟨_,rfl,D,_,rfl,.inl ⟨SqL.of (s3 _ _ e2),fun R nR=>?_⟩⟩;generalize gG:upd H3 R (.tup us)=H4;obtain ⟨s4,e4⟩:=gen_upd gG nR;have s04:=s2.trans (s3.trans s4);refine ⟨_,rfl,wl,rfl,⟨_,SqL.of (s04 _ _ hw)⟩,fun D3 nD3=>?_⟩;refine lc_T (k:=.l) (vs:=?Z) IsQ hRQ ((nI ks).map fun x=>(Rs.map fun p=>p.2 x).sum) ?f l30 nD3 (s04 _ _ hw) (fun i w H5 C hi s5 c=>?_) (fun H5 us5 s5 e5 a5=>?_)
   · rw [n5_] at hi;obtain ⟨x,ex,rfl⟩:=n10_.mp hi;obtain ⟨ds,e1,e2,e3⟩:=dbs (y:=.int x) (fr:=fun p=>p.2 x) (ad:=fun p=>p.1) fun p hp=>((hR p hp).more (s04.trans s5)).db x;have le:ds.length=Rs.length:=by have:=congrArg List.length e2;rwa [n3_,n3_] at this
     refine ⟨_,rfl,_,rfl,rl,.int x,ds,rfl,by rw [e1];exact (s04.trans s5) _ _ hri,?d,e3,fun H6 r s6 h6=>c _ _ _ s6 (by rw [n5_,ex];rfl) ?_⟩;rw [e2] at h6;exact h6
   · refine ⟨D3,us5,rfl,.inl ⟨SqL.of e5,fun Z nZ=>?_⟩⟩;generalize gG:upd H5 Z (.tup us5)=H6;obtain ⟨s6,e6⟩:=gen_upd gG nZ;refine ⟨z3_,fun F nF=>?_⟩;have s7:Same H6 (upd H6 F (.tup [.ref W,.ref R,.ref Z])):=Same.new nF;have s47:=s5.trans (s6.trans s7);have s37:=s4.trans s47;exact q _ _ (s2.trans (s3.trans s37)) ⟨F,_,_,_,rfl,Zc,⟨W,rfl,s37 _ _ e3⟩,⟨R,us,rfl,s47 _ _ e4,a2.imp fun v x r=>Z5 (s3.trans s37).tk r⟩,⟨Z,us5,rfl,s7 _ _ e6,a5.imp fun v x r=>r.tk (s6.trans s7).tk⟩⟩
abbrev Xw:Stmt:=top 36
theorem Zhp (F:Fun K "frame_by" "frame_by" Xw f fd) (Ch_:a14_ P w K mg base):FnOk P w K mg base CX0 8 f fd ["ways","tables","rights"] Zdx:=by
 have sc:FnScope ["ways","tables","rights","rows"] ["ways","tables","rights"] (Zf Xw):=fsc (?i);refine F.ok sc (fun vs H Q E h=>by obtain ⟨wl,tl,rl,ks,Ts,Rs,rfl,_⟩:=h;rfl) ?I;obtain ⟨wl,tl,rl,ks,Ts,Rs,rfl,hw,ht,hri,hT,hR,t2,r2,h30,q⟩:=h;have nd:=sc.nd;refine' ?J
 case term=>refine' Ze (Zfe (N:=["way","ways","tables"]) (fr:=[none,some 0,some 1]) rfl rfl (Zk (i:=3) nd rfl ?o) (Z1 (XN:=["ways","tables","rights","rows"]) (Scope.names (Zf Xw)) rfl rfl rfl (fun _ h=>Zx h) (?i) rfl) (Zai (pv 0)) (fun _ _ _ _=>Zk (i:=0) (show List.Nodup (["way","ways","tables"]:List Str) by decide) rfl (Or.inr rfl) ?o) ?R (fun _ _ _ _=>Zo (Ye K rfl) rfl T.b_tuple Zt (Za (Y6 (N:=["other","tables","way"]) (fr:=[none,some 2,some 0]) rfl (Z1 (XN:=["way","ways","tables"]) (relN _ (Scope.names (Zf Xw))) rfl rfl rfl (fun _ h=>Zad (?i) h) (?i) rfl) (Zi1 K rfl (pv 1)) ?X ?R (fun _ _ _ _=>Zh Ch_ hr ?e rfl (Za (pv 1) (Za (Zr (Za (pv 2) ?Q rfl)) Zb rfl) rfl))) Zb rfl))) (Zi (Zq (Zr (Za (Zo Zn rfl T.b_tuple Zt ?Q) (Za (Zo Zn rfl T.b_tuple Zt (Za (pv 3) Zb rfl)) (Za (Zo Zn rfl T.b_tuple Zt (Za (Y6 (N:=["way","rights"]) (fr:=[none,some 2]) rfl (Z1 (XN:=["ways","tables","rights","rows"]) (Scope.names (Zf Xw)) rfl rfl rfl (fun _ h=>Zx h) (?i) rfl) (Zai (pv 0)) ?X ?R (fun _ _ _ _=>Zh Ch_ hr ?e rfl (Za (pv 1) ?Q rfl))) Zb rfl)) Zb rfl) rfl) rfl))))
 have l30:(?Z).length≤1000:=by simp;omega
 refine ⟨_,rfl,wl,rfl,⟨_,SqT.of hw⟩,fun D nD=>?_⟩;refine lc_T (k:=.t) (vs:=?Z) IsQs hRQs ((nI ks).map fun w=>(nI ks).map fun o=>(Ts.map fun p=>p.2 (w,o)).sum) ?f l30 nD hw (fun i w H2 C hi s2 c=>?_) (fun H2 us s2 e2 a2=>?_)
 · rw [n5_] at hi;obtain ⟨x,ex,rfl⟩:=n10_.mp hi;refine ⟨_,rfl,wl,rfl,⟨_,SqT.of (s2 _ _ hw)⟩,fun D2 nD2=>?_⟩;refine lc_T (k:=.t) (vs:=?Z) IsQ hRQ ((nI ks).map fun o=>(Ts.map fun p=>p.2 (x,o)).sum) ?f l30 nD2 (s2 _ _ hw) (fun j w H3 C' hj s3 c'=>?_) (fun H3 us s3 e3 a3=>?_)
   · rw [n5_] at hj;obtain ⟨y,ey,rfl⟩:=n10_.mp hj;refine ⟨_,rfl,_,rfl,_,rfl,z2_,fun b nb=>?_⟩;have s4:Same H3 (upd H3 b (.tup [.int x,.int y])):=Same.new nb;have s24:=s2.trans (s3.trans s4);obtain ⟨ds,e1,e2,e3⟩:=dbs (y:=.ref b) (fr:=fun p=>p.2 (x,y)) (ad:=fun p=>p.1) fun p hp=>((hT p hp).more s24).db (x,y) Zc;have le:ds.length=Ts.length:=by have:=congrArg List.length e2;rwa [n3_,n3_] at this
     refine ⟨tl,.ref b,ds,rfl,by rw [e1];exact s24 _ _ ht,?d,e3,fun H5 r s5 h5=>c' _ _ _ (s4.trans s5) (by rw [n5_,ey];rfl) ?_⟩;rw [e2] at h5;exact h5
   · refine ⟨D2,us,rfl,.inl ⟨SqL.of e3,fun r nr=>?_⟩⟩;have s5:Same H3 (upd H3 r (.tup us)):=Same.new nr;exact c _ _ _ (s3.trans s5) (by rw [n5_,ex];rfl) ⟨r,us,rfl,Zc,a3.imp fun v x r=>r.tk s5.tk⟩
 · refine ⟨_,rfl,wl,_,rfl,.inr ⟨SqT.of (s2 _ _ hw),?_⟩⟩;have s3:Same H2 H2:=Same.refl _;have e3:=s2 _ _ hw;refine ⟨_,rfl,D,_,rfl,.inl ⟨SqL.of (s3 _ _ e2),fun R nR=>?_⟩⟩;generalize gG:upd H2 R (.tup us)=H4;obtain ⟨s4,e4⟩:=gen_upd gG nR;have s04:=s2.trans (s3.trans s4);refine ⟨_,rfl,wl,rfl,⟨_,SqT.of (s04 _ _ hw)⟩,fun D3 nD3=>?_⟩;refine lc_T (k:=.t) (vs:=?Z) IsQ hRQ ((nI ks).map fun x=>(Rs.map fun p=>p.2 x).sum) ?f l30 nD3 (s04 _ _ hw) (fun i w H5 C hi s5 c=>?_) (fun H5 us5 s5 e5 a5=>?_)
   · rw [n5_] at hi;obtain ⟨x,ex,rfl⟩:=n10_.mp hi;obtain ⟨ds,e1,e2,e3⟩:=dbs (y:=.int x) (fr:=fun p=>p.2 x) (ad:=fun p=>p.1) fun p hp=>((hR p hp).more (s04.trans s5)).db x;have le:ds.length=Rs.length:=by have:=congrArg List.length e2;rwa [n3_,n3_] at this
     refine ⟨_,rfl,_,rfl,rl,.int x,ds,rfl,by rw [e1];exact (s04.trans s5) _ _ hri,?d,e3,fun H6 r s6 h6=>c _ _ _ s6 (by rw [n5_,ex];rfl) ?_⟩;rw [e2] at h6;exact h6
   · refine ⟨D3,us5,rfl,.inl ⟨SqL.of e5,fun Z nZ=>?_⟩⟩;generalize gG:upd H5 Z (.tup us5)=H6;obtain ⟨s6,e6⟩:=gen_upd gG nZ;refine ⟨z3_,fun F nF=>?_⟩;have s7:Same H6 (upd H6 F (.tup [.ref wl,.ref R,.ref Z])):=Same.new nF;have s47:=s5.trans (s6.trans s7);have s37:=s4.trans s47;exact q _ _ (s2.trans (s3.trans s37)) ⟨F,_,_,_,rfl,Zc,⟨wl,rfl,s37 _ _ e3⟩,⟨R,us,rfl,s47 _ _ e4,a2.imp fun v x r=>Z5 (s3.trans s37).tk r⟩,⟨Z,us5,rfl,s7 _ _ e6,a5.imp fun v x r=>r.tk (s6.trans s7).tk⟩⟩
abbrev Za9:Stmt:=top 37
theorem Zgc (F:Fun K "with_loads" "with_loads" Za9 f fd) (Cz_:a15_ P w K mg base) (Cam_:a16_ P w K mg base) (Cf_:a17_ P w K mg base) (Ci_:a18_ P w K mg base) (Cp_:a19_ P w K mg base):FnOk P w K mg base CX0 9 f fd ["frame","loads"] Zc9:=by
 have sc:FnScope ["frame","loads"] ["frame","loads"] (Zf Za9):=fsc (?i);refine F.ok sc (fun vs H Q E h=>by obtain ⟨v,L,ks,f,g,kvs,hl,rfl,_⟩:=h;rfl) ?I;obtain ⟨v,L,ks,f,g,kvs,hl,rfl,hv,ok,hL,lo,q⟩:=h;refine' ?J
 case term=>refine' Ze (Xq (Zh Cf_ hr ?e rfl ?Q)) ?g1;case g1=>refine' Ze (X5 (Xh (Z7 (Zh Cz_ hr ?e rfl (Za (pv 0) ?P rfl)) (fun _=>rfl))) Zem Yb) (Zi (Zq (Zh Cam_ hr ?e rfl (Za (Zv Zw (pv 0) Zd (?l)) (Za (Yj (Za (Zh Cp_ hr ?e rfl ?Q) Zb rfl)) (Za (Yj (Za (Zh Ci_ hr ?e rfl ?Q) ?P rfl)) Zb rfl) rfl) rfl))))
 obtain ⟨a,wv,rv,zv,hva,ha,⟨wa,rfl,hw⟩,_⟩:=id hv;have l12:=ok.le;refine ⟨_,rfl,v,ks,f,g,rfl,hv,ok,fun H1 s1=>?_⟩;have lo1:=lo.tk s1.tk;refine ⟨_,rfl,_,rfl,v,L,ks,f,g,kvs,rfl,hv.tk s1.tk,s1 _ _ hL,fun p hp=>?_,lo.len,fun H2 o k2 e2=>⟨true,rfl,iteF ?_⟩⟩
 · obtain ⟨x,e,hx,hq⟩:=lo1.at_ p hp;exact ⟨x,_,e,hx,hq,(lo.sm x).1.mono ?e⟩
 have t2:Tk H1 H2:=fun b xs e=>k2 _ _ (fun z=>by rw [z,s1 _ _ hL] at e;cases e) e;have t02:=s1.tk.trans t2;refine ⟨_,hva ▸ rfl,a,_,0,_,rfl,rfl,SqT.of (t02 _ _ ha),rfl,_,rfl,v,ks,f,g,rfl,hv.tk t02,ok,fun H3 U s3 hU=>⟨z1_,fun B nB=>?_⟩⟩;generalize gG:upd H3 B (.lst [.ref U])=H4;obtain ⟨s4,e4⟩:=gen_upd gG nB;have t04:=t02.trans (s3.trans s4).tk;refine ⟨_,rfl,v,ks,f,g,rfl,hv.tk t04,ok,fun H5 R s5 hR=>⟨_,rfl,z2_,fun C nC=>?_⟩⟩;generalize gG:upd H5 C (.lst [.ref R,.ref L])=H6;obtain ⟨s6,e6⟩:=gen_upd gG nC;have s46:=s5.trans s6;have s26:=s3.trans (s4.trans s46);have t06:=t02.trans s26.tk;have hTs:∀ p∈[(U,f)],TabQ H6 p.1 p.2:=fun p hp=>by rw [n18_.mp hp];exact hU.more (s4.trans s46)
 have hRs:∀ p∈[(R,g),(L,hl)],RowQ H6 p.1 p.2:=fun p hp=>by
  simp only [n12_,n16_,or_false] at hp
  rcases hp with rfl|rfl
  · exact hR.more s6
  · exact (lo.tk t06).row (.inr ⟨o,s26 _ _ e2⟩)
 refine ⟨wa,B,C,ks,[(U,f)],[(R,g),(L,hl)],rfl,t06 _ _ hw,s46 _ _ e4,e6,hTs,hRs,by simp,by simp,?d,fun H7 r s7 h7=>q _ _ o (s1.keep.trans (k2.trans (s26.trans s7).keep)) ((s26.trans s7) _ _ e2) ?_⟩;have ef:(fun k=>([(U,f)].map fun p=>p.2 k).sum)=f:=funext fun k=>by show f k+0=f k;exact n51_ _
 have eg:(fun x=>([(R,g),(L,hl)].map fun p=>p.2 x).sum)=fun x=>g x+hl x:=funext fun x=>by show g x+(hl x+0)=_;rw [n51_]
 rw [ef,eg] at h7;exact h7
abbrev Zf2:Stmt:=top 38
theorem Znd (F:Fun K "joined" "joined" Zf2 f fd) (Can_:a20_ P w K mg base) (Cf_:a17_ P w K mg base) (Ci_:a18_ P w K mg base) (Cp_:a19_ P w K mg base):FnOk P w K mg base CX0 9 f fd ["one","other"] Zhm:=by
 have sc:FnScope ["one","other","ways"] ["one","other"] (Zf Zf2):=fsc (?i);refine F.ok sc (fun vs H Q E h=>by obtain ⟨v,u,ks,ms,f1,f2,g1,g2,rfl,_⟩:=h;rfl) ?I;obtain ⟨v,u,ks,ms,f1,f2,g1,g2,rfl,hv,ok1,hu',ok2,q⟩:=h;have nd:=sc.nd;refine' ?J
 case term=>refine' Ze (Xq (Zh Cf_ hr ?e rfl ?Q)) ?g1;case g1=>refine' Ze (Xq (Zh Cf_ hr ?e rfl ?P)) ?g2;case g2=>refine' Ze ?g3 (Zi (Zq (Zh Can_ hr ?e rfl (Za (pv 2) (Za (Yj (Za (Zh Cp_ hr ?e rfl ?Q) (Za (Zh Cp_ hr ?e rfl ?P) Zb rfl) rfl)) (Za (Yj (Za (Zh Ci_ hr ?e rfl ?Q) (Za (Zh Ci_ hr ?e rfl ?P) Zb rfl) rfl)) Zb rfl) rfl) rfl))));case g3=>refine' Z0 (i:=2) nd rfl ?o ?g4;case g4=>refine' Zm (Za6 rfl) rfl T.b_sorted Za5 ?g5;case g5=>refine' Za ?g6 Zb rfl;case g6=>refine' Zp Zv1 (Zo (Zeb rfl) rfl T.b_set Zk2 (Za (Zv Zw (pv 0) Zd (?l)) Zb rfl)) (Zo (Zeb rfl) rfl T.b_set Zk2 (Za (Zv Zw (pv 1) Zd (?l)) Zb rfl))
 obtain ⟨a,wv,rv,zv,hva,ha,⟨wa,rfl,hw⟩,_⟩:=id hv;obtain ⟨b,wv',rv',zv',hub,hb,⟨wb,rfl,hw'⟩,_⟩:=id hu';have l1:=ok1.le;have l2:=ok2.le;refine ⟨_,rfl,v,ks,f1,g1,rfl,hv,ok1,fun H1 s1=>?_⟩;refine ⟨_,rfl,u,ms,f2,g2,rfl,hu'.tk s1.tk,ok2,fun H2 s2=>?_⟩;have s02:=s1.trans s2;refine ⟨_,hva ▸ rfl,a,_,0,_,rfl,rfl,SqT.of (s02 _ _ ha),rfl,wa,nI ks,rfl,SqT.of (s02 _ _ hw),by simp;omega,fun S1 H3 n3 s3 e3=>?_⟩;have s03:=s02.trans s3;refine ⟨_,hub ▸ rfl,b,_,0,_,rfl,rfl,SqT.of (s03 _ _ hb),rfl,wb,nI ms,rfl,SqT.of (s03 _ _ hw'),by simp;omega,fun S2 H4 n4 s4 e4=>?_⟩;have m1:=Zb8 (nI ks);have m2:=Zb8 (nI ms);have lk1:(nI ks).length=ks.length:=n3_ ..;have lk2:(nI ms).length=ms.length:=n3_ ..;refine ⟨S1,S2,_,_,rfl,rfl,Zj e3 n4,s4 _ _ e3,e4,?d,fun S us H5 s5 nd mem len e5=>?_⟩;refine ⟨S,us,rfl,e5,?d,fun N ns nN pm le=>?_⟩;generalize gG:upd H5 N (.lst ?U)=H6;obtain ⟨s6,e6⟩:=gen_upd gG nN;have s06:=s03.trans (s4.trans (s5.trans s6));have mem':∀ x,x∈ns↔x∈nI ks∨x∈nI ms:=fun x=>by rw [pm.mem_iff,mem,Zdt,Zdt]
 have nI_mem:∀ {l:?p} {x:Int},x∈nI l↔∃ k∈l,(k:Int)=x:=n21_
 have pos:∀ x∈ns,0≤x:=fun x hx=>by
  rcases (mem' x).mp hx with h|h<;>obtain ⟨k,_,rfl⟩:=nI_mem.mp h<;>omega
 obtain ⟨js,rfl⟩:∃ js:?p,ns=nI js:=⟨ns.map Int.toNat,by
  show ns=(ns.map Int.toNat).map fun k:Nat=>(k:Int)
  rw [List.map_map];refine (List.map_id ns).symm.trans (n57_ fun x hx=>?_)
  have:=pos x hx
  show x=((x.toNat:Nat):Int)
  omega⟩
 have wj:WaysJ ks ms js:=by
  refine ⟨by have:=pm.length_eq;rw [n3_] at this;omega,?_,fun x=>?_⟩
  · have:=(le.and (pm.nodup_iff.mpr nd)).imp (S:=fun x y=>x<y) fun {x y} h=>by have:=h.1;have:=h.2;omega
    rw [List.pairwise_map] at this;exact this.imp fun h=>?d
  · have:=mem' (x:Int)
    rw [nI_mem,nI_mem,nI_mem] at this;have sx:∀ l:?p,(∃ k∈l,(k:Int)=(x:Int))↔x∈l:=fun l=>⟨fun ⟨k,hk,e⟩=>by rw [← Int.ofNat.inj e];exact hk,fun h=>⟨x,h,rfl⟩⟩
    rwa [sx,sx,sx] at this
 have lj:js.length≤30:=by
  have:=pm.length_eq
  rw [n3_] at this;omega
 refine ⟨_,rfl,_,rfl,v,ks,f1,g1,rfl,hv.tk s06.tk,ok1,fun H7 T1 s7 h7=>⟨_,rfl,u,ms,f2,g2,rfl,hu'.tk (s06.trans s7).tk,ok2,fun H8 T2 s8 h8=>⟨z2_,fun B nB=>?_⟩⟩⟩;generalize gG:upd H8 B (.lst [.ref T1,.ref T2])=H9;obtain ⟨s9,e9⟩:=gen_upd gG nB;have s09:=s06.trans (s7.trans (s8.trans s9));refine ⟨_,rfl,v,ks,f1,g1,rfl,hv.tk s09.tk,ok1,fun HA R1 sA hA=>⟨_,rfl,u,ms,f2,g2,rfl,hu'.tk (s09.trans sA).tk,ok2,fun HB R2 sB hB=>⟨z2_,fun C nC=>?_⟩⟩⟩;generalize gG:upd HB C (.lst [.ref R1,.ref R2])=HC;obtain ⟨sC,eC⟩:=gen_upd gG nC;have sBC:=sA.trans (sB.trans sC);have s6C:=s7.trans (s8.trans (s9.trans sBC))
 have hTs:∀ p∈[(T1,f1),(T2,f2)],TabQ HC p.1 p.2:=fun p hp=>by
  simp only [n12_,n16_,or_false] at hp
  rcases hp with rfl|rfl
  · exact h7.more (s8.trans (s9.trans sBC))
  · exact h8.more (s9.trans sBC)
 have hRs:∀ p∈[(R1,g1),(R2,g2)],RowQ HC p.1 p.2:=fun p hp=>by
  simp only [n12_,n16_,or_false] at hp
  rcases hp with rfl|rfl
  · exact hA.more (sB.trans sC)
  · exact hB.more sC
 refine ⟨N,B,C,js,[(T1,f1),(T2,f2)],[(R1,g1),(R2,g2)],rfl,s6C _ _ e6,sBC _ _ e9,eC,hTs,hRs,by simp,by simp,lj,fun H' r s' h'=>q _ _ js (s06.trans (s6C.trans s')) wj ?_⟩;have ef:(fun k=>([(T1,f1),(T2,f2)].map fun p=>p.2 k).sum)=fun k=>f1 k+f2 k:=funext fun k=>by show f1 k+(f2 k+0)=_;rw [n51_]
 have eg:(fun x=>([(R1,g1),(R2,g2)].map fun p=>p.2 x).sum)=fun x=>g1 x+g2 x:=funext fun x=>by show g1 x+(g2 x+0)=_;rw [n51_]
 rw [ef,eg] at h';exact h'
abbrev Zaa:Stmt:=top 40
theorem Zdv (F:Fun K "_law_cell_at" "_law_cell_at" Zaa f fd):FnOk P w K mg base CX0 1 f fd ["_law_script","_law_k"] (Zmu K):=by
 have sc:FnScope ["_law_script","_law_k"] ["_law_script","_law_k"] (Zf Zaa):=fsc (?i);refine F.ok sc (fun vs H Q E h=>by obtain ⟨a,ns,k,rfl,_⟩:=h;rfl) ?I;obtain ⟨a,ns,k,rfl,hS,q⟩:=h;refine' ?J
 case term=>refine' Ze (X5 (Z9 Zhr (pv 1) (Zm Zs rfl T.b_len Y0 ?Q) (Yk _)) (Zi (Zq (Zv Ym (pv 0) (pv 1) (?l)))) Yb) (Zi (Zq Zd))
 refine ⟨_,rfl,_,rfl,a,_,rfl,.inl hS,_,_,rfl,rfl,_,rfl,?_⟩;refine ite2 (fun hlt=>?_) (fun _=>q 0)
 have hk:k<ns.length:=by
  have z:=n49_ hlt;rw [n3_] at z;omega
 exact ⟨_,rfl,_,rfl,a,_,_,_,rfl,rfl,hS,Ys (by rw [n5_,n0_ hk];rfl),q _⟩
abbrev Zbd:Stmt:=top 41
theorem Zf3 (F:Fun K "_law_state" "_law_state" Zbd f fd) (Caa_:a21_ P w K mg base):FnOk P w K mg base CX0 2 f fd ["_law_script","_law_k"] (Zkj K):=by
 have sc:FnScope ["_law_script","_law_k","_law_cell"] ["_law_script","_law_k"] (Zf Zbd):=fsc (?i);refine F.ok sc (fun vs H Q E h=>by obtain ⟨a,ns,k,rfl,_⟩:=h;rfl) ?I;obtain ⟨a,ns,k,rfl,hS,q⟩:=h;have nd:=sc.nd;refine' ?J
 case term=>refine' Ze (Z0 (i:=2) nd rfl ?o (Zh Caa_ hr ?e rfl (Za (pv 0) ?P rfl))) (Zi (Zq (Yj (Za (Zm (Zg9 rfl) rfl T.b_max Zrf (Za Zd (Za (Zp Xz (pv 2) (Zp Zqt Zd Zd)) Zb rfl) rfl)) (Za (Zp Yr (Zp X9 (pv 2) Zd) Zd) ?G rfl) rfl))))
 refine ⟨_,rfl,_,rfl,a,ns,k,rfl,hS,fun c=>?_⟩;refine ⟨_,rfl,_,_,rfl,rfl,⟨?k,?k,?k⟩,_,_,rfl,rfl,_,_,rfl,?_⟩;refine ⟨_,rfl,_,_,rfl,rfl,(by show (2147483629:Int)≠0;decide),_,_,rfl,rfl,(z3_),fun p hp=>q p _ hp (Same.new hp) ⟨_,_,_,Zc,?_,?_⟩⟩
 · have:=n73_ c (b:=2147483629) ?e
   omega
 · have:=n92_ c (b:=2147483629) ?e
   omega
abbrev Zak:Stmt:=top 42
theorem Ze1 (F:Fun K "_law_choice" "_law_choice" Zak f fd):FnOk P w K mg base CX0 1 f fd ["_law_state_here","_law_many"] Zel:=by
 have sc:FnScope ["_law_state_here","_law_many","_law_found","_law_mixed"] ["_law_state_here","_law_many"] (Zf Zak):=fsc (?i);refine F.ok sc (fun vs H Q E h=>by obtain ⟨l,m,rfl,_⟩:=h;rfl) ?I;obtain ⟨l,m,rfl,⟨s0,s1,s2,hl,h0,h1⟩,hm,hz,q⟩:=h;have nd:=sc.nd;refine' ?J
 case term=>refine' Ze ?g1 ?g2;(case g1=>refine' X5 (Z9 Zpm (Zv Ym (pv 0) Zd (?l)) Zd (Yk _)) ?g3 Yb;case g3=>refine' Ze (Z0 (i:=2) nd rfl ?o (Zp X9 (Zv Ym (pv 0) Zd (?l)) (pv 1))) (Ze (Yx (Zp Xj (Zv Ym (pv 0) Zd (?l)) (pv 1)) (Zd3 (pv 0) Zd Zau)) (Zi (Zq (pv 2)))));case g2=>refine' Ze (Yx (Zp Yr (Zv Ym (pv 0) Zd (?l)) Zd) (Zd3 (pv 0) Zd Zau)) ?g4;case g4=>refine' Ze ?g5 ?g6;(case g5=>refine' Yx ?g7 (Zd3 (pv 0) Zd Zau);case g7=>refine' Zp X9 ?g8 Zd;case g8=>refine' Zp Yr (Zp Yr (Zp Zy (Zv Ym (pv 0) Zd (?l)) Zd) Zd) (Zv Ym (pv 0) Zd (?l)));case g6=>refine' Ze ?g9 (Ze (Z0 (i:=3) nd rfl ?o (Zp X9 (Zp Yr (Zp Zy (pv 3) (pv 3)) (Zp Zy Zd (pv 3))) Zd)) (Zi (Zq (Zp X9 (Zp Xj (pv 3) Zd) (pv 1)))));case g9=>refine' Z0 (i:=3) nd rfl ?o ?ga;case ga=>refine' Zp X9 ?gb Zd;case gb=>refine' Zp Yr ?gc Zd;case gc=>refine' Zp Yr ?gd (Zp Zy Zd (Zv Ym (pv 0) Zd (?l)));case gd=>refine' Zp Zy (Zv Ym (pv 0) Zd (?l)) (Zv Ym (pv 0) Zd (?l))
 have hm0:m≠0:=?d
 refine ⟨_,rfl,l,_,0,_,rfl,rfl,SqL.of hl,rfl,_,_,rfl,rfl,_,rfl,?_⟩;refine ite2 (fun _=>?_) (fun _=>?_)
 · refine ⟨_,rfl,l,_,0,_,rfl,rfl,SqL.of hl,rfl,_,rfl,_,_,rfl,rfl,hm0,?_⟩;refine ⟨_,rfl,l,_,0,_,rfl,rfl,SqL.of hl,rfl,_,rfl,_,_,rfl,rfl,⟨hm0,hz⟩,?_⟩;refine ⟨_,rfl,l,_,0,0,rfl,rfl,hl,rfl,?_⟩;exact ⟨_,rfl,q _ _ (n73_ _ hm) (n92_ _ hm) Keep.upd ⟨_,_,_,Zc,h0,h1⟩⟩
 ·
  refine ⟨_,rfl,l,_,2,_,rfl,rfl,SqL.of hl,rfl,_,_,rfl,rfl,?_⟩;refine ⟨_,rfl,l,_,2,2,rfl,rfl,hl,rfl,?_⟩;refine ⟨_,rfl,l,_,1,_,rfl,rfl,SqL.of Zc,rfl,_,_,rfl,rfl,mulS (by rw [p64];omega) ?e,_,_,rfl,rfl,?_⟩;refine ⟨_,rfl,l,_,2,_,rfl,rfl,SqL.of Zc,rfl,_,_,rfl,rfl,_,_,rfl,rfl,(by show (2147483647:Int)≠0;decide),?_⟩;refine ⟨_,rfl,l,_,1,1,rfl,rfl,Zc,rfl,?_⟩;generalize hs:Int.fmod (s1*48271+29+(s2+1)) 2147483647=u;have u0:0≤u:=by rw [← hs];exact n73_ _ ?e
  have u1:u<2147483647:=by rw [← hs];exact n92_ _ ?e
  refine ⟨_,rfl,l,_,1,_,rfl,rfl,SqL.of Zc,rfl,_,rfl,l,_,1,_,rfl,rfl,SqL.of Zc,rfl,u,u,by rw [← hs],by rw [← hs],mulS (by rw [p64];omega) (by rw [p64];omega),?_⟩;refine ⟨_,rfl,l,_,1,_,rfl,rfl,SqL.of Zc,rfl,39373,u,rfl,by rw [← hs],mulS ?e (by rw [p64];omega),_,_,rfl,rfl,_,_,rfl,rfl,_,_,rfl,rfl,(by show (2147483629:Int)≠0;decide),?_⟩;generalize hv:Int.fmod (u*u+39373*u+7) 2147483629=v;have v0:0≤v:=by rw [← hv];exact n73_ _ ?e
  have v1:v<2147483629:=by rw [← hv];exact n92_ _ ?e
  refine ⟨_,rfl,_,rfl,v,v,by rw [← hv],by rw [← hv],mulS (by rw [p64];omega) (by rw [p64];omega),_,rfl,50021,v,rfl,by rw [← hv],mulS ?e (by rw [p64];omega),_,_,rfl,rfl,_,_,rfl,rfl,(by show (2147483587:Int)≠0;decide),?_⟩;refine ⟨_,rfl,_,_,rfl,rfl,⟨?k,Y5 ?e⟩,_,rfl,_,_,rfl,rfl,hm0,?_⟩;exact q _ _ (n73_ _ hm) (n92_ _ hm) (Keep.upd.trans Keep.upd) ⟨_,u,_,by rw [← hs];exact Zc,u0,?d⟩
abbrev Zbc:Stmt:=top 43
theorem Zgb (F:Fun K "_law_order" "_law_order" Zbc f fd) (Ca_:a22_ P w K mg base):FnOk P w K mg base CX0 2 f fd ["_law_state_here","_law_many"] Zkr:=by
 have sc:FnScope ["_law_state_here","_law_many","_law_left","_law_found"] ["_law_state_here","_law_many"] (Zf Zbc):=fsc (?i);refine F.ok sc (fun vs H Q E h=>by obtain ⟨l,n,rfl,_⟩:=h;rfl) ?I;obtain ⟨l,n,rfl,hl,h60,q⟩:=h;have nd:=sc.nd;have hu:=Zlq hr;have hu1:=Nat.lt_of_succ_lt hu;refine' ?J
 case term=>refine' Ze (Zb7 rfl nd (i:=2) (j:=3) rfl rfl ?e rfl rfl (Za (Zo (Zfh rfl) rfl T.b_list Zi0 (Za (Zq2 rfl T.b_range ?P) Zb rfl)) (Za (Yj Zb) Zb rfl) rfl) rfl) (Ze (Zdo PassesOwn.never (Z9 (Zuf hu1) (pv 2) (Yj Zb) (Yk _)) (Zi (Xq (Zg4 PySem.F.plainAttrs_list PySem.F.slot_list_append PySem.F.type_list_append Xi (pv 3) (Za (Zg4 PySem.F.plainAttrs_list PySem.F.slot_list_pop PySem.F.type_list_pop Zo6 (pv 2) (Za (Zh Ca_ hr ?e rfl (Za (pv 0) (Za (Zm Zs rfl T.b_len Y0 ?Y) Zb rfl) rfl)) Zb rfl)) Zb rfl))))) (Zi (Zq (pv 3))))
 refine ⟨_,rfl,n,rfl,fun R nR=>?_⟩;refine ⟨R,n,rfl,Zc,?d,fun L nL=>?_⟩;have s1:Same H (upd H R (.rng 0 n)):=Same.new nR;generalize upd H R (.rng 0 n)=H1 at s1 nL ⊢
 have nL0:H L=none:=by
  cases e:H L with
  | none=>rfl
  | some o=>rw [s1 _ _ e] at nL;cases nL
 generalize gG:upd H1 L (.lst ((List.range n).map fun i:Nat=>V.int i))=H2;obtain ⟨s2,e2⟩:=gen_upd gG nL;refine ⟨z0_,fun F nF=>?_⟩;have s3:Same H2 (upd H2 F (.lst [])):=Same.new nF;have e3:upd H2 F (.lst []) F=some (.lst []):=Zc;have nLF:L≠F:=Zj e2 nF;generalize upd H2 F (.lst [])=H3 at s3 e3 ⊢;have s03:=s1.trans (s2.trans s3)
 have nF0:H F=none:=by
  cases e:H F with
  | none=>rfl
  | some o=>rw [s2 _ _ (s1 _ _ e)] at nF;cases nF
 have nLl:L≠l:=hl.neN nL0;have nFl:F≠l:=hl.neN nF0;refine ⟨_,_,rfl,?_⟩;refine Zdn (fun σ H2=>σ=[some (.ref l),some (.int n),some (.ref L),some (.ref F)]∧Keep l H H2∧StAt H2 l∧∃ xs ys:?g,H2 L=some (.lst (xs.map V.int))∧H2 F=some (.lst (ys.map V.int))∧(ys++xs).Perm ((List.range n).map fun i:Nat=>(i:Int))) (fun σ H2=>match H2 L with|some (.lst xs)=>xs.length|_=>0) ⟨rfl,s03.keep,hl.same s03,(List.range n).map fun i:Nat=>(i:Int),[],?_,e3,.refl _⟩ ?_ ?_
 · rw [List.map_map];exact s3 _ _ e2
 · rintro σ H4 ⟨rfl,k4,l4,xs,ys,eL,eF,pm⟩
   refine ⟨_,rfl,z0_,fun E nE=>?_⟩;generalize gG:upd H4 E (.lst [])=H5;obtain ⟨s5,e5⟩:=gen_upd gG nE;refine ⟨L,E,_,rfl,rfl,SqL.of (s5 _ _ eL),SqL.of e5,_,rfl,?_⟩;cases xs with
   | nil =>
     refine iteF ?_;refine ⟨_,rfl,q H5 F ys (k4.trans s5.keep) (l4.same s5) nF0 (s5 _ _ eF) ?_⟩
     simpa using pm
   | cons x xs =>
     refine iteT ?_
     have len:ys.length+(x :: xs).length=n:=by
      have:=pm.length_eq
      simpa using this
     have l5:=l4.same s5;refine ⟨_,rfl,.inl ⟨rfl,_,SqL.of (s5 _ _ eF)⟩,_,rfl,.inl ⟨rfl,_,SqL.of (s5 _ _ eL)⟩,_,rfl,_,rfl,L,_,rfl,.inl (SqL.of (s5 _ _ eL)),l,_,rfl,l5,?_,?_,fun r H6 r0 r1 k6 l6=>?_⟩
     · simp
     · rw [n3_];refine Y5 ?_;show _<18446744073709551616
       simp at len ⊢;omega
     · rw [n3_] at r1;have hr:r.toNat<(x :: xs).length:=?d
       have eL6:=k6 _ _ nLl (s5 _ _ eL);have eF6:=k6 _ _ nFl (s5 _ _ eF);refine ⟨L,_,r,r.toNat,.int ((x :: xs)[r.toNat]),rfl,rfl,eL6,?d,?_,seqI r0 (by rw [n3_];exact r1),by rw [n5_,n0_ hr];rfl,?_⟩
       · have:(n:Int)≤60:=?d
         have:((x :: xs).length:Int)≤n:=?d
         omega
       · refine ⟨F,_,_,rfl,rfl,by rw [Zl nLF.symm];exact eF6,?_,?_⟩
         · rw [n3_,sizeLine_eq];omega
         · have eL7:∀ o,upd (upd H6 L (.lst (((x :: xs).map V.int).eraseIdx r.toNat))) F o L=some (.lst (((x :: xs).map V.int).eraseIdx r.toNat)):=fun o=>by rw [Zl nLF,Zc]
           refine ⟨⟨rfl,?_,?_,(x :: xs).eraseIdx r.toNat,ys++[(x :: xs)[r.toNat]],?_,?_,?_⟩,?_⟩
           · intro b o nb e;rw [Zl (Zj e nF0),Zl (Zj e nL0)];exact k6 _ _ nb (s5 _ _ (k4 _ _ nb e))
           · obtain ⟨a,b,c,e,r⟩:=l6;exact ⟨a,b,c,by rw [Zl nFl.symm,Zl nLl.symm];exact e,r⟩
           · rw [eL7,Zh0]
           · rw [Zc,n62_];rfl
           · refine List.Perm.trans ?_ pm;rw [List.append_assoc];refine List.Perm.append_left ys ?_;exact Zaf _ _ hr
           · rw [eL7,eL];dsimp only;rw [List.length_eraseIdx_of_lt (by rw [n3_];exact hr)]
             simp
 · rintro σ H' Q1 Q2 hq ⟨v,e,z,f⟩
   refine ⟨v,e,z,fun p np=>?_⟩;obtain ⟨a,b,xs,e1,e2,h1,h2,k,t,q'⟩:=f p np;exact ⟨a,b,xs,e1,e2,h1,h2,k,t,hq _ _ q'⟩
abbrev Zch:Stmt:=top 44
theorem Zin (F:Fun K "_law_low" "_law_low" Zch f fd):FnOk P w K mg base CX0 1 f fd ["_law_top","_law_bottom"] Zqw:=by
 have sc:FnScope ["_law_top","_law_bottom","_law_one","_law_other"] ["_law_top","_law_bottom"] (Zf Zch):=fsc (?i);refine F.ok sc (fun vs H Q E h=>by obtain ⟨t,b,rfl,_⟩:=h;rfl) ?I;obtain ⟨t,b,rfl,hb,hz,q⟩:=h;have nd:=sc.nd;refine' ?J
 case term=>refine' Ze (Zb7 rfl nd (i:=2) (j:=3) rfl rfl ?e rfl rfl (Za (Zm Zb0 rfl T.b_abs Zh3 ?Q) (Za (Zm Zb0 rfl T.b_abs Zh3 ?P) Zb rfl) rfl) rfl) (Ze (Zdo PassesOwn.never (Z9 Zpm (pv 3) Zd (Yk _)) (Zi (Zb7 rfl nd (i:=2) (j:=3) rfl rfl ?e rfl rfl (Za (pv 3) (Za (Zp X9 (pv 2) (pv 3)) Zb rfl) rfl) rfl))) (Zi (Zq (Zr (Za (Zf7 (Z9 Zpm (pv 1) Zd (Yk _)) (Zp Xj (pv 0) (pv 2)) (Zp Xz Zd (Zp Xj (pv 0) (pv 2)))) (Za (Zp Xj (Zm Zb0 rfl T.b_abs Zh3 ?P) (pv 2)) Zb rfl) rfl)))))
 have hg:=FM.gcd_ne (t:=t) hb;have hgz:(Int.gcd t b)<2^8999:=n14_ (Nat.gcd_le_right _ (Int.natAbs_pos.mpr hb)) (Zqu hz);have ab:∀ x:Int,(if x<0 then -x else x)=(x.natAbs:Int):=fun x=>by split<;>omega
 refine ⟨_,rfl,t,rfl,_,rfl,b,rfl,_,_,rfl,?_⟩
 refine Zdn (fun σ H'=>∃ x y:Int,σ=[some (.int t),some (.int b),some (.int x),some (.int y)]∧H'=H∧0≤x∧0≤y∧Int.gcd x y=Int.gcd t b) (fun σ _=>match σ with|[_,_,_,some (.int y)]=>y.natAbs|_=>0)
  ⟨_,_,rfl,rfl,by rw [ab];omega,by rw [ab];omega,by rw [ab,ab];simp [Int.gcd]⟩ ?_ ?_
 · rintro σ H' ⟨x,y,rfl,rfl,hx,hy,e⟩
   refine ⟨_,rfl,_,_,rfl,rfl,_,rfl,?_⟩;refine ite2 (fun hlt=>?_) (fun hlt=>?_)
   · have hy':0<y:=n49_ hlt;have hy0:y≠0:=?d
     refine ⟨_,rfl,_,rfl,_,rfl,x,y,rfl,rfl,hy0,_,_,rfl,⟨y,x.fmod y,rfl,rfl,hy,n73_ _ hy',by rw [FM.gcd_fmod hy0];exact e⟩,FM.fmod_abs_lt hy0⟩
   · have hy':¬ 0<y:=fun z=>hlt (n44_ z);have y0:y=0:=?d
     subst y0;have x0:x=(Int.gcd t b:Int):=by rw [← e,Int.gcd_zero_right];omega
     subst x0;refine ⟨_,rfl,_,_,rfl,rfl,_,rfl,?_⟩
     have fin:∀ n:Int,n=(if 0<b then t.fdiv (Int.gcd t b:Int) else 0-t.fdiv (Int.gcd t b:Int))→∀ p,H' p=none→Q (.ref p) (upd H' p (.tup [.int n,.int (Int.fdiv (if b<0 then -b else b) (Int.gcd t b:Int))])):=by
      rintro n rfl p hp
      rw [ab,FM.low_num hb,FM.low_den hb];exact q p _ (Same.new hp) Zc
     refine ite2 (fun hlt=>?_) (fun hlt=>?_)
     · have hb':0<b:=n49_ hlt;refine ⟨_,rfl,_,rfl,_,_,rfl,rfl,⟨hg,hgz⟩,_,rfl,b,rfl,_,rfl,_,_,rfl,rfl,⟨hg,hgz⟩,z2_,?_⟩;exact fin _ (by rw [if_pos hb'])
     · have hb':¬ 0<b:=fun z=>hlt (n44_ z);refine ⟨_,rfl,_,rfl,_,_,rfl,rfl,⟨hg,hgz⟩,_,_,rfl,rfl,_,rfl,b,rfl,_,rfl,_,_,rfl,rfl,⟨hg,hgz⟩,z2_,?_⟩;exact fin _ (by rw [if_neg hb'])
 · rintro σ H' Q1 Q2 hq ⟨v,e,i,j,e1,e2,k,e3,q'⟩
   exact ⟨v,e,i,j,e1,e2,k,e3,hq _ _ q'⟩
abbrev Zcw:Stmt:=top 45
theorem Zjd (F:Fun K "_law_add" "_law_add" Zcw f fd) (Cd_:a23_ P w K mg base):FnOk P w K mg base CX0 2 f fd ["_law_one","_law_other"] (Zp2 (·+·)):=by
 have sc:FnScope ["_law_one","_law_other"] ["_law_one","_law_other"] (Zf Zcw):=fsc (?i);refine F.ok sc (fun vs H Q E h=>by obtain ⟨p,r,x,y,rfl,_⟩:=h;rfl) ?I;obtain ⟨p,r,x,y,rfl,h1,h2,hx,hy,q⟩:=h;refine' ?J
 case term=>refine' Zi ?g1;case g1=>refine' Zq ?g2;case g2=>refine' Zh Cd_ hr ?e rfl ?g3;case g3=>refine' Za ?g4 ?g5 rfl;(case g4=>refine' Zp Yr ?g6 ?g7;(case g6=>refine' Zp Zy (Zv Zw (pv 0) Zd (?l)) (Zv Zw (pv 1) Zd (?l)));case g7=>refine' Zp Zy (Zv Zw (pv 1) Zd (?l)) (Zv Zw (pv 0) Zd (?l)));case g5=>refine' Za ?g8 Zb rfl;case g8=>refine' Zp Zy (Zv Zw (pv 0) Zd (?l)) (Zv Zw (pv 1) Zd (?l))
 refine ⟨_,rfl,p,_,0,_,rfl,rfl,SqT.of h1,rfl,_,rfl,r,_,1,_,rfl,rfl,SqT.of h2,rfl,_,_,rfl,rfl,mND hx hy,_,rfl,r,_,0,_,rfl,rfl,SqT.of h2,rfl,_,rfl,p,_,1,_,rfl,rfl,SqT.of h1,rfl,_,_,rfl,rfl,mND hy hx,_,_,rfl,rfl,_,rfl,p,_,1,_,rfl,rfl,SqT.of h1,rfl,_,rfl,r,_,1,_,rfl,rfl,SqT.of h2,rfl,_,_,rfl,rfl,mDD hx hy,_,_,rfl,FM.mul_ne,Zt7 hx hy,?_⟩;rw [FM.add_eq];exact q
abbrev Zcp:Stmt:=top 46
theorem Zis (F:Fun K "_law_mul" "_law_mul" Zcp f fd) (Cd_:a23_ P w K mg base):FnOk P w K mg base CX0 2 f fd ["_law_one","_law_other"] (Zp2 (·*·)):=by
 have sc:FnScope ["_law_one","_law_other"] ["_law_one","_law_other"] (Zf Zcp):=fsc (?i);refine F.ok sc (fun vs H Q E h=>by obtain ⟨p,r,x,y,rfl,_⟩:=h;rfl) ?I;obtain ⟨p,r,x,y,rfl,h1,h2,hx,hy,q⟩:=h;refine' ?J
 case term=>refine' Zi ?g1;case g1=>refine' Zq ?g2;case g2=>refine' Zh Cd_ hr ?e rfl ?g3;case g3=>refine' Za ?g4 ?g5 rfl;(case g4=>refine' Zp Zy (Zv Zw (pv 0) Zd (?l)) (Zv Zw (pv 1) Zd (?l)));case g5=>refine' Za ?g6 Zb rfl;case g6=>refine' Zp Zy (Zv Zw (pv 0) Zd (?l)) (Zv Zw (pv 1) Zd (?l))
 refine ⟨_,rfl,p,_,0,_,rfl,rfl,SqT.of h1,rfl,_,rfl,r,_,0,_,rfl,rfl,SqT.of h2,rfl,_,_,rfl,rfl,mNN hx hy,_,rfl,p,_,1,_,rfl,rfl,SqT.of h1,rfl,_,rfl,r,_,1,_,rfl,rfl,SqT.of h2,rfl,_,_,rfl,rfl,mDD hx hy,_,_,rfl,FM.mul_ne,Zt7 hx hy,?_⟩;rw [FM.mul_eq];exact q
abbrev Za8:Stmt:=top 47
theorem Zgp (F:Fun K "_law_total" "_law_total" Za8 f fd) (Cc_:a24_ P w K mg base):FnOk P w K mg base CX0 3 f fd ["_law_some"] Zkx:=by
 have sc:FnScope ["_law_some","_law_found","_law_one"] ["_law_some"] (Zf Za8):=fsc (?i);refine F.ok sc (fun vs H Q E h=>by obtain ⟨a,us,qs,rfl,_⟩:=h;rfl) ?I;obtain ⟨a,us,qs,rfl,ha,al,hB,h12,q⟩:=h;have nd:=sc.nd;refine' ?J
 case term=>refine' Ze (Z0 (i:=1) nd rfl ?o (Zr (Za Zd ?G rfl))) (Ze (Y7 PassesOwn.never rfl (Yl (pv 0)) (Zk (i:=2) nd rfl ?o) (Zi (Z0 (i:=1) nd rfl ?o (Zh Cc_ hr ?e rfl (Za (pv 1) ?Y rfl))))) (Zi (Zq (pv 1))))
 have hl:=al.1;refine ⟨z2_,fun z nz=>?_⟩;have s1:Same H (upd H z ?S):=Same.new nz;have e1:upd H z ?S z=some (.tup (rt 0)):=Zc;generalize upd H z ?S=H1 at s1 e1 ⊢;refine ⟨_,rfl,a,rfl,⟨_,SqL.of (s1 _ _ ha)⟩,?_⟩;refine Yu (n:=qs.length) (fun i σ H2=>Same H H2∧∃ v x,σ=[some (.ref a),some v,x]∧IsQ H2 v (tot (qs.take i))) ⟨s1,_,_,rfl,z,rfl,e1⟩ (fun i σ H2 hi p=>⟨us,us[i]'(?d),SqL.of (p.1 _ _ ha),n0_ (?d)⟩) (fun σ H2 p=>⟨us,SqL.of (p.1 _ _ ha),?d⟩) (fun i x σ H2 H3 hi y p=>?_) (fun σ H2 p=>?_)
 · obtain ⟨s2,v,x',rfl,p,rfl,hp⟩:=p;obtain ⟨rfl,y2⟩:=y;obtain ⟨g,eg,r,rfl,hr'⟩:=al.get (y2 us (SqL.of (s2 _ _ ha)));have hg:=hB g (n17_ eg);have ht:FM.B ((150+1)*(qs.take i).length+1) (tot (qs.take i)):=Zpz _ fun x hx=>hB x (List.mem_of_mem_take hx);have hlen:(qs.take i).length≤12:=by rw [n60_];omega
   refine ⟨_,rfl,_,rfl,p,r,_,g,rfl,hp,s2 _ _ hr',ht.mono (?d),hg.mono ?e,fun w H4 s4 hw=>?_⟩;refine ⟨s2.trans s4,_,_,rfl,w,rfl,?_⟩;rw [hw]
   have:tot (qs.take (i+1))=tot (qs.take i)+g:=by
    unfold tot;rw [n77_,eg,List.foldl_append];rfl
   rw [this]
 · obtain ⟨s2,v,x',rfl,hv⟩:=p;rw [n34_ (n7_ _)] at hv;exact ⟨_,rfl,q _ _ s2 hv⟩
abbrev X0:Stmt:=top 48
theorem Zdb (F:Fun K "_law_fraction" "_law_fraction" X0 f fd) (Ca_:a22_ P w K mg base) (Cd_:a23_ P w K mg base):FnOk P w K mg base CX0 2 f fd ["_law_state_here"] (Zhf 60):=by
 have sc:FnScope ["_law_state_here","_law_top","_law_way"] ["_law_state_here"] (Zf X0):=fsc (?i);refine F.ok sc (fun vs H Q E h=>by obtain ⟨l,rfl,_⟩:=h;rfl) ?I;obtain ⟨l,rfl,hl,q⟩:=h;have nd:=sc.nd;refine' ?J
 case term=>refine' Ze (Z0 (i:=1) nd rfl ?o (Zp Xz (Zh Ca_ hr ?e rfl (Za (pv 0) ?G rfl)) Zd)) ?g1;case g1=>refine' Ze (Z0 (i:=2) nd rfl ?o (Zh Ca_ hr ?e rfl (Za (pv 0) ?G rfl))) ?g2;case g2=>refine' Ze (X5 (Z9 Zhr (pv 2) Zd (Yk _)) (Zi (Zq (Zv Ym (Yj (Za (Zr (Za Zd ?G rfl)) (Za (Zr (Za Zd ?G rfl)) (Za (Zr (Za (pv 1) ?G rfl)) Zb rfl) rfl) rfl)) (pv 2) (?l)))) Yb) (Zi (Zq (Zh Cd_ hr ?e rfl (Za (Zp Zy (pv 1) (Zv Ym (Yj (Za Zd (Za (Zp Yr (Zp Zqt Zd Zd) Zd) Zb rfl) rfl)) (Zo Zo2 rfl T.b_int Zrq (Za (Zct Zjm (Zh Ca_ hr ?e rfl (Za (pv 0) ?G rfl)) Zd (Yk _)) Zb rfl)) (?l))) (Za (Zp Yr Zd (Zh Ca_ hr ?e rfl (Za (pv 0) ?G rfl))) Zb rfl) rfl))))
 refine ⟨_,rfl,l,19,rfl,hl,?k,Y5 ?e,fun r1 H1 a1 b1 k1 l1=>?_⟩;refine ⟨_,_,rfl,rfl,?_⟩;refine ⟨_,rfl,l,5,rfl,l1,?k,Y5 ?e,fun r2 H2 a2 b2 k2 l2=>?_⟩;refine ⟨_,rfl,_,_,rfl,rfl,_,rfl,?_⟩;have k12:=k1.trans k2;refine ite2 (fun hlt=>?_) (fun hlt=>?_)
 · have hlt':r2<3:=n49_ hlt;refine ⟨z2_,?_⟩;intro p3 n3;generalize hH3:upd H2 p3 _=H3;have S3:Same H2 H3:=by (rw [← hH3];exact Same.new n3)
   have A3:=(congrFun hH3 p3).symm;rw [Zc] at A3;refine ⟨z2_,?_⟩;intro p4 n4;generalize hH4:upd H3 p4 _=H4;have S4:Same H3 H4:=by (rw [← hH4];exact Same.new n4)
   have A4:=(congrFun hH4 p4).symm;rw [Zc] at A4;refine ⟨_,rfl,z2_,?_⟩;intro p5 n5;generalize hH5:upd H4 p5 _=H5;have S5:Same H4 H5:=by (rw [← hH5];exact Same.new n5)
   have A5:=(congrFun hH5 p5).symm;rw [Zc] at A5;refine ⟨z3_,?_⟩;intro p6 n6;generalize hH6:upd H5 p6 _=H6;have S6:Same H5 H6:=by (rw [← hH6];exact Same.new n6)
   have A6:=(congrFun hH6 p6).symm;rw [Zc] at A6;refine ⟨_,rfl,?_⟩;have hk:Keep l H H6:=k12.trans (((S3.trans S4).trans (S5.trans S6)).keep);have l6:StAt H6 l:=l2.same ((S3.trans S4).trans (S5.trans S6));have B3:=S6 _ _ (S5 _ _ (S4 _ _ A3));have B4:=S6 _ _ (S5 _ _ A4);have B5:=S6 _ _ A5;have hr2:r2=0∨r2=1∨r2=2:=?d
   have w1:=FM.whole (r1-9)
   rcases hr2 with rfl|rfl|rfl
   · exact ⟨p6,_,0,_,rfl,rfl,SqL.of A6,rfl,q _ p3 0 hk l6 B3 ⟨⟨?k,?k⟩,?k⟩⟩
   · exact ⟨p6,_,1,_,rfl,rfl,SqL.of A6,rfl,q _ p4 1 hk l6 B4 ⟨⟨?k,?k⟩,?k⟩⟩
   · refine ⟨p6,_,2,_,rfl,rfl,SqL.of A6,rfl,q _ p5 (Rat.divInt (r1-9) 1) hk l6 (by rw [rt,w1.1,w1.2];exact B5) ⟨⟨?_,?_⟩,Zrt _ ?e ?e⟩⟩
     · rw [w1.1];show _<1152921504606846976;omega
     · have:=w1.2;show _<1152921504606846976;omega
 · refine ⟨_,rfl,?_⟩;refine ⟨_,_,rfl,rfl,⟨?k,?k,?k⟩,_,_,rfl,rfl,z2_,?_⟩;intro p3 n3;generalize hH3:upd H2 p3 _=H3;have S3:Same H2 H3:=by (rw [← hH3];exact Same.new n3)
   have A3:=(congrFun hH3 p3).symm;rw [Zc] at A3;refine ⟨_,rfl,l,9,rfl,l2.same S3,?k,Y5 ?e,fun r4 H4 a4 b4 k4 l4=>?_⟩;refine ⟨rfl,.inr ⟨_,rfl,?_⟩⟩;have B3:=k4 _ _ (fun z=>l2.ne n3 z.symm) A3;have hk4:Keep l H H4:=k12.trans (S3.keep.trans k4)
   by_cases h0:V.int r4=V.int 0
   · rw [n44_ h0];refine ⟨p3,_,_,_,rfl,rfl,SqL.of B3,rfl,?_⟩;have hz:(10^Int.toNat 12+7:Int).natAbs≤1000000000007:=?k
     refine ⟨_,_,rfl,rfl,mulS (by rw [p64];omega) ?e,?_⟩;refine ⟨_,rfl,l,6,rfl,l4,?k,Y5 ?e,fun r5 H5 a5 b5 k5 l5=>⟨_,_,rfl,rfl,_,_,rfl,?d,Y5 (by rw [p64];omega),fun p H6 s6 at6=>?_⟩⟩;refine q _ p _ (hk4.trans (k5.trans s6.keep)) (l5.same s6) at6 ⟨FM.B_divInt (?d) ?_ ?_,Zrt _ (?d) (?d)⟩
     · rw [n53_];have h9:(r1-9).natAbs≤9:=?d
       have:=n54_ h9 hz
       show _<1152921504606846976
       omega
     · show _<1152921504606846976
       omega
   · rw [n35_ h0];refine ⟨p3,_,_,_,rfl,rfl,SqL.of B3,rfl,?_⟩;have hz:(1:Int).natAbs≤1000000000007:=?k
     refine ⟨_,_,rfl,rfl,mulS (by rw [p64];omega) ?e,?_⟩;refine ⟨_,rfl,l,6,rfl,l4,?k,Y5 ?e,fun r5 H5 a5 b5 k5 l5=>⟨_,_,rfl,rfl,_,_,rfl,?d,Y5 (by rw [p64];omega),fun p H6 s6 at6=>?_⟩⟩;refine q _ p _ (hk4.trans (k5.trans s6.keep)) (l5.same s6) at6 ⟨FM.B_divInt (?d) ?_ ?_,Zrt _ (?d) (?d)⟩
     · rw [n53_];have h9:(r1-9).natAbs≤9:=?d
       have:=n54_ h9 hz
       show _<1152921504606846976
       omega
     · show _<1152921504606846976
       omega
abbrev Zax:Stmt:=top 49
theorem Ze2 (F:Fun K "_law_shapes" "_law_shapes" Zax f fd):FnOk P w K mg base CX0 1 f fd [] Zhn:=by
 have sc:FnScope ["_law_one","_law_two","_law_hub","_law_hinge","_law_apart","_law_strip","_law_cross","_law_chain"] [] (Zf Zax):=fsc (?i);refine F.ok sc (fun vs H Q E h=>by obtain ⟨rfl,_⟩:=h;rfl) ?I;obtain ⟨rfl,q⟩:=h;have nd:=sc.nd;refine' ?J
 case term=>refine' Ze ?g1 ?g2;(case g1=>refine' @Z0 _ _ (0) _ _ _ _ nd rfl ?o ?g3 (by rfl) ?ai;case g3=>refine' @X7 _ _ (([(0,0),(2,0),(0,3)],[[0,1,2]])) rfl);case g2=>refine' Ze ?g4 ?g5;(case g4=>refine' @Z0 _ _ (1) _ _ _ _ nd rfl ?o ?g6 (by rfl) ?ai;case g6=>refine' @X7 _ _ (([(0,0),(3,0),(3,2),(0,2)],[[0,1,2],[0,2,3]])) rfl);case g5=>refine' Ze ?g7 ?g8;(case g7=>refine' @Z0 _ _ (2) _ _ _ _ nd rfl ?o ?g9 (by rfl) ?ai;case g9=>refine' @X7 _ _ (([(0,0),(6,0),(0,6),(2,1)],[[0,1,3],[0,2,3],[1,2,3]])) rfl);case g8=>refine' Ze ?ga ?gb;(case ga=>refine' @Z0 _ _ (3) _ _ _ _ nd rfl ?o ?gc (by rfl) ?ai;case gc=>refine' @X7 _ _ (([(0,0),(2,1),(2,-1),(-2,1),(-3,-1)],[[0,1,2],[0,3,4]])) rfl);case gb=>refine' Ze ?gd ?ge;(case gd=>refine' @Z0 _ _ (4) _ _ _ _ nd rfl ?o ?gf (by rfl) ?ai;case gf=>refine' @X7 _ _ (([(0,0),(2,0),(0,2),(4,0),(6,1),(4,3)],[[0,1,2],[3,4,5]])) rfl);case ge=>refine' Ze ?gg ?gh;(case gg=>refine' @Z0 _ _ (5) _ _ _ _ nd rfl ?o ?gi (by rfl) ?ai;case gi=>refine' @X7 _ _ (([(0,0),(0,2),(2,0),(3,2),(5,0)],[[0,1,2],[1,2,3],[2,3,4]])) rfl);case gh=>refine' Ze ?gj ?gk;(case gj=>refine' @Z0 _ _ (6) _ _ _ _ nd rfl ?o ?gl (by rfl) ?ai;case gl=>refine' @X7 _ _ (([(0,0),(2,0),(0,3),(-2,0),(0,-1)],[[0,1,2],[0,2,3],[0,3,4],[0,1,4]])) rfl);case gk=>refine' Ze ?gm ?gn;(case gm=>refine' @Z0 _ _ (7) _ _ _ _ nd rfl ?o ?go (by rfl) ?ai;case go=>refine' @X7 _ _ (([(0,0),(1,2),(2,0),(3,2),(4,0),(5,3)],[[0,1,2],[2,3,4],[3,4,5]])) rfl);case gn=>refine' Zi ?gp;case gp=>refine' Zq ?gq;case gq=>refine' Yj (Za (pv 0) (Za (pv 1) (Za (pv 3) (Za (pv 4) (Za (pv 2) (Za (pv 5) (Za (pv 7) (Za (pv 6) Zb rfl) rfl) rfl) rfl) rfl) rfl) rfl) rfl)
 intro H1 v_one s1 h_one;intro H2 v_two s2 h_two;intro H3 v_hub s3 h_hub;intro H4 v_hinge s4 h_hinge;intro H5 v_apart s5 h_apart;intro H6 v_strip s6 h_strip;intro H7 v_cross s7 h_cross;intro H8 v_chain s8 h_chain;replace h_one:=h_one.tk s2.tk;replace h_one:=h_one.tk s3.tk;replace h_one:=h_one.tk s4.tk;replace h_one:=h_one.tk s5.tk;replace h_one:=h_one.tk s6.tk;replace h_one:=h_one.tk s7.tk;replace h_one:=h_one.tk s8.tk;replace h_two:=h_two.tk s3.tk;replace h_two:=h_two.tk s4.tk;replace h_two:=h_two.tk s5.tk;replace h_two:=h_two.tk s6.tk;replace h_two:=h_two.tk s7.tk;replace h_two:=h_two.tk s8.tk;replace h_hub:=h_hub.tk s4.tk;replace h_hub:=h_hub.tk s5.tk;replace h_hub:=h_hub.tk s6.tk;replace h_hub:=h_hub.tk s7.tk;replace h_hub:=h_hub.tk s8.tk;replace h_hinge:=h_hinge.tk s5.tk;replace h_hinge:=h_hinge.tk s6.tk;replace h_hinge:=h_hinge.tk s7.tk;replace h_hinge:=h_hinge.tk s8.tk;replace h_apart:=h_apart.tk s6.tk;replace h_apart:=h_apart.tk s7.tk;replace h_apart:=h_apart.tk s8.tk;replace h_strip:=h_strip.tk s7.tk;replace h_strip:=h_strip.tk s8.tk;replace h_cross:=h_cross.tk s8.tk;refine ⟨_,rfl,_,rfl,_,rfl,_,rfl,_,rfl,_,rfl,_,rfl,_,rfl,by show 8≤sizeLine;decide,fun r nr=>?_⟩;have s9:Same H8 (upd H8 r (.lst [v_one,v_two,v_hinge,v_apart,v_hub,v_strip,v_chain,v_cross])):=Same.new nr;have s08:=(((((((s1.trans s2).trans s3).trans s4).trans s5).trans s6).trans s7).trans s8);refine q _ r _ (s08.trans s9) ?_ Zc ?_
 · cases e:H r with
   | none=>rfl
   | some o=>rw [s08 _ _ e] at nr;cases nr
 · exact (.cons (h_one.tk s9.tk) (.cons (h_two.tk s9.tk) (.cons (h_hinge.tk s9.tk) (.cons (h_apart.tk s9.tk) (.cons (h_hub.tk s9.tk) (.cons (h_strip.tk s9.tk) (.cons (h_chain.tk s9.tk) (.cons (h_cross.tk s9.tk) .nil))))))))
abbrev Y3:Stmt:=top 50
theorem Zgt (F:Fun K "_law_plate" "_law_plate" Y3 f fd) (Ca_:a22_ P w K mg base) (Cah_:a25_ P w K mg base) (Cad_:a26_ P w K mg base):FnOk P w K mg base CX0 3 f fd ["_law_state_here","_law_most"] Zhi:=by
 have sc:FnScope ["_law_state_here","_law_most","_law_points","_law_pieces","_law_a","_law_b","_law_c","_law_d","_law_s","_law_t","_law_order_here","_law_corners","_law_at","_law_x","_law_y","_law_rows","_law_thicks"] ["_law_state_here","_law_most"] (Zf Y3):=fsc (?i);refine F.ok sc (fun vs H Q E h=>by obtain ⟨l,rfl,_⟩:=h;rfl) ?I;obtain ⟨l,rfl,hl,q'⟩:=h;have nd:=sc.nd;refine' ?J
 case term=>refine' Ze ?g1 ?g2;(case g1=>refine' Yx ?g3 (Z2 (n:=2) rfl (Zg (Zk (i:=2) nd rfl ?o) (Zg (Zk (i:=3) nd rfl ?o) Zz)));case g3=>refine' Zv Ym (Zsr Cad_ hr ?e rfl) (Zh Ca_ hr ?e rfl (Za (pv 0) ?P rfl)) (?l));case g2=>refine' Ze (Zjt rfl nd (i:=4) (j:=5) (k:=6) rfl rfl rfl ?e ?e ?e rfl rfl rfl (Za (Zp Yr Zd (Zh Ca_ hr ?e rfl (Za (pv 0) ?G rfl))) (Za (Zp Xz (Zh Ca_ hr ?e rfl (Za (pv 0) ?G rfl)) Zd) (Za (Zp Xz (Zh Ca_ hr ?e rfl (Za (pv 0) ?G rfl)) Zd) Zb rfl) rfl) rfl) rfl) ?g4;case g4=>refine' Ze (Zjt rfl nd (i:=7) (j:=8) (k:=9) rfl rfl rfl ?e ?e ?e rfl rfl rfl (Za (Zp Xz (Zh Ca_ hr ?e rfl (Za (pv 0) ?G rfl)) Zd) (Za (Zp Xz (Zh Ca_ hr ?e rfl (Za (pv 0) ?G rfl)) Zd) (Za (Zp Xz (Zh Ca_ hr ?e rfl (Za (pv 0) ?G rfl)) Zd) Zb rfl) rfl) rfl) rfl) ?g5;case g5=>refine' Ze ?g6 ?g7;(case g6=>refine' X5 (Z9 Zjm (Zp Zy (pv 4) (pv 7)) (Zp Zy (pv 5) (pv 6)) (Yk _)) ?g8 Yb;case g8=>refine' Zi ?g9;case g9=>refine' Yx ?ga (Z2 (n:=4) rfl (Zg (Zk (i:=4) nd rfl ?o) (Zg (Zk (i:=5) nd rfl ?o) (Zg (Zk (i:=6) nd rfl ?o) (Zg (Zk (i:=7) nd rfl ?o) Zz)))));case ga=>refine' Zr ?gb;case gb=>refine' Za Zd (Za (pv 5) (Za Zd ?G rfl) rfl) rfl);case g7=>refine' Ze (Z0 (i:=10) nd rfl (Or.inr rfl) (Zh Cah_ hr ?e rfl (Za (pv 0) (Za (Zm Zs rfl T.b_len Y0 ?Y) Zb rfl) rfl))) ?gc;case gc=>refine' Ze (Z0 (i:=11) nd rfl ?o (Zp Zmm (Yj (Za (Zr (Za Zd ?G rfl)) Zb rfl)) (Zm Zs rfl T.b_len Y0 ?Y))) ?gd;case gd=>refine' Ze ?ge ?gf;(case ge=>refine' Y7 PassesOwn.never rfl (Zei .t rfl T.b_enumerate ?Y) (Z2 (n:=2) rfl (Zg (Zk (i:=12) nd rfl ?o) (Zg (Z2 (n:=2) rfl (Zg (Zk (i:=13) nd rfl ?o) (Zg (Zk (i:=14) nd rfl ?o) Zz))) Zz))) ?gg;case gg=>refine' Zi ?gh;case gh=>refine' Yx (Zr (Za (Zp Yr (Zp Yr (Zp Zy (pv 4) (pv 13)) (Zp Zy (pv 5) (pv 14))) (pv 8)) (Za (Zp Yr (Zp Yr (Zp Zy (pv 6) (pv 13)) (Zp Zy (pv 7) (pv 14))) (pv 9)) Zb rfl) rfl)) ?gi;case gi=>refine' Zd3 (pv 11) ?gj Zau;case gj=>refine' Zv Ym (pv 10) (pv 12) (?l));case gf=>refine' Ze ?gk ?gl;(case gk=>refine' Z0 (i:=15) nd rfl ?o ?gm;case gm=>refine' Zm Zg7 rfl T.b_sorted Za5 ?gn;case gn=>refine' Za ?go Zb rfl;case go=>refine' Y6 (N:=["_law_piece","_law_order_here"]) (fr:=[none,some 10]) rfl (Z1 (XN:=["_law_state_here","_law_most","_law_points","_law_pieces","_law_a","_law_b","_law_c","_law_d","_law_s","_law_t","_law_order_here","_law_corners","_law_at","_law_x","_law_y","_law_rows","_law_thicks"]) (Scope.names (Zf Y3)) rfl rfl rfl (fun _ h=>Zx h) (?i) rfl) (Zai (pv 3)) ?X ?R (fun _ _ _ _=>Zo (Ye K rfl) rfl T.b_tuple Zt (Za (Zm (Zf5 K rfl) rfl T.b_sorted Za5 (Za (Y6 (N:=["_law_at","_law_order_here"]) (fr:=[none,some 1]) rfl (Z1 (XN:=["_law_piece","_law_order_here"]) (relN _ (Scope.names (Zf Y3))) rfl rfl rfl (fun _ h=>Zad (?i) h) (?i) rfl) (Zi1 K rfl (pv 0)) ?X ?R (fun _ _ _ _=>Zv (Zdl K rfl) (pv 1) (pv 0) (?l))) Zb rfl)) Zb rfl)));case gl=>refine' Ze ?gp ?gq;(case gp=>refine' Z0 (i:=16) nd rfl ?o ?gr;case gr=>refine' Zo Zn rfl T.b_tuple Zt ?gs;case gs=>refine' Za ?gt Zb rfl;case gt=>refine' Y6 (N:=["_law_row_here","_law_state_here"]) (fr:=[none,some 0]) rfl (Z1 (XN:=["_law_state_here","_law_most","_law_points","_law_pieces","_law_a","_law_b","_law_c","_law_d","_law_s","_law_t","_law_order_here","_law_corners","_law_at","_law_x","_law_y","_law_rows","_law_thicks"]) (Scope.names (Zf Y3)) rfl rfl rfl (fun _ h=>Zx h) (?i) rfl) (Yl (pv 15)) ?X ?R (fun _ _ _ _=>Zp Yr Zd (Zh Ca_ hr ?e rfl (Za (pv 1) (Za (Zv (Zdl K rfl) (Yj (Za Zd ?G rfl)) (Zh Ca_ hr ?e rfl (Za (pv 1) ?G rfl)) (?l)) Zb rfl) rfl))));case gq=>refine' Zi ?gu;case gu=>refine' Zq ?gv;case gv=>refine' Zr ?gw;case gw=>refine' Za (Zo Zn rfl T.b_tuple Zt (Za (pv 11) Zb rfl)) (Za (Zo Zn rfl T.b_tuple Zt (Za (pv 15) Zb rfl)) (Za (pv 16) (Za (Zr (Za (Zh Ca_ hr ?e rfl (Za (pv 0) ?G rfl)) (Za (Zp Yr Zd (Zh Ca_ hr ?e rfl (Za (pv 0) ?G rfl))) Zb rfl) rfl)) Zb rfl) rfl) rfl) rfl
 refine ⟨rfl,fun H0 R us0 s0 nR eR al0=>?_⟩;have nRl:R≠l:=hl.neN nR;refine ⟨_,rfl,_,rfl,l,8,rfl,hl.same s0,?k,Y5 ?e,fun r0 H1 r00 r01 k1 l1=>?_⟩;have al1:Al (IsSh H1) us0 Zdz:=al0.imp fun v x r=>r.tk (tkS k1 (hl.same s0));obtain ⟨u,sh,eu,hsh,msh⟩:=Zpb al1 r00 r01;have B:=Zln msh;obtain ⟨pts,pcs⟩:=sh;obtain ⟨a0,c,p,rfl,ha0,hc0,hp0⟩:=hsh;obtain ⟨c,cvs,rfl,hc7,cal⟩:=hc0;obtain ⟨p,pvs,rfl,hp7,pal⟩:=hp0;replace cal:Al (IsP H1) cvs pts:=cal;replace pal:Al (IsI H1) pvs pcs:=pal;replace B:Base pts pcs:=B;have n6:pts.length≤6:=B.n6;have clen:=cal.1;refine ⟨R,us0,_,_,rfl,rfl,SqL.of (k1 _ _ nRl eR),eu,?_⟩;refine ⟨a0,_,rfl,SqT.of ha0,rfl,_,_,rfl,_,_,rfl,rfl,?_⟩;refine ⟨_,rfl,l,3,rfl,l1,?k,Y5 ?e,fun r1 H2 r10 r11 k2 l2=>⟨_,_,rfl,rfl,?_⟩⟩;refine ⟨_,rfl,l,5,rfl,l2,?k,Y5 ?e,fun r2 H3 r20 r21 k3 l3=>⟨_,_,rfl,rfl,?_⟩⟩;refine ⟨_,rfl,l,5,rfl,l3,?k,Y5 ?e,fun r3 H4 r30 r31 k4 l4=>⟨_,_,rfl,rfl,?_⟩⟩;refine ⟨_,_,_,rfl,?_⟩;refine ⟨_,rfl,l,7,rfl,l4,?k,Y5 ?e,fun r4 H5 r40 r41 k5 l5=>⟨_,_,rfl,rfl,?_⟩⟩;refine ⟨_,rfl,l,41,rfl,l5,?k,Y5 ?e,fun r5 H6 r50 r51 k6 l6=>⟨_,_,rfl,rfl,?_⟩⟩;refine ⟨_,rfl,l,9,rfl,l6,?k,Y5 ?e,fun r6 H7 r60 r61 k7 l7=>⟨_,_,rfl,rfl,?_⟩⟩;refine ⟨_,_,_,rfl,?_⟩;have k17:=k2.trans (k3.trans (k4.trans (k5.trans (k6.trans k7))));have t7:Tk H1 H7:=tkS k17 l1;have kk:Keep l H H7:=s0.keep.trans (k1.trans k17);dsimp only;refine Zuc (R:=fun σ Hn=>∃ A:Aff,σ=[some (.ref l),some (.int 8),some (.ref c),some (.ref p),some (.int A.a),some (.int A.b),some (.int A.c),some (.int A.d),some (.int A.s),some (.int A.t),none,none,none,none,none,none,none]∧A.det≠0∧Small A∧Same H7 Hn) ?_ ?_ ?_ ?_ ?_
 · refine ⟨_,rfl,_,rfl,_,_,rfl,rfl,mul4 (?d) (?d),_,rfl,_,rfl,_,_,rfl,rfl,mul4 (?d) (?d),rfl,_,rfl,?_⟩;refine ite2 (fun hd=>?_) (fun hd=>?_)
   · refine ⟨_,rfl,z4_,fun Z nZ=>?_⟩;exact ⟨Z,_,rfl,SqT.of Zc,rfl,_,_,rfl,_,_,rfl,_,_,rfl,_,_,rfl,rfl,Aff.mk 1 (r2-2) 0 1 (r5-20) (r6-4),rfl,by show (1:Int)*1-(r2-2)*0≠0;omega,⟨by show (1:Int).natAbs≤3;decide,by show (r2-2).natAbs≤3;omega,by show (0:Int).natAbs≤3;decide,by show (1:Int).natAbs≤3;decide,by show (r5-20).natAbs≤30;omega,by show (r6-4).natAbs≤30;omega⟩,Same.new nZ⟩
   · refine ⟨Aff.mk (1+r1) (r2-2) (r3-2) (r4-3) (r5-20) (r6-4),rfl,fun z=>?_,⟨by show (1+r1).natAbs≤3;omega,by show (r2-2).natAbs≤3;omega,by show (r3-2).natAbs≤3;omega,by show (r4-3).natAbs≤3;omega,by show (r5-20).natAbs≤30;omega,by show (r6-4).natAbs≤30;omega⟩,Same.refl _⟩;refine hd (n44_ (congrArg V.int ?_));have z':(1+r1)*(r4-3)-(r2-2)*(r3-2)=0:=z;omega
 · rintro Q1 Q2 hq ⟨v1,e1,v2,e2,i1,j1,f1,f2,m1,v3,e3,v4,e4,i2,j2,f3,f4,m2,f5,k,f6,q6⟩
   exact ⟨v1,e1,v2,e2,i1,j1,f1,f2,m1,v3,e3,v4,e4,i2,j2,f3,f4,m2,f5,k,f6,hq _ _ q6⟩
 · rintro key H1' ⟨v1,e1,z1,f1⟩
   refine ⟨v1,e1,z1,fun Z nZ=>?_⟩;obtain ⟨b1,xs1,g1,g2,g3,x1,y1,g4,x2,y2,g5,x3,y3,g6,x4,y4,g7,g8,q8⟩:=f1 Z nZ;exact ⟨b1,xs1,g1,g2,g3,x1,y1,g4,x2,y2,g5,x3,y3,g6,x4,y4,g7,g8,key _ _ q8⟩
 · exact fun key H1' r=>key _ _ r
 rintro σ H7n ⟨A,rfl,hdet,W,s7n⟩
 replace t7:=t7.trans s7n.tk;replace kk:=kk.trans s7n.keep;replace l7:=l7.same s7n;clear k1 k2 k3 k4 k5 k6 k7 k17;have Wa:=W.a;have Wb:=W.b;have Wc:=W.c;have Wd:=W.d;obtain ⟨Aa,Ab,Ac,Ad,As,At⟩:=A;replace Wa:Aa.natAbs≤1000:=n31_ Wa ?e;replace Wb:Ab.natAbs≤1000:=n31_ Wb ?e;replace Wc:Ac.natAbs≤1000:=n31_ Wc ?e;replace Wd:Ad.natAbs≤1000:=n31_ Wd ?e;refine ⟨_,rfl,_,rfl,c,cvs,rfl,.inr (SqT.of (t7 _ _ hc7)),l,cvs.length,rfl,l7,?d,fun H8 O o k8 l8 nO eO pm=>?_⟩;rw [cal.1] at pm;have CO:=Zvg pm;have t8:Tk H1 H8:=t7.trans (tkS k8 l7);refine ⟨z2_,fun z nz=>?_⟩;generalize gG:upd H8 z (.tup [.int 0,.int 0])=H9;obtain ⟨s9,e9⟩:=gen_upd gG nz;refine ⟨z1_,fun y ny=>?_⟩;generalize gG:upd H9 y (.lst [.ref z])=H10;obtain ⟨s10,e10⟩:=gen_upd gG ny;have t10:Tk H1 H10:=t8.trans (s9.trans s10).tk;refine ⟨_,rfl,c,cvs,rfl,.inr (SqT.of (t10 _ _ hc7)),y,cvs.length,_,rfl,rfl,e10,?d,?d,by simp;rw [sizeLine_eq];omega,fun C nC=>?_⟩;rw [n63_,Zce];have s11:Same H10 (upd H10 C (.lst (List.replicate cvs.length (.ref z)))):=Same.new nC;have e11:upd H10 C (.lst (List.replicate cvs.length (.ref z))) C=some (.lst (List.replicate cvs.length (.ref z))):=Zc;have nCl:C≠l:=(l8.same (s9.trans s10)).neN nC;generalize upd H10 C (.lst (List.replicate cvs.length (.ref z)))=H11 at s11 e11 ⊢;have s811:=s9.trans (s10.trans s11);have t11:Tk H1 H11:=t8.trans s811.tk;have l11:=l8.same s811;have k11:Keep l H H11:=(kk.trans k8).trans s811.keep;have eO11:=s811 _ _ eO;have nOC:O≠C:=Zj (s9.trans s10 _ _ eO) nC
 have nC0:H C=none:=by
  cases e:H C with
  | none=>rfl
  | some ob =>
    have:=(kk.trans k8).trans (s9.trans s10).keep _ _ nCl e
    rw [this] at nC;cases nC
 refine ⟨_,rfl,c,rfl,⟨_,SqT.of (t11 _ _ hc7)⟩,?_⟩;refine Yu (n:=pts.length) (fun i σ H2=>Keep C H11 H2∧(∃ x1 x2 x3,σ=[some (.ref l),some (.int 8),some (.ref c),some (.ref p),some (.int Aa),some (.int Ab),some (.int Ac),some (.int Ad),some (.int As),some (.int At),some (.ref O),some (.ref C),x1,x2,x3,none,none])∧∃ us cs,H2 C=some (.lst us)∧Al (IsP H2) us cs∧cs.length=pts.length∧∀ j:Nat,j<i→cs[(o.getD j 0).toNat]? = some ((Aff.mk Aa Ab Ac Ad As At).at (pts.getD j (0,0)))) ⟨Keep.refl _ _,⟨_,_,_,rfl⟩,_,List.replicate cvs.length (0,0),e11,Zk7 ⟨z,rfl,s11 _ _ (s10 _ _ e9)⟩ _,by simp [cal.1],fun j hj=>absurd hj (Nat.not_lt_zero _)⟩ (fun i σ H2 hi p=>?_) (fun σ H2 p=>?_) (fun i x σ H2 H3 hi y p=>?_) (fun σ H2 p=>?_)
 · have t2:Tk H11 H2:=Tk.of_keep p.1 e11;exact ⟨cvs,cvs[i]'(by rw [cal.1];exact hi),SqT.of (t2 _ _ (t11 _ _ hc7)),n0_ _⟩
 · have t2:Tk H11 H2:=Tk.of_keep p.1 e11;exact ⟨cvs,SqT.of (t2 _ _ (t11 _ _ hc7)),cal.1⟩
 · obtain ⟨k2,⟨x1,x2,x3,rfl⟩,us,cs,eC,alc,lc,hc⟩:=p;obtain ⟨g,x,rfl,ng,rfl,y1⟩:=y;have t2:Tk H11 H2:=Tk.of_keep k2 e11;have ex:=y1 cvs (SqT.of (t2 _ _ (t11 _ _ hc7)));obtain ⟨pt,ept,b,rfl,hb⟩:=cal.get ex;have hpt:=Zqh (B.bd pt (n17_ ept));generalize gG:upd H2 g (.tup [.int i,.ref b])=H3;obtain ⟨sg,eg⟩:=gen_upd gG ng;have hb3:=sg _ _ (t2 _ _ (t11 _ _ hb));refine ⟨g,_,rfl,SqT.of eg,rfl,_,_,rfl,_,_,rfl,⟨b,_,rfl,SqT.of hb3,rfl,_,_,rfl,_,_,rfl,rfl,rfl,?_⟩⟩;refine ⟨_,rfl,_,rfl,_,_,rfl,rfl,mul4 Wa hpt.1,_,rfl,_,rfl,_,_,rfl,rfl,mul4 Wb hpt.2,_,_,rfl,rfl,_,rfl,_,_,rfl,rfl,?_⟩;refine ⟨_,rfl,_,rfl,_,_,rfl,rfl,mul4 Wc hpt.1,_,rfl,_,rfl,_,_,rfl,rfl,mul4 Wd hpt.2,_,_,rfl,rfl,_,rfl,_,_,rfl,rfl,?_⟩;refine ⟨z2_,fun w nw=>?_⟩;generalize hH4:upd H3 w _=H4;have sw:Same H3 H4:=by (rw [← hH4];exact Same.new nw)
   have ew0:=(congrFun hH4 w).symm;rw [Zc] at ew0;have ew:H4 w=some (.tup [.int (Aa*pt.1+Ab*pt.2+As),.int (Ac*pt.1+Ad*pt.2+At)]):=ew0;clear ew0 hH4;have s24:=sg.trans sw;have eO4:H4 O=some (.lst (o.map V.int)):=s24 _ _ (k2 _ _ nOC eO11);have bo:=CO.bd i hi;have eC4:=s24 _ _ eC;refine ⟨_,rfl,_,rfl,_,rfl,O,_,(i:Int),_,rfl,rfl,SqL.of eO4,o_at CO (Int.natCast_nonneg i) (Int.ofNat_lt.mpr hi),?_⟩;have ulen:us.length=pts.length:=by rw [alc.1,lc]
   refine ⟨C,us,_,(o.getD i 0).toNat,rfl,rfl,eC4,Zhu bo.1 (by rw [ulen];exact bo.2),?_⟩;have tC:Tk H4 (upd H4 C (.lst (us.set (o.getD i 0).toNat (.ref w)))):=Tk.upd_lst eC4;refine ⟨fun b' o' nb e=>?_,⟨_,_,_,rfl⟩,_,cs.set (o.getD i 0).toNat ((Aff.mk Aa Ab Ac Ad As At).at pt),Zc,?_,by simp [lc],fun j hj=>?_⟩
   · rw [Zl nb];exact s24 _ _ (k2 _ _ nb e)
   · exact Zpi (alc.imp fun v x r=>r.tk (s24.tk.trans tC)) _ ⟨w,rfl,tC _ _ ew⟩
   · rw [List.getElem?_set]
     by_cases hji:j=i
     · subst hji;rw [if_pos rfl,if_pos (by rw [lc];omega),n4_ (l:=pts),ept];rfl
     · rw [if_neg (fun z=>hji (CO.inj j i (?d) hi (by have b2:=CO.bd j (?d);omega)))];exact hc j (?d)
 · obtain ⟨k2,⟨x1,x2,x3,rfl⟩,us,cs,eC,alc,lc,hc⟩:=p;have t2:Tk H11 H2:=Tk.of_keep k2 e11;have t12:=t11.trans t2;have eO2:=k2 _ _ nOC eO11
   have l2:StAt H2 l:=by
    obtain ⟨a',b',c',e,r⟩:=l11;exact ⟨a',b',c',k2 _ _ nCl.symm e,r⟩
   have k02:Keep l H H2:=fun b' o' nb e=>k2 _ _ (Zj e nC0) (k11 _ _ nb e);have hp2:=t12 _ _ hp7;refine ⟨_,rfl,p,rfl,⟨_,SqT.of hp2⟩,fun D nD=>?_⟩;refine lc_T (k:=.t) (vs:=pvs) (fun H v pc=>∃ r,IsI H v r∧(r.Perm (pc.map (oAt o))∧r.Pairwise (·≤·))) (fun H1 H2 v x t r=>let ⟨r',i,j⟩:=r;⟨r',i.tk t,j⟩) pcs (by rw [pal.1]) (by rw [pal.1];have:=B.p4;omega) nD hp2 (fun i w H4 C' hw s4 c'=>?_) (fun H4 vs s4 e4 a4=>?_)
   · obtain ⟨pc,epc,b,rfl,hb⟩:=pal.get hw;have hb4:=s4 _ _ (t12 _ _ hb);obtain ⟨i1,j1,k1,rfl,bi,bj,bk,_⟩:=Zrp (B.pc _ (n17_ epc));refine ⟨_,rfl,b,rfl,⟨_,SqT.of hb4⟩,fun E nE=>?_⟩;refine lc_T (k:=.t) (vs:=[i1,j1,k1].map V.int) RI hRI ([i1,j1,k1].map (oAt o)) ?f ?f nE hb4 (fun n x H6 C6 hx s6 c6=>?_) (fun H6 us6 s6 e6 a6=>?_)
     · rw [n5_] at hx;obtain ⟨y,ey,rfl⟩:=n10_.mp hx
       have by':0≤y∧y<(pts.length:Int):=by
        have:=n17_ ey
        simp only [n12_,n16_,or_false] at this
        rcases this with rfl|rfl|rfl<;>assumption
       exact ⟨_,rfl,_,rfl,O,_,y,_,rfl,rfl,SqL.of (s6 _ _ (s4 _ _ eO2)),o_at CO by'.1 by'.2,c6 _ _ _ (Same.refl _) (by rw [n5_,ey];rfl) rfl⟩
     · rw [a6.ints] at e6;refine ⟨E,_,rfl,SqL.of e6,by simp,fun L ns' nL pm' so'=>?_⟩;have s7:Same H6 (upd H6 L (.lst (ns'.map V.int))):=Same.new nL;have e7:upd H6 L (.lst (ns'.map V.int)) L=some (.lst (ns'.map V.int)):=Zc;generalize upd H6 L (.lst (ns'.map V.int))=H7' at s7 e7 ⊢;refine ⟨L,_,rfl,.inl ⟨SqL.of e7,fun T' nT=>?_⟩⟩;exact c' _ _ [i1,j1,k1] (s6.trans (s7.trans (Same.new nT))) epc ⟨ns',⟨T',rfl,Zc⟩,pm',so'⟩
   · obtain ⟨kl,klen,kal,kT⟩:=Zmd a4;have DR:∀ q:?p,q.Perm (List.range pcs.length)→Drawn pts pcs (Aff.mk Aa Ab Ac Ad As At) o cs kl q:=fun q hq=>.of B hdet W CO lc hc klen (fun i hi=>kT i hi) hq;have D0:=DR _ (List.Perm.refl _);have p4:=B.p4;refine ⟨D,vs,kl,3,rfl,SqL.of e4,kal.1,fun i v hv=>?_,D0.knd,by rw [klen];exact p4,fun k hk=>?_,?k,fun L q nL qp rise=>?_⟩
     · obtain ⟨k,ek,b,rfl,hb⟩:=kal.get hv;exact ⟨b,k,rfl,ek,SqT.of hb⟩
     · obtain ⟨n,hn,rfl⟩:=n50_ hk;rw [klen] at hn;obtain ⟨_,_,_,x,y,z,_,e,_⟩:=D0.piece hn
       have:kl[n]=[x,y,z]:=by rw [← e,n4_,n0_ (by rw [klen];exact hn)];rfl
       rw [this];rfl
     · rw [klen] at qp;have D1:=DR q qp;have s5:Same H4 (upd H4 L (.lst (q.map fun i=>vs.getD i .non))):=Same.new nL;have e5:upd H4 L (.lst (q.map fun i=>vs.getD i .non)) L=some (.lst (q.map fun i=>vs.getD i .non)):=Zc;have nLl:L≠l:=(l2.same s4).neN nL;generalize upd H4 L (.lst (q.map fun i=>vs.getD i .non))=H5 at s5 e5 ⊢;have s25:=s4.trans s5;have l5:=l2.same s25;have k05:=k02.trans s25.keep;have qlen:q.length=pcs.length:=by rw [qp.length_eq,n69_]
       refine ⟨_,rfl,L,rfl,⟨_,SqL.of e5⟩,fun E nE=>?_⟩;refine Zmr (n:=pcs.length) (l:=l) (fun H v (x:Int)=>v=.int x∧1≤x∧x≤9) (fun _ _ _ _ _ r=>r) (?d) (fun σ=>∃ u,σ=[u,some (.ref l)]) ?K nE l5 (fun i H6 k6 hi=>⟨_,_,SqL.of (k6 _ _ nLl e5),n0_ (by simp [qlen];exact hi)⟩) (fun H6 k6=>⟨_,SqL.of (k6 _ _ nLl e5),by simp [qlen]⟩) (fun i x σ2 H6 H7' C' hi k6 l6 y o' c'=>?_) (fun H6 ts ys k6 l6 e6 hy a6=>?_)
       · obtain ⟨u,rfl⟩:=o';obtain ⟨rfl,y2⟩:=y;refine ⟨_,rfl,z2_,fun W' nW=>?_⟩;have s8':Same H7' (upd H7' W' (.lst [.int 9,.int 2])):=Same.new nW;have e8':upd H7' W' (.lst [.int 9,.int 2]) W'=some (.lst [.int 9,.int 2]):=Zc;have nWl:W'≠l:=l6.neN nW;generalize upd H7' W' (.lst [.int 9,.int 2])=H8' at s8' e8' ⊢;refine ⟨_,rfl,l,2,rfl,l6.same s8',?k,Y5 ?e,fun r9 H9' r90 r91 k9 l9=>?_⟩;have hr9:r9=0∨r9=1:=?d
         have fin:∀ m:Int,0<m→m≤9→Zel [.ref l,.int m] H9' (fun v H=>rI0 (fun i j=>V.int (i+j)) (V.int 1) v H (C' [some x,some (.ref l)])) E0:=fun m m0 m9=>⟨l,m,rfl,l9,m0,Y5 (by show _<18446744073709551616;omega),fun r10 H10' ra rb k10 l10=>⟨_,_,rfl,rfl,c' _ _ _ _ ?K (s8'.keep.trans (k9.trans k10)) l10 ⟨rfl,?d,?d⟩⟩⟩
         rcases hr9 with rfl|rfl
         · exact ⟨W',_,_,_,rfl,rfl,SqL.of (k9 _ _ nWl e8'),rfl,fin 9 ?e ?e⟩
         · exact ⟨W',_,_,_,rfl,rfl,SqL.of (k9 _ _ nWl e8'),rfl,fin 2 ?e ?e⟩
       · have ets:ts=ys.map V.int:=by
          refine (Al.ints (ns:=ys) ?_);exact a6.imp fun v x r=>r.1
         refine ⟨E,ts,rfl,.inl ⟨SqL.of e6,fun T' nT=>?_⟩⟩;have s7:Same H6 (upd H6 T' (.tup ts)):=Same.new nT;have e7:upd H6 T' (.tup ts) T'=some (.tup (ys.map V.int)):=by rw [Zc,ets]
         generalize upd H6 T' (.tup ts)=H7' at s7 e7 ⊢;have t57:Tk H5 H7':=(tkS k6 l5).trans s7.tk;have t27:Tk H2 H7':=s25.tk.trans t57;have k07:=k05.trans (k6.trans s7.keep);have l7':=l6.same s7;have nDl:C≠l:=nCl;have eC7:H7' C=some (.lst us):=s7 _ _ (k6 _ _ nCl (s25 _ _ eC));have eL7:H7' L=some (.lst (q.map fun i=>vs.getD i .non)):=s7 _ _ (k6 _ _ nLl e5);refine ⟨_,rfl,C,us,rfl,.inl ⟨SqL.of eC7,fun T1 n1=>?_⟩⟩;generalize gG:upd H7' T1 (.tup us)=G1;obtain ⟨u1,f1⟩:=gen_upd gG n1;refine ⟨_,rfl,L,_,rfl,.inl ⟨SqL.of (u1 _ _ eL7),fun T2 n2=>?_⟩⟩;generalize gG:upd G1 T2 (.tup (q.map fun i=>vs.getD i .non))=G2;obtain ⟨u2,f2⟩:=gen_upd gG n2;have u02:=u1.trans u2;refine ⟨_,rfl,_,rfl,l,10,rfl,l7'.same u02,?k,Y5 ?e,fun rl G3 rl0 rl1 k3' l3'=>?_⟩;refine ⟨_,rfl,l,9,rfl,l3',?k,Y5 ?e,fun rm G4 rm0 rm1 k4' l4'=>⟨_,_,rfl,rfl,z2_,fun T4 n4=>?_⟩⟩;generalize gG:upd G4 T4 (.tup [.int rl,.int (1+rm)])=G5;obtain ⟨u5,f5⟩:=gen_upd gG n4;refine ⟨z4_,fun T5 n5=>?_⟩;have u6:Same G5 (upd G5 T5 (.tup [.ref T1,.ref T2,.ref T',.ref T4])):=Same.new n5;have w24:Tk G2 G4:=(tkS k3' (l7'.same u02)).trans (tkS k4' l3');have w26:Tk G2 (upd G5 T5 (.tup [.ref T1,.ref T2,.ref T',.ref T4])):=w24.trans (u5.trans u6).tk;have w76:=u02.tk.trans w26;refine q' _ _ ⟨cs,?ad,ys,rl,1+rm⟩ (k07.trans (u02.keep.trans (k3'.trans (k4'.trans (u5.trans u6).keep)))) (l4'.same (u5.trans u6)) ⟨T5,_,_,_,_,rfl,Zc,⟨T1,us,rfl,w26 _ _ (u2 _ _ f1),alc.imp fun v x r=>r.tk (t27.trans w76)⟩,⟨T2,_,rfl,w26 _ _ f2,?_⟩,⟨T',rfl,w76 _ _ e7⟩,⟨T4,rfl,u6 _ _ f5⟩⟩ (D1.ok rise (by rw [hy]) (fun t ht=>?_) ⟨rl0,?d⟩ ⟨?d,?d⟩) (show (?ad).length≤4 by rw [n3_,qlen];exact p4) (show cs.length≤6 by omega)
         · refine (Zwz kal (q:=q) fun i hi=>?_).imp fun v x r=>r.tk (s5.tk.trans (t57.trans w76));rw [klen];exact n32_.mp (qp.mem_iff.mp hi)
         · obtain ⟨i,hi,e⟩:=n50_ ht;obtain ⟨v,_,r⟩:=a6.got (show ys[i]? = some t by rw [n0_ hi,e]);exact r.2
abbrev Zbf:Stmt:=top 51
theorem Zjj (F:Fun K "_law_row" "_law_row" Zbf f fd) (Ce_:a27_ P w K mg base):FnOk P w K mg base CX0 3 f fd ["_law_state_here","_law_many"] Znc:=by
 have sc:FnScope ["_law_state_here","_law_many"] ["_law_state_here","_law_many"] (Zf Zbf):=fsc (?i);refine F.ok sc (fun vs H Q E h=>by obtain ⟨l,n,rfl,_⟩:=h;rfl) ?I;obtain ⟨l,n,rfl,hl,h1000,q⟩:=h;refine' ?J
 case term=>refine' Zi (Zq (Zo Zn rfl T.b_tuple Zt (Za (Y6 (N:=["_law_turn","_law_state_here"]) (fr:=[none,some 0]) rfl (Z1 (XN:=["_law_state_here","_law_many"]) (Scope.names (Zf Zbf)) rfl rfl rfl (fun _ h=>Zx h) (?i) rfl) (Yy rfl T.b_range ?P) ?X ?R (fun _ _ _ _=>Zh Ce_ hr ?e rfl ?P)) Zb rfl)))
 refine ⟨_,rfl,n,rfl,?d,?d,fun D nD=>?_⟩;refine Zmr (n:=n) (l:=l) (fun H v (x:Rat)=>IsQ H v x∧FM.B 60 x∧x.den∣60) (fun H1 H2 v x t r=>⟨r.1.tk t,r.2⟩) h1000 (fun σ=>∃ u,σ=[u,some (.ref l)]) ?K nD hl (fun i H2 k hi=>hi) (fun H2 k=>n7_ _) (fun i x σ2 H2 H3 C hi k2 l2 y o c=>?_) (fun H2 vs ys k2 l2 e2 hy a2=>?_)
 · obtain ⟨u,rfl⟩:=o;obtain ⟨rfl,rfl⟩:=y;exact ⟨_,rfl,l,rfl,l2,fun H5 p x k5 l5 hp hB=>c _ _ _ x ?K k5 l5 ⟨⟨p,rfl,hp⟩,hB⟩⟩
 · refine ⟨D,vs,rfl,.inl ⟨SqL.of e2,fun t nt=>?_⟩⟩;have s3:Same H2 (upd H2 t (.tup vs)):=Same.new nt;refine q _ _ ys (k2.trans s3.keep) (l2.same s3) ⟨t,vs,rfl,Zc,a2.imp fun v x r=>r.1.tk s3.tk⟩ hy (fun x hx=>?_) (fun x hx=>?_)
   · obtain ⟨i,hi,e⟩:=n50_ hx;obtain ⟨v,_,r⟩:=a2.got (show ys[i]? = some x by rw [n0_ hi,e]);exact r.2.1
   · obtain ⟨i,hi,e⟩:=n50_ hx;obtain ⟨v,_,r⟩:=a2.got (show ys[i]? = some x by rw [n0_ hi,e]);exact r.2.2
abbrev Xk:Stmt:=top 52
theorem Ze0 (F:Fun K "_law_slopes" "_law_slopes" Xk f fd) (Cd_:a23_ P w K mg base):FnOk P w K mg base CX0 2 f fd ["_law_plate_here","_law_piece"] Ze6:=by
 have sc:FnScope ["_law_plate_here","_law_piece","_law_points","_law_xa","_law_ya","_law_xb","_law_yb","_law_xc","_law_yc","_law_d","_law_found","_law_at","_law_xj","_law_yj","_law_xk","_law_yk"] ["_law_plate_here","_law_piece"] (Zf Xk):=fsc (?i);refine F.ok sc (fun vs H Q E h=>by obtain ⟨v,P',n,rfl,_⟩:=h;rfl) ?I;obtain ⟨v,P',n,rfl,⟨a,c,p',t,st,rfl,ha,⟨a',us,rfl,ha',al⟩,⟨b',ws,rfl,hb',bl⟩,ht,hs⟩,ok,h0,h1,q⟩:=h;have nd:=sc.nd;refine' ?J
 case term=>refine' Ze (Zfe (N:=["_law_at","_law_plate_here"]) (fr:=[none,some 0]) rfl rfl (Zk (i:=2) nd rfl ?o) (Z1 (XN:=["_law_plate_here","_law_piece","_law_points","_law_xa","_law_ya","_law_xb","_law_yb","_law_xc","_law_yc","_law_d","_law_found","_law_at","_law_xj","_law_yj","_law_xk","_law_yk"]) (Scope.names (Zf Xk)) rfl rfl rfl (fun _ h=>Zx h) (?i) rfl) (Zai (Zv Zw (Zv Zw (pv 0) Zd (?l)) (pv 1) (?l))) ?X ?R (fun _ _ _ _=>Zv (Zet K rfl) (Zv (Zet K rfl) (pv 1) Zd (?l)) (pv 0) (?l))) ?g1;case g1=>refine' Ze (Yx (pv 2) (Zvc (n:=3) rfl (Zg (Z2 (n:=2) rfl (Zg (Zk (i:=3) nd rfl ?o) (Zg (Zk (i:=4) nd rfl ?o) Zz))) (Zg (Z2 (n:=2) rfl (Zg (Zk (i:=5) nd rfl ?o) (Zg (Zk (i:=6) nd rfl ?o) Zz))) (Zg (Z2 (n:=2) rfl (Zg (Zk (i:=7) nd rfl ?o) (Zg (Zk (i:=8) nd rfl ?o) Zz))) Zz))))) ?g2;case g2=>refine' Ze (Z0 (i:=9) nd rfl ?o (Zp Xz (Zp Zy (Zp Xz (pv 5) (pv 3)) (Zp Xz (pv 8) (pv 4))) (Zp Zy (Zp Xz (pv 7) (pv 3)) (Zp Xz (pv 6) (pv 4))))) ?g3;case g3=>refine' Ze (Z0 (i:=10) nd rfl ?o (Yj Zb)) ?g4;case g4=>refine' Ze ?g5 (Zi (Zq (Zr (Za (pv 9) (Za (pv 10) Zb rfl) rfl))));case g5=>refine' Y7 PassesOwn.never rfl (Yy rfl T.b_range ?G) (Zk (i:=11) nd rfl ?o) ?g6;case g6=>refine' Ze ?g7 ?g8;(case g7=>refine' Yx ?g9 (Z2 (n:=2) rfl (Zg (Z2 (n:=2) rfl (Zg (Zk (i:=12) nd rfl ?o) (Zg (Zk (i:=13) nd rfl ?o) Zz))) (Zg (Z2 (n:=2) rfl (Zg (Zk (i:=14) nd rfl ?o) (Zg (Zk (i:=15) nd rfl ?o) Zz))) Zz)));case g9=>refine' Zr ?ga;case ga=>refine' Za (Zv Ym (pv 2) (Zp X9 (Zp Yr (pv 11) Zd) Zd) (?l)) (Za (Zv Ym (pv 2) (Zp X9 (Zp Yr (pv 11) Zd) Zd) (?l)) Zb rfl) rfl);case g8=>refine' Zi ?gb;case gb=>refine' Xq ?gc;case gc=>refine' Zg4 PySem.F.plainAttrs_list PySem.F.slot_list_append PySem.F.type_list_append Xi (pv 10) ?gd;case gd=>refine' Za ?ge Zb rfl;case ge=>refine' Zr ?gf;case gf=>refine' Za ?gg (Za (Zh Cd_ hr ?e rfl (Za (Zp Xz (pv 13) (pv 15)) (Za (pv 9) Zb rfl) rfl)) (Za (Zh Cd_ hr ?e rfl (Za (Zp Xz (pv 14) (pv 12)) (Za (pv 9) Zb rfl) rfl)) Zb rfl) rfl) rfl;case gg=>refine' Zv Zw ?gh (pv 11) (?l);case gh=>refine' Zv Zw (Zv Zw (pv 0) Zd (?l)) (pv 1) (?l)
 have pk:=ok.pc _ (Zas h0 h1);obtain ⟨c1,c2,c3⟩:=Zmx ok.nr pk.len pk.bd;obtain ⟨pv',ev,b,rfl,hb⟩:=Zt1 bl h0 h1;have hl:=pk.len;have bd:=pk.bd;generalize hp:pcOf P' n=p at *;have nr:=ok.nr;generalize P'.cs=cs at *;refine ⟨_,rfl,a,_,1,_,rfl,rfl,SqT.of ha,rfl,_,rfl,b',ws,n,_,rfl,rfl,SqT.of hb',ev,b,rfl,⟨_,SqT.of hb⟩,fun D nD=>?_⟩;refine lc_T (k:=.t) (vs:=p.map V.int) IsP hRP (p.map (cAt cs)) ?f (by simp [hl]) nD hb (fun i w H2 C hw s2 c=>?_) (fun H2 us' s2 eD a2=>?_)
 · rw [n5_] at hw;obtain ⟨x,ex,rfl⟩:=n10_.mp hw;obtain ⟨b1,b2⟩:=bd x (n17_ ex);obtain ⟨v,ev',rv⟩:=Zv4 al b1 b2;exact ⟨_,rfl,a,_,0,_,rfl,rfl,SqT.of (s2 _ _ ha),rfl,_,rfl,a',us,x,v,rfl,rfl,SqT.of (s2 _ _ ha'),ev',c _ _ _ (Same.refl _) (by rw [n5_,ex];rfl) (rv.tk s2.tk)⟩
 · obtain ⟨x,y,z,rfl,⟨pa,rfl,hx⟩,⟨pb,rfl,hy⟩,⟨pc,rfl,hz⟩⟩:=cs3 (al.imp fun v x r=>r.tk s2.tk) hl bd a2;obtain ⟨⟨x1,x2⟩,x3,x4⟩:=nr (cAt cs (p.getD 0 0)) (by obtain ⟨i,j,k,rfl⟩:=len3 hl;exact Zcv (bd i ?f).1 (bd i ?f).2);obtain ⟨⟨y1,y2⟩,y3,y4⟩:=nr (cAt cs (p.getD 1 0)) (by obtain ⟨i,j,k,rfl⟩:=len3 hl;exact Zcv (bd j ?f).1 (bd j ?f).2);obtain ⟨⟨z1,z2⟩,z3,z4⟩:=nr (cAt cs (p.getD 2 0)) (by obtain ⟨i,j,k,rfl⟩:=len3 hl;exact Zcv (bd k ?f).1 (bd k ?f).2)
   have atp:∀ i:Nat,i<3→atI (p.map V.int) ((0:Int)+(i:Int))=some (.int (p.getD i 0)):=fun i hi=>by
    rw [Int.zero_add];refine Ys ?_;rw [n5_,n0_ (?d),n4_,n0_ (?d)];rfl
   refine ⟨_,rfl,D,_,rfl,SqL.of eD,rfl,_,_,rfl,pa,_,rfl,SqT.of hx,rfl,_,_,rfl,_,_,rfl,rfl,_,_,rfl,pb,_,rfl,SqT.of hy,rfl,_,_,rfl,_,_,rfl,rfl,_,_,rfl,pc,_,rfl,SqT.of hz,rfl,_,_,rfl,_,_,rfl,rfl,rfl,?_⟩;refine ⟨_,rfl,_,rfl,_,_,rfl,rfl,_,rfl,_,rfl,_,_,rfl,rfl,_,_,rfl,rfl,mul3 (?d) (?d),_,rfl,_,rfl,_,_,rfl,rfl,_,rfl,_,rfl,_,_,rfl,rfl,_,_,rfl,rfl,mul3 (?d) (?d),_,_,rfl,rfl,?_⟩;refine ⟨z0_,fun F nF=>?_⟩;have s3:Same H2 (upd H2 F (.lst [])):=Same.new nF;have eF:upd H2 F (.lst []) F=some (.lst []):=Zc;have nDF:D≠F:=Zj eD nF;generalize upd H2 F (.lst [])=HF at s3 eF ⊢;have sF:=s2.trans s3;replace eD:=s3 _ _ eD;replace hx:=s3 _ _ hx;replace hy:=s3 _ _ hy;replace hz:=s3 _ _ hz
   have nF0:H F=none:=by
    cases e:H F with
    | none=>rfl
    | some o=>rw [s2 _ _ e] at nF;cases nF
   refine ⟨3,rfl,?k,?k,?_⟩;refine Yu (n:=3) (fun i σ H2=>Keep F HF H2∧(∃ g1 g2 g3 g4 g5,σ=[some (.ref a),some (.int n),some (.ref D),some (.int (cAt cs (p.getD 0 0)).1),some (.int (cAt cs (p.getD 0 0)).2),some (.int (cAt cs (p.getD 1 0)).1),some (.int (cAt cs (p.getD 1 0)).2),some (.int (cAt cs (p.getD 2 0)).1),some (.int (cAt cs (p.getD 2 0)).2),some (.int (dOf cs p)),some (.ref F),g1,g2,g3,g4,g5])∧∃ fs,H2 F=some (.lst fs)∧Al (Zn7 H2) fs ((slQ cs p).take i)) ⟨Keep.refl _ _,⟨_,_,_,_,_,rfl⟩,[],eF,.nil⟩ (fun i σ H2 hi p=>hi) (fun σ H2 p=>n7_ _) (fun i x σ H2 H3 hi y p=>?_) (fun σ H2 p=>?_)
   · obtain ⟨k2,⟨g1,g2,g3,g4,g5,rfl⟩,fs,eF2,alF⟩:=p;obtain ⟨rfl,rfl⟩:=y;have hi3:i=0∨i=1∨i=2:=?d
     rcases hi3 with rfl|rfl|rfl
     · refine ⟨_,rfl,_,rfl,_,_,rfl,rfl,_,_,rfl,rfl,(by show (3:Int)≠0;decide),D,_,_,_,rfl,rfl,SqL.of (k2 _ _ nDF eD),rfl,?_⟩;refine ⟨_,rfl,_,rfl,_,_,rfl,rfl,_,_,rfl,rfl,(by show (3:Int)≠0;decide),D,_,_,_,rfl,rfl,SqL.of (k2 _ _ nDF eD),rfl,z2_,fun Z nZ=>?_⟩;generalize gG:upd H3 Z (.tup [.ref pb,.ref pc])=H4;obtain ⟨sZ,eZ⟩:=gen_upd gG nZ;have kt:Tk HF H4:=(Tk.of_keep k2 eF).trans sZ.tk;refine ⟨Z,_,rfl,SqT.of eZ,rfl,_,_,rfl,pb,_,rfl,SqT.of (kt _ _ hy),rfl,_,_,rfl,_,_,rfl,rfl,_,_,rfl,pc,_,rfl,SqT.of (kt _ _ hz),rfl,_,_,rfl,_,_,rfl,rfl,rfl,?_⟩;have eF4:=sZ _ _ eF2;have nZF:Z≠F:=fun z=>by rw [z] at nZ;rw [nZ] at eF2;cases eF2
       refine ⟨_,rfl,.inl ⟨rfl,_,SqL.of eF4⟩,_,rfl,a,_,1,_,rfl,rfl,SqT.of (kt _ _ (sF _ _ ha)),rfl,_,rfl,b',ws,n,_,rfl,rfl,SqT.of (kt _ _ (sF _ _ hb')),ev,_,rfl,b,_,_,_,rfl,rfl,SqT.of (kt _ _ (sF _ _ hb)),(atp 0 ?e),?_⟩;refine ⟨_,rfl,_,rfl,_,_,rfl,rfl,_,rfl,_,_,rfl,pk.d,n14_ c3 ?e,fun u1 H5 s5 hu1'=>?_⟩;refine ⟨_,rfl,_,rfl,_,_,rfl,rfl,_,rfl,_,_,rfl,pk.d,n14_ c3 ?e,fun u2 H6 s6 hu2'=>?_⟩;refine ⟨z3_,fun W nW=>?_⟩;generalize hH7:upd H6 W _=H7;have s7:Same H6 H7:=by (rw [← hH7];exact Same.new nW)
       have e7:=(congrFun hH7 W).symm;rw [Zc] at e7;clear hH7;have s47:=s5.trans (s6.trans s7);refine ⟨F,_,_,rfl,rfl,s47 _ _ eF4,by rw [alF.1,sizeLine_eq];exact n14_ (List.length_take_le _ _) ?e,?_⟩;have tF:Tk H7 (upd H7 F (.lst (fs++[.ref W]))):=Tk.upd_lst (s47 _ _ eF4);have t37:Tk H3 H7:=sZ.tk.trans s47.tk;refine ⟨fun b1 o1 nb e=>?_,⟨_,_,_,_,_,rfl⟩,_,Zc,?_⟩
       · rw [Zl nb];exact s47 _ _ (sZ _ _ (k2 _ _ nb e))
       · exact ?as
     · refine ⟨_,rfl,_,rfl,_,_,rfl,rfl,_,_,rfl,rfl,(by show (3:Int)≠0;decide),D,_,_,_,rfl,rfl,SqL.of (k2 _ _ nDF eD),rfl,?_⟩;refine ⟨_,rfl,_,rfl,_,_,rfl,rfl,_,_,rfl,rfl,(by show (3:Int)≠0;decide),D,_,_,_,rfl,rfl,SqL.of (k2 _ _ nDF eD),rfl,z2_,fun Z nZ=>?_⟩;generalize gG:upd H3 Z (.tup [.ref pc,.ref pa])=H4;obtain ⟨sZ,eZ⟩:=gen_upd gG nZ;have kt:Tk HF H4:=(Tk.of_keep k2 eF).trans sZ.tk;refine ⟨Z,_,rfl,SqT.of eZ,rfl,_,_,rfl,pc,_,rfl,SqT.of (kt _ _ hz),rfl,_,_,rfl,_,_,rfl,rfl,_,_,rfl,pa,_,rfl,SqT.of (kt _ _ hx),rfl,_,_,rfl,_,_,rfl,rfl,rfl,?_⟩;have eF4:=sZ _ _ eF2;have nZF:Z≠F:=fun z=>by rw [z] at nZ;rw [nZ] at eF2;cases eF2
       refine ⟨_,rfl,.inl ⟨rfl,_,SqL.of eF4⟩,_,rfl,a,_,1,_,rfl,rfl,SqT.of (kt _ _ (sF _ _ ha)),rfl,_,rfl,b',ws,n,_,rfl,rfl,SqT.of (kt _ _ (sF _ _ hb')),ev,_,rfl,b,_,_,_,rfl,rfl,SqT.of (kt _ _ (sF _ _ hb)),(atp 1 ?e),?_⟩;refine ⟨_,rfl,_,rfl,_,_,rfl,rfl,_,rfl,_,_,rfl,pk.d,n14_ c3 ?e,fun u1 H5 s5 hu1'=>?_⟩;refine ⟨_,rfl,_,rfl,_,_,rfl,rfl,_,rfl,_,_,rfl,pk.d,n14_ c3 ?e,fun u2 H6 s6 hu2'=>?_⟩;refine ⟨z3_,fun W nW=>?_⟩;generalize hH7:upd H6 W _=H7;have s7:Same H6 H7:=by (rw [← hH7];exact Same.new nW)
       have e7:=(congrFun hH7 W).symm;rw [Zc] at e7;clear hH7;have s47:=s5.trans (s6.trans s7);refine ⟨F,_,_,rfl,rfl,s47 _ _ eF4,by rw [alF.1,sizeLine_eq];exact n14_ (List.length_take_le _ _) ?e,?_⟩;have tF:Tk H7 (upd H7 F (.lst (fs++[.ref W]))):=Tk.upd_lst (s47 _ _ eF4);have t37:Tk H3 H7:=sZ.tk.trans s47.tk;refine ⟨fun b1 o1 nb e=>?_,⟨_,_,_,_,_,rfl⟩,_,Zc,?_⟩
       · rw [Zl nb];exact s47 _ _ (sZ _ _ (k2 _ _ nb e))
       · exact ?as
     · refine ⟨_,rfl,_,rfl,_,_,rfl,rfl,_,_,rfl,rfl,(by show (3:Int)≠0;decide),D,_,_,_,rfl,rfl,SqL.of (k2 _ _ nDF eD),rfl,?_⟩;refine ⟨_,rfl,_,rfl,_,_,rfl,rfl,_,_,rfl,rfl,(by show (3:Int)≠0;decide),D,_,_,_,rfl,rfl,SqL.of (k2 _ _ nDF eD),rfl,z2_,fun Z nZ=>?_⟩;generalize gG:upd H3 Z (.tup [.ref pa,.ref pb])=H4;obtain ⟨sZ,eZ⟩:=gen_upd gG nZ;have kt:Tk HF H4:=(Tk.of_keep k2 eF).trans sZ.tk;refine ⟨Z,_,rfl,SqT.of eZ,rfl,_,_,rfl,pa,_,rfl,SqT.of (kt _ _ hx),rfl,_,_,rfl,_,_,rfl,rfl,_,_,rfl,pb,_,rfl,SqT.of (kt _ _ hy),rfl,_,_,rfl,_,_,rfl,rfl,rfl,?_⟩;have eF4:=sZ _ _ eF2;have nZF:Z≠F:=fun z=>by rw [z] at nZ;rw [nZ] at eF2;cases eF2
       refine ⟨_,rfl,.inl ⟨rfl,_,SqL.of eF4⟩,_,rfl,a,_,1,_,rfl,rfl,SqT.of (kt _ _ (sF _ _ ha)),rfl,_,rfl,b',ws,n,_,rfl,rfl,SqT.of (kt _ _ (sF _ _ hb')),ev,_,rfl,b,_,_,_,rfl,rfl,SqT.of (kt _ _ (sF _ _ hb)),(atp 2 ?e),?_⟩;refine ⟨_,rfl,_,rfl,_,_,rfl,rfl,_,rfl,_,_,rfl,pk.d,n14_ c3 ?e,fun u1 H5 s5 hu1'=>?_⟩;refine ⟨_,rfl,_,rfl,_,_,rfl,rfl,_,rfl,_,_,rfl,pk.d,n14_ c3 ?e,fun u2 H6 s6 hu2'=>?_⟩;refine ⟨z3_,fun W nW=>?_⟩;generalize hH7:upd H6 W _=H7;have s7:Same H6 H7:=by (rw [← hH7];exact Same.new nW)
       have e7:=(congrFun hH7 W).symm;rw [Zc] at e7;clear hH7;have s47:=s5.trans (s6.trans s7);refine ⟨F,_,_,rfl,rfl,s47 _ _ eF4,by rw [alF.1,sizeLine_eq];exact n14_ (List.length_take_le _ _) ?e,?_⟩;have tF:Tk H7 (upd H7 F (.lst (fs++[.ref W]))):=Tk.upd_lst (s47 _ _ eF4);have t37:Tk H3 H7:=sZ.tk.trans s47.tk;refine ⟨fun b1 o1 nb e=>?_,⟨_,_,_,_,_,rfl⟩,_,Zc,?_⟩
       · rw [Zl nb];exact s47 _ _ (sZ _ _ (k2 _ _ nb e))
       · exact ?as
   · obtain ⟨k2,⟨g1,g2,g3,g4,g5,rfl⟩,fs,eF2,alF⟩:=p;have s02:Same H H2:=fun b1 o1 e=>k2 _ _ (Zj e nF0) (sF _ _ e);refine ⟨_,rfl,_,rfl,z2_,fun R nR=>?_⟩;have s4:Same H2 (upd H2 R (.tup [.int (dOf cs p),.ref F])):=Same.new nR;exact q _ R F fs (s02.trans s4) Zc nF0 (s4 _ _ eF2) (alF.imp fun v x r=>Zcf s4.tk r)
abbrev Zat:Stmt:=top 53
theorem Zex (F:Fun K "_law_strain" "_law_strain" Zat f fd) (Cb_:a28_ P w K mg base) (Cm_:a29_ P w K mg base) (Cq_:a30_ P w K mg base):FnOk P w K mg base CX0 4 f fd ["_law_plate_here","_law_motions","_law_piece"] Zfm:=by
 have sc:FnScope ["_law_plate_here","_law_motions","_law_piece","_law_e","_law_f","_law_g","_law_corner","_law_b","_law_c","_law_u","_law_v"] ["_law_plate_here","_law_motions","_law_piece"] (Zf Zat):=fsc (?i);refine F.ok sc (fun vs H Q E h=>by obtain ⟨v,w,P',n,ms,rfl,_⟩:=h;rfl) ?I;obtain ⟨v,w,P',n,ms,rfl,hv,ok,h0,h1,⟨am,ums,rfl,ham,alm⟩,hm,hB,q⟩:=h;have nd:=sc.nd;refine' ?J
 case term=>refine' Ze (Zjt rfl nd (i:=3) (j:=4) (k:=5) rfl rfl rfl ?e ?e ?e rfl rfl rfl (Za (Yj Zb) (Za (Yj Zb) (Za (Yj Zb) Zb rfl) rfl) rfl) rfl) ?g1;case g1=>refine' Ze ?g2 (Zi (Zq (Zr (Za (Zh Cq_ hr ?e rfl (Za (pv 3) Zb rfl)) (Za (Zh Cq_ hr ?e rfl (Za (pv 4) Zb rfl)) (Za (Zh Cq_ hr ?e rfl (Za (pv 5) Zb rfl)) Zb rfl) rfl) rfl))));case g2=>refine' Y7 PassesOwn.never rfl (Yl (Zv Zw (Zh Cm_ hr ?e rfl (Za (pv 0) ?Y rfl)) Zd (?l))) (Z2 (n:=3) rfl (Zg (Zk (i:=6) nd rfl ?o) (Zg (Zk (i:=7) nd rfl ?o) (Zg (Zk (i:=8) nd rfl ?o) Zz)))) ?g3;case g3=>refine' Ze ?g4 (Ze (Xq (Zg4 PySem.F.plainAttrs_list PySem.F.slot_list_append PySem.F.type_list_append Xi (pv 3) (Za (Zh Cb_ hr ?e rfl (Za (pv 7) (Za (pv 9) Zb rfl) rfl)) Zb rfl))) (Ze (Xq (Zg4 PySem.F.plainAttrs_list PySem.F.slot_list_append PySem.F.type_list_append Xi (pv 4) (Za (Zh Cb_ hr ?e rfl (Za (pv 8) (Za (pv 10) Zb rfl) rfl)) Zb rfl))) (Zi (Z0 (i:=5) nd rfl ?o (Zp Zqv (pv 5) (Yj (Za (Zh Cb_ hr ?e rfl (Za (pv 8) (Za (pv 9) Zb rfl) rfl)) (Za (Zh Cb_ hr ?e rfl (Za (pv 7) (Za (pv 10) Zb rfl) rfl)) Zb rfl) rfl)))))));case g4=>refine' Zb7 (i:=9) (j:=10) rfl nd rfl rfl ?e rfl rfl ?g5 rfl;case g5=>refine' Za (Zv Zw (pv 1) (Zp Zy Zd (pv 6)) (?l)) (Za (Zv Zw (pv 1) (Zp Yr (Zp Zy Zd (pv 6)) Zd) (?l)) Zb rfl) rfl
 have pk:=ok.pc _ (Zas h0 h1);have sb:=sl_B ok h0 h1;have c30:=ok.c30;refine ⟨z0_,fun E nE=>?_⟩;generalize gG:upd H E (.lst [])=H1;obtain ⟨s1,e1⟩:=gen_upd gG nE;refine ⟨z0_,fun F nF=>?_⟩;have s2:Same H1 (upd H1 F (.lst [])):=Same.new nF;have e2:upd H1 F (.lst []) F=some (.lst []):=Zc;have nEF:E≠F:=Zj e1 nF
 have nF0:H F=none:=by
  cases e:H F with
  | none=>rfl
  | some o=>rw [s1 _ _ e] at nF;cases nF
 generalize upd H1 F (.lst [])=H2 at s2 e2 ⊢;refine ⟨z0_,fun G nG=>?_⟩;have s3:Same H2 (upd H2 G (.lst [])):=Same.new nG;have e3:upd H2 G (.lst []) G=some (.lst []):=Zc;have nGE:G≠E:=fun z=>by rw [z,s2 _ _ e1] at nG;cases nG
 have nGF:G≠F:=fun z=>by rw [z,e2] at nG;cases nG
 generalize upd H2 G (.lst [])=H3 at s3 e3 ⊢;have s03:=s1.trans (s2.trans s3);refine ⟨_,_,_,rfl,?_⟩;refine ⟨_,rfl,_,rfl,v,P',n,rfl,hv.tk s03.tk,ok,h0,h1,fun H4 r f' us s4 hr4 nf4 hf4 al4=>?_⟩;have nfE:f'≠E:=fun z=>by rw [z,s3 _ _ (s2 _ _ e1)] at nf4;cases nf4
 have nfF:f'≠F:=fun z=>by rw [z,s3 _ _ e2] at nf4;cases nf4
 refine ⟨r,_,1,_,rfl,rfl,SqT.of hr4,rfl,f',rfl,⟨_,SqL.of hf4⟩,?_⟩;generalize hrs:slQ P'.cs (pcOf P' n)=rs at *;have ulen:=al4.1;have rlen:rs.length=3:=by rw [← hrs];rfl
 refine Yu (n:=rs.length) (fun i σ H5=>(∀ b o,b≠E→b≠F→H4 b=some o→H5 b=some o)∧Tk H4 H5∧∃ g1 g2 g3 g4 g5,∃ G':Addr,σ=[some v,some (.ref am),some (.int n),some (.ref E),some (.ref F),some (.ref G'),g1,g2,g3,g4,g5]∧G'≠E∧G'≠F∧∃ es fs gs,H5 E=some (.lst es)∧H5 F=some (.lst fs)∧H5 G'=some (.lst gs)∧Al (IsQ H5) es (eL ms (rs.take i))∧Al (IsQ H5) fs (fL ms (rs.take i))∧Al (IsQ H5) gs (gL ms (rs.take i)))
  ⟨fun b o _ _ e=>e,Tk.refl,_,_,_,_,_,G,rfl,nGE,nGF,[],[],[],s4 _ _ (s3 _ _ (s2 _ _ e1)),s4 _ _ (s3 _ _ e2),s4 _ _ e3,.nil,.nil,.nil⟩ (fun i σ H5 hi p=>⟨us,us[i]'(?d),SqL.of (p.1 _ _ nfE nfF hf4),n0_ (?d)⟩) (fun σ H5 p=>⟨us,SqL.of (p.1 _ _ nfE nfF hf4),?d⟩) (fun i x σ H5 H5' hi y p=>?_) (fun σ H5 p=>?_)
 · obtain ⟨k5,t5,g1,g2,g3,g4,g5,G',rfl,nGE',nGF',es,fs,gs,hE,hF,hG,aE,aF,aG⟩:=p;obtain ⟨rfl,y2⟩:=y;obtain ⟨rw',er,rr⟩:=al4.get (y2 us (SqL.of (k5 _ _ nfE nfF hf4)));obtain ⟨⟨bd0',bd1'⟩,bB,bC⟩:=sb rw' (n17_ er);obtain ⟨cn,qb,qc⟩:=rw';obtain ⟨ra,x1,x2,rfl,hra,⟨pb,rfl,hpb⟩,⟨pc,rfl,hpc⟩⟩:=rr;dsimp only at bd0' bd1' bB bC hra hpb hpc;refine ⟨ra,_,rfl,SqT.of (t5 _ _ hra),rfl,_,_,rfl,_,_,rfl,_,_,rfl,rfl,?_⟩;have t05:Tk H H5':=(s03.trans s4).tk.trans t5;obtain ⟨u,eu,pu,rfl,hpu⟩:=Zu4 alm (i:=2*cn) (?d) (?d);obtain ⟨w,ew,pw,rfl,hpw⟩:=Zu4 alm (i:=2*cn+1) (?d) (?d);have um:FM.B 60 (mAt ms (2*cn)):=Zm8 hB ?e _;have wm:FM.B 60 (mAt ms (2*cn+1)):=Zm8 hB ?e _;change H pu=some (.tup (rt (mAt ms (2*cn)))) at hpu;change H pw=some (.tup (rt (mAt ms (2*cn+1)))) at hpw;refine ⟨_,rfl,_,rfl,_,_,rfl,rfl,mul3 ?e (?d),am,ums,_,_,rfl,rfl,SqT.of (t05 _ _ ham),eu,?_⟩;refine ⟨_,rfl,_,rfl,_,_,rfl,rfl,mul3 ?e (?d),_,_,rfl,rfl,am,ums,_,_,rfl,rfl,SqT.of (t05 _ _ ham),ew,_,_,rfl,?_⟩;have hpb5:=t5 _ _ hpb;have hpc5:=t5 _ _ hpc;have hpu5:=t05 _ _ hpu;have hpw5:=t05 _ _ hpw;have tk1:rs.take (i+1)=rs.take i++[(cn,qb,qc)]:=by rw [n77_,er];rfl
   have ilen:(rs.take i).length≤3:=by rw [n60_];omega
   refine ⟨_,rfl,.inl ⟨rfl,_,SqL.of hE⟩,_,rfl,_,rfl,pb,pu,_,_,rfl,hpb5,hpu5,bB.mono ?e,um.mono ?e,fun z1 H6 s6 hz1=>?_⟩;refine ⟨E,_,_,rfl,rfl,s6 _ _ hE,by rw [aE.1,sizeLine_eq];simp [eL];omega,?_⟩;have tE:Tk H6 (upd H6 E (.lst (es++[.ref z1]))):=Tk.upd_lst (s6 _ _ hE);have oE:∀ b o,b≠E→H6 b=some o→upd H6 E (.lst (es++[.ref z1])) b=some o:=fun b o nb e=>by rw [Zl nb];exact e
   have eE7:upd H6 E (.lst (es++[.ref z1])) E=some (.lst (es++[.ref z1])):=Zc;generalize upd H6 E (.lst (es++[.ref z1]))=H7 at tE oE eE7 ⊢;have t57:=s6.tk.trans tE;have hF7:=oE _ _ nEF.symm (s6 _ _ hF);have hG7:=oE _ _ nGE' (s6 _ _ hG);refine ⟨_,rfl,.inl ⟨rfl,_,SqL.of hF7⟩,_,rfl,_,rfl,pc,pw,_,_,rfl,t57 _ _ hpc5,t57 _ _ hpw5,bC.mono ?e,wm.mono ?e,fun z2 H8 s8 hz2=>?_⟩;refine ⟨F,_,_,rfl,rfl,s8 _ _ hF7,by rw [aF.1,sizeLine_eq];simp [fL];omega,?_⟩;have tF:Tk H8 (upd H8 F (.lst (fs++[.ref z2]))):=Tk.upd_lst (s8 _ _ hF7);have oF:∀ b o,b≠F→H8 b=some o→upd H8 F (.lst (fs++[.ref z2])) b=some o:=fun b o nb e=>by rw [Zl nb];exact e
   have eF9:upd H8 F (.lst (fs++[.ref z2])) F=some (.lst (fs++[.ref z2])):=Zc;generalize upd H8 F (.lst (fs++[.ref z2]))=H9 at tF oF eF9 ⊢;have t79:=s8.tk.trans tF;have t59:=t57.trans t79;have eE9:=oF _ _ nEF (s8 _ _ eE7);have hG9:=oF _ _ nGF' (s8 _ _ hG7);refine ⟨_,rfl,_,rfl,_,rfl,pc,pu,_,_,rfl,t59 _ _ hpc5,t59 _ _ hpu5,bC.mono ?e,um.mono ?e,fun z3 H10 s10 hz3=>?_⟩;have t510:=t59.trans s10.tk;refine ⟨_,rfl,_,rfl,pb,pw,_,_,rfl,t510 _ _ hpb5,t510 _ _ hpw5,bB.mono ?e,wm.mono ?e,fun z4 H11 s11 hz4=>?_⟩;refine ⟨z2_,fun L nL=>?_⟩;generalize gG:upd H11 L (.lst [.ref z3,.ref z4])=H12;obtain ⟨s12,e12⟩:=gen_upd gG nL;have s912:=s10.trans (s11.trans s12);refine ⟨G',L,gs,_,rfl,rfl,s912 _ _ hG9,e12,by rw [aG.1,Zrk,sizeLine_eq];show 2*(rs.take i).length+2≤_;omega,fun G2 nG2=>?_⟩;have s13:Same H12 (upd H12 G2 (.lst (gs++[.ref z3,.ref z4]))):=Same.new nG2;have e13:upd H12 G2 (.lst (gs++[.ref z3,.ref z4])) G2=some (.lst (gs++[.ref z3,.ref z4])):=Zc;have eE12:=s912 _ _ eE9;have eF12:=s912 _ _ eF9;have n1:G2≠E:=fun z=>by rw [z,eE12] at nG2;cases nG2
   have n2:G2≠F:=fun z=>by rw [z,eF12] at nG2;cases nG2
   generalize upd H12 G2 (.lst (gs++[.ref z3,.ref z4]))=H13 at s13 e13 ⊢;have s913:=s912.trans s13;have t913:=s913.tk;have t513:=t59.trans t913;have t713:=t79.trans t913;refine ⟨fun b o nb1 nb2 e=>s913 _ _ (oF _ _ nb2 (s8 _ _ (oE _ _ nb1 (s6 _ _ (k5 _ _ nb1 nb2 e))))),t5.trans t513,_,_,_,_,_,G2,rfl,n1,n2,_,_,_,s13 _ _ eE12,s13 _ _ eF12,e13,?_,?_,?_⟩
   · rw [tk1];unfold eL;rw [n62_];exact (aE.imp fun v x r=>r.tk t513).snoc ⟨z1,rfl,t713 _ _ (tE _ _ hz1)⟩
   · rw [tk1];unfold fL;rw [n62_];exact (aF.imp fun v x r=>r.tk t513).snoc ⟨z2,rfl,t913 _ _ (tF _ _ hz2)⟩
   · rw [tk1];unfold gL;rw [List.flatMap_append];refine Al.app (aG.imp fun v x r=>r.tk t513) ?_;exact .cons ⟨z3,rfl,(s11.trans (s12.trans s13)) _ _ hz3⟩ (.cons ⟨z4,rfl,(s12.trans s13) _ _ hz4⟩ .nil)
 · obtain ⟨k5,t5,g1,g2,g3,g4,g5,G',rfl,nGE',nGF',es,fs,gs,hE,hF,hG,aE,aF,aG⟩:=p;rw [n34_ (n7_ _)] at aE aF aG;have hmB:=fun w=>Zm8 hB ?e w;have s05:Same H H5:=fun b o e=>k5 _ _ (Zj e nE) (Zj e nF0) (s4 _ _ (s03 _ _ e));refine ⟨_,rfl,E,es,_,rfl,hE,aE,fun x hx=>?_,by simp [eL,rlen],fun H6 v1 s6 i1=>?_⟩
   · obtain ⟨r',hr',rfl⟩:=n21_.mp hx;exact (FM.B_mul (sb r' hr').2.1 (hmB _)).mono ?e
   refine ⟨_,rfl,F,fs,_,rfl,s6 _ _ hF,aF.imp fun v x r=>r.tk s6.tk,fun x hx=>?_,by simp [fL,rlen],fun H7 v2 s7 i2=>?_⟩
   · obtain ⟨r',hr',rfl⟩:=n21_.mp hx;exact (FM.B_mul (sb r' hr').2.2 (hmB _)).mono ?e
   have s57:=s6.trans s7;refine ⟨_,rfl,G',gs,_,rfl,s57 _ _ hG,aG.imp fun v x r=>r.tk s57.tk,fun x hx=>?_,by rw [← aG.1,aG.1,← hrs];simp [gL,slQ],fun H8 v3 s8 i3=>?_⟩
   · obtain ⟨r',hr',hx⟩:=List.mem_flatMap.mp hx;simp only [n12_,n16_,or_false] at hx
     rcases hx with rfl|rfl
     · exact (FM.B_mul (sb r' hr').2.2 (hmB _)).mono ?e
     · exact (FM.B_mul (sb r' hr').2.1 (hmB _)).mono ?e
   refine ⟨z3_,fun R nR=>?_⟩;have s9:Same H8 (upd H8 R (.tup [v1,v2,v3])):=Same.new nR;refine q _ _ (s05.trans (s57.trans (s8.trans s9))) ⟨R,_,rfl,Zc,?_⟩;rw [← Zke pk.len pk.d,hrs];exact .cons (i1.tk (s7.trans (s8.trans s9)).tk) (.cons (i2.tk (s8.trans s9).tk) (.cons (i3.tk s9.tk) .nil))
abbrev Zam:Stmt:=top 54
theorem Zez (F:Fun K "_law_stress" "_law_stress" Zam f fd) (Cc_:a24_ P w K mg base) (Cb_:a28_ P w K mg base):FnOk P w K mg base CX0 3 f fd ["_law_plate_here","_law_own"] Zfo:=by
 have sc:FnScope ["_law_plate_here","_law_own","_law_l","_law_m","_law_both","_law_p","_law_q"] ["_law_plate_here","_law_own"] (Zf Zam):=fsc (?i);refine F.ok sc (fun vs H Q E h=>by obtain ⟨v,w,P',s3,rfl,_⟩:=h;rfl) ?I;obtain ⟨v,w,P',s3,rfl,⟨a,c,p,t,st,rfl,ha,hc,hp,ht,⟨sa,rfl,hsa⟩⟩,ok,⟨w,ws,rfl,hw,alw⟩,h3,hB,q⟩:=h;have nd:=sc.nd;refine' ?J
 case term=>refine' Ze (Yx (Zv Zw (pv 0) Zd (?l)) (Z2 (n:=2) rfl (Zg (Zk (i:=2) nd rfl ?o) (Zg (Zk (i:=3) nd rfl ?o) Zz)))) ?g1;case g1=>refine' Ze ?g2 ?g3;(case g2=>refine' Z0 (i:=4) nd rfl ?o ?g4;case g4=>refine' Zh Cb_ hr ?e rfl ?g5;case g5=>refine' Za (Zr (Za (pv 2) ?G rfl)) ?g6 rfl;case g6=>refine' Za ?g7 Zb rfl;case g7=>refine' Zh Cc_ hr ?e rfl ?g8;case g8=>refine' Za (Zv Zw (pv 1) Zd (?l)) (Za (Zv Zw (pv 1) Zd (?l)) Zb rfl) rfl);case g3=>refine' Ze ?g9 (Zi (Zq (Zr (Za (Zh Cc_ hr ?e rfl (Za (pv 4) (Za (pv 5) Zb rfl) rfl)) (Za (Zh Cc_ hr ?e rfl (Za (pv 4) (Za (pv 6) Zb rfl) rfl)) (Za (Zh Cb_ hr ?e rfl (Za (Zr (Za (pv 3) ?G rfl)) (Za (Zv Zw (pv 1) Zd (?l)) Zb rfl) rfl)) Zb rfl) rfl) rfl))));case g9=>refine' Zb7 (i:=5) (j:=6) rfl nd rfl rfl ?e rfl rfl ?ga rfl;case ga=>refine' Za (Zh Cb_ hr ?e rfl (Za (Zr (Za (Zp Zy Zd (pv 3)) ?G rfl)) (Za (Zv Zw (pv 1) Zd (?l)) Zb rfl) rfl)) (Za (Zh Cb_ hr ?e rfl (Za (Zr (Za (Zp Zy Zd (pv 3)) ?G rfl)) (Za (Zv Zw (pv 1) Zd (?l)) Zb rfl) rfl)) Zb rfl) rfl
 obtain ⟨l0,l9⟩:=ok.l9;obtain ⟨m1,m9⟩:=ok.m9;generalize P'.l=l at *;generalize P'.m=m at *
 match s3,h3 with
 | [e,f',g],_ =>
   have lw:=alw.1
   match ws,lw with
   | [v0,v1,v2],_ =>
     obtain ⟨p0,rfl,h0⟩:=alw.2 0 v0 e rfl rfl;obtain ⟨p1,rfl,h1⟩:=alw.2 1 v1 f' rfl rfl;obtain ⟨p2,rfl,h2⟩:=alw.2 2 v2 g rfl rfl;have be:=hB e ?f;have bf:=hB f' ?f;have bg:=hB g ?f;refine ⟨_,rfl,a,_,3,_,rfl,rfl,SqT.of ha,rfl,sa,_,rfl,SqT.of hsa,rfl,_,_,rfl,_,_,rfl,rfl,?_⟩;refine ⟨_,rfl,z2_,fun z1 n1=>?_⟩;have s1:Same H (upd H z1 (.tup [.int l,.int 1])):=Same.new n1;have e1:upd H z1 (.tup [.int l,.int 1]) z1=some (.tup (rt (l:Rat))):=by rw [Zc,Zjy]
     generalize upd H z1 (.tup [.int l,.int 1])=H1 at s1 e1 ⊢;refine ⟨_,rfl,w,_,0,_,rfl,rfl,SqT.of (s1 _ _ hw),rfl,_,rfl,w,_,1,_,rfl,rfl,SqT.of (s1 _ _ hw),rfl,p0,p1,e,f',rfl,s1 _ _ h0,s1 _ _ h1,be.mono ?e,bf.mono ?e,fun z2 H2 s2 hz2=>?_⟩;have s02:=s1.trans s2;have B2:=FM.B_add be bf;refine ⟨z1,z2,_,_,rfl,s2 _ _ e1,hz2,(Zjh (l:=l) (?d)).mono ?e,B2.mono ?e,fun z3 H3 s3 hz3=>?_⟩;have s03:=s02.trans s3;have B3:=FM.B_mul (Zjh (l:=l) (?d)) B2;have b2m:(2*m).natAbs≤18:=?d
     refine ⟨_,rfl,_,_,rfl,rfl,mul3 ?e (?d),z2_,fun z4 n4=>?_⟩;generalize hH4:upd H3 z4 _=H4;have s4:Same H3 H4:=by (rw [← hH4];exact Same.new n4)
     have e4':=(congrFun hH4 z4).symm;rw [Zc] at e4';have e4:H4 z4=some (.tup (rt ((2*m:Int):Rat))):=by rw [Zjy];exact e4'
     clear e4' hH4;have s04:=s03.trans s4;refine ⟨_,rfl,w,_,0,_,rfl,rfl,SqT.of (s04 _ _ hw),rfl,z4,p0,_,e,rfl,e4,s04 _ _ h0,(Zjh b2m).mono ?e,be.mono ?e,fun z5 H5 s5 hz5=>?_⟩;have s05:=s04.trans s5;have B5:=FM.B_mul (Zjh b2m) be;refine ⟨_,rfl,_,_,rfl,rfl,mul3 ?e (?d),z2_,fun z6 n6=>?_⟩;generalize hH6:upd H5 z6 _=H6;have s6:Same H5 H6:=by (rw [← hH6];exact Same.new n6)
     have e6':=(congrFun hH6 z6).symm;rw [Zc] at e6';have e6:H6 z6=some (.tup (rt ((2*m:Int):Rat))):=by rw [Zjy];exact e6'
     clear e6' hH6;have s06:=s05.trans s6;refine ⟨_,rfl,w,_,1,_,rfl,rfl,SqT.of (s06 _ _ hw),rfl,z6,p1,_,f',rfl,e6,s06 _ _ h1,(Zjh b2m).mono ?e,bf.mono ?e,fun z7 H7 s7 hz7=>?_⟩;have s07:=s06.trans s7;have B7:=FM.B_mul (Zjh b2m) bf;refine ⟨_,_,rfl,?_⟩;have s37:=s4.trans (s5.trans (s6.trans s7));have s57:=s6.trans s7;refine ⟨_,rfl,_,rfl,z3,z5,_,_,rfl,s37 _ _ hz3,s57 _ _ hz5,B3.mono ?e,B5.mono ?e,fun z8 H8 s8 hz8=>?_⟩;have s38:=s37.trans s8;refine ⟨_,rfl,_,rfl,z3,z7,_,_,rfl,s38 _ _ hz3,s8 _ _ hz7,B3.mono ?e,B7.mono ?e,fun z9 H9 s9 hz9=>?_⟩;have s09:=s07.trans (s8.trans s9);refine ⟨_,rfl,z2_,fun z10 n10=>?_⟩;have s10:Same H9 (upd H9 z10 (.tup [.int m,.int 1])):=Same.new n10;have e10:upd H9 z10 (.tup [.int m,.int 1]) z10=some (.tup (rt (m:Rat))):=by rw [Zc,Zjy]
     generalize upd H9 z10 (.tup [.int m,.int 1])=H10 at s10 e10 ⊢;have s010:=s09.trans s10;refine ⟨_,rfl,w,_,2,_,rfl,rfl,SqT.of (s010 _ _ hw),rfl,z10,p2,_,g,rfl,e10,s010 _ _ h2,(Zjh (l:=m) (?d)).mono ?e,bg.mono ?e,fun z11 H11 s11 hz11=>?_⟩;refine ⟨z3_,fun R nR=>?_⟩;have s12:Same H11 (upd H11 R (.tup [.ref z8,.ref z9,.ref z11])):=Same.new nR;have s912:=s10.trans (s11.trans s12);refine q _ _ (s09.trans s912) ⟨R,_,rfl,Zc,?_⟩;have e2:((2*m:Int):Rat)=(2:Rat)*(m:Rat):=by rw [n30_];rfl
     rw [e2] at hz8 hz9;exact .cons ⟨z8,rfl,(s9.trans s912) _ _ hz8⟩ (.cons ⟨z9,rfl,s912 _ _ hz9⟩ (.cons ⟨z11,rfl,s12 _ _ hz11⟩ .nil))
abbrev Xv:Stmt:=top 55
theorem Zdd (F:Fun K "_law_stresses" "_law_stresses" Xv f fd) (Cae_:a31_ P w K mg base) (Caf_:a32_ P w K mg base):FnOk P w K mg base CX0 5 f fd ["_law_plate_here","_law_motions"] Zc6:=by
 have sc:FnScope ["_law_plate_here","_law_motions","_law_found","_law_piece"] ["_law_plate_here","_law_motions"] (Zf Xv):=fsc (?i);refine F.ok sc (fun vs H Q E h=>by obtain ⟨v,w,P',ms,rfl,_⟩:=h;rfl) ?I;obtain ⟨v,w,P',ms,rfl,hv,ok,hw,hm,hB,q⟩:=h;have nd:=sc.nd;refine' ?J
 case term=>refine' Ze (Z0 (i:=2) nd rfl ?o (Yj Zb)) (Ze (Y7 PassesOwn.never rfl (Yy rfl T.b_range (Za (Zm Zs rfl T.b_len Y0 (Za (Zv Zw (pv 0) Zd (?l)) Zb rfl)) Zb rfl)) (Zk (i:=3) nd rfl ?o) (Zi (Xq (Zg4 PySem.F.plainAttrs_list PySem.F.slot_list_append PySem.F.type_list_append Xi (pv 2) (Za (Zh Caf_ hr ?e rfl (Za (pv 0) (Za (Zh Cae_ hr ?e rfl (Za (pv 0) (Za (pv 1) (Za (pv 3) Zb rfl) rfl) rfl)) Zb rfl) rfl)) Zb rfl))))) (Zi (Zq (Zo Zn rfl T.b_tuple Zt ?Y))))
 have hv0:=hv;obtain ⟨a,c,p,t,st,rfl,ha,hc,⟨b',ws,rfl,hb',bl⟩,ht,hs⟩:=hv0;have hl:=bl.1;have p40:=ok.p40;refine ⟨z0_,fun F nF=>?_⟩;generalize gG:upd H F (.lst [])=H1;obtain ⟨s1,e1⟩:=gen_upd gG nF;refine ⟨_,rfl,a,_,1,_,rfl,rfl,SqT.of (s1 _ _ ha),rfl,b',ws,rfl,.inr (SqT.of (s1 _ _ hb')),ws.length,rfl,?d,?d,?_⟩;refine Yu (n:=ws.length) (fun i σ H2=>Keep F H1 H2∧(∃ x,σ=[some (.ref a),some w,some (.ref F),x])∧∃ us,H2 F=some (.lst us)∧Al (IsQs H2) us ((Zgh P' ms).take i)) ⟨Keep.refl _ _,?K,[],e1,.nil⟩ (fun i σ H2 hi p=>hi) (fun σ H2 p=>n7_ _) (fun i x σ H2 H3 hi y p=>?_) (fun σ H2 p=>?_)
 · obtain ⟨k2,⟨x',rfl⟩,us,eF,alF⟩:=p;obtain ⟨rfl,rfl⟩:=y;have t2:Tk H H3:=s1.tk.trans (Tk.of_keep k2 e1);have nlo:(0:Int)≤0+(i:Int):=?d
   have nhi:(0:Int)+(i:Int)<P'.ps.length:=?d
   refine ⟨_,rfl,.inl ⟨rfl,_,SqL.of eF⟩,_,rfl,_,rfl,_,rfl,_,rfl,.ref a,w,P',0+i,ms,rfl,hv.tk t2,ok,nlo,nhi,Z5 t2 hw,hm,hB,fun H4 r4 s4 h4=>?_⟩;refine ⟨.ref a,r4,P',_,rfl,hv.tk (t2.trans s4.tk),ok,h4,rfl,Zwx ok nlo nhi hB,fun H5 r5 s5 h5=>?_⟩;have s45:=s4.trans s5;refine ⟨F,us,_,rfl,rfl,s45 _ _ eF,by rw [alF.1,sizeLine_eq,n60_];omega,?_⟩;have tF:Tk H5 (upd H5 F (.lst (us++[r5]))):=Tk.upd_lst (s45 _ _ eF);refine ⟨fun b o nb e=>by rw [Zl nb];exact s45 _ _ (k2 _ _ nb e),?K,_,Zc,?_⟩
   have:(Zgh P' ms).take (i+1)=(Zgh P' ms).take i++[stsQ P'.l P'.m (strQ P' (0+i) ms)]:=by
    rw [n77_];unfold Zgh;rw [n5_,n78_ (?d),Int.zero_add];rfl
   rw [this];exact (alF.imp fun v x r=>Z5 (s45.tk.trans tF) r).snoc (Z5 tF h5)
 · obtain ⟨k2,⟨x',rfl⟩,us,eF,alF⟩:=p;rw [n34_ (by unfold Zgh;simp [hl])] at alF;have s02:Same H H2:=fun b o e=>k2 _ _ (Zj e nF) (s1 _ _ e);refine ⟨_,rfl,F,us,rfl,.inl ⟨SqL.of eF,fun r nr=>?_⟩⟩;have s3:Same H2 (upd H2 r (.tup us)):=Same.new nr;exact q _ _ (s02.trans s3) ⟨r,us,rfl,Zc,alF.imp fun v x r=>Z5 s3.tk r⟩
abbrev Zan:Stmt:=top 56
theorem Zeu (F:Fun K "_law_pushes" "_law_pushes" Zan f fd) (Cc_:a24_ P w K mg base) (Cd_:a23_ P w K mg base) (Cb_:a28_ P w K mg base) (Cm_:a29_ P w K mg base):FnOk P w K mg base CX0 4 f fd ["_law_plate_here","_law_some"] Zfs:=by
 have sc:FnScope ["_law_plate_here","_law_some","_law_found","_law_piece","_law_p","_law_q","_law_r","_law_d","_law_rows","_law_by","_law_corner","_law_b","_law_c","_law_along","_law_across"] ["_law_plate_here","_law_some"] (Zf Zan):=fsc (?i);refine F.ok sc (fun vs H Q E h=>by obtain ⟨v,w,P',ss,rfl,_⟩:=h;rfl) ?I;obtain ⟨v,w,P',ss,rfl,hv,ok,p4,⟨gv,us,rfl,hg,al⟩,sok,q⟩:=h;have nd:=sc.nd;refine' ?J
 case term=>refine' Ze (Z0 (i:=2) nd rfl ?o (Zp Zmm (Yj (Za (Zr (Za Zd ?G rfl)) Zb rfl)) (Zp Zy Zd (Zm Zs rfl T.b_len Y0 (Za (Zv Zw (pv 0) Zd (?l)) Zb rfl))))) ?g1;case g1=>refine' Ze ?g2 (Zi (Zq (Zo Zn rfl T.b_tuple Zt ?Y)));case g2=>refine' Y7 PassesOwn.never rfl (Zei .t rfl T.b_enumerate ?P) (Z2 (n:=2) rfl (Zg (Zk (i:=3) nd rfl ?o) (Zg (Z2 (n:=3) rfl (Zg (Zk (i:=4) nd rfl ?o) (Zg (Zk (i:=5) nd rfl ?o) (Zg (Zk (i:=6) nd rfl ?o) Zz)))) Zz))) ?g3;case g3=>refine' Ze (Yx (Zh Cm_ hr ?e rfl (Za (pv 0) (Za (pv 3) Zb rfl) rfl)) (Z2 (n:=2) rfl (Zg (Zk (i:=7) nd rfl ?o) (Zg (Zk (i:=8) nd rfl ?o) Zz)))) ?g4;case g4=>refine' Ze ?g5 ?g6;(case g5=>refine' Z0 (i:=9) nd rfl ?o ?g7;case g7=>refine' Zh Cd_ hr ?e rfl ?g8;case g8=>refine' Za ?g9 ?G rfl;case g9=>refine' Zp Zy ?ga (Zm Zb0 rfl T.b_abs Zh3 (Za (pv 7) Zb rfl));case ga=>refine' Zv Zw (Zv Zw (pv 0) Zd (?l)) (pv 3) (?l));case g6=>refine' Zi ?gb;case gb=>refine' Y7 PassesOwn.never rfl (Yl (pv 8)) (Z2 (n:=3) rfl (Zg (Zk (i:=10) nd rfl ?o) (Zg (Zk (i:=11) nd rfl ?o) (Zg (Zk (i:=12) nd rfl ?o) Zz)))) ?gc;case gc=>refine' Ze (Z0 (i:=13) nd rfl ?o (Zh Cc_ hr ?e rfl (Za (Zh Cb_ hr ?e rfl (Za (pv 4) (Za (pv 11) Zb rfl) rfl)) (Za (Zh Cb_ hr ?e rfl (Za (pv 6) (Za (pv 12) Zb rfl) rfl)) Zb rfl) rfl))) ?gd;case gd=>refine' Ze (Z0 (i:=14) nd rfl ?o (Zh Cc_ hr ?e rfl (Za (Zh Cb_ hr ?e rfl (Za (pv 6) (Za (pv 11) Zb rfl) rfl)) (Za (Zh Cb_ hr ?e rfl (Za (pv 5) (Za (pv 12) Zb rfl) rfl)) Zb rfl) rfl))) ?ge;case ge=>refine' Ze (Yx (Zh Cc_ hr ?e rfl (Za (Zv Ym (pv 2) (Zp Zy Zd (pv 10)) (?l)) (Za (Zh Cb_ hr ?e rfl (Za (pv 9) (Za (pv 13) Zb rfl) rfl)) Zb rfl) rfl)) (Zd3 (pv 2) (Zp Zy Zd (pv 10)) Zau)) (Zi (Yx (Zh Cc_ hr ?e rfl (Za (Zv Ym (pv 2) (Zp Yr (Zp Zy Zd (pv 10)) Zd) (?l)) (Za (Zh Cb_ hr ?e rfl (Za (pv 9) (Za (pv 14) Zb rfl) rfl)) Zb rfl) rfl)) (Zd3 (pv 2) (Zp Yr (Zp Zy Zd (pv 10)) Zd) Zau)))
 have hv0:=hv;obtain ⟨pa,pc,pp',ptk,pst,rfl,hpa,⟨ca,cvs,rfl,hca,cal⟩,hpp,⟨ta,rfl,hta⟩,hps⟩:=hv0;have c30:=ok.c30;have hl2:=al.1;have cl2:=cal.1;have sl:=sok.len;refine ⟨z2_,fun z nz=>?_⟩;have s1:Same H (upd H z ?S):=Same.new nz;have e1:upd H z ?S z=some (.tup (rt 0)):=Zc;generalize upd H z ?S=H1 at s1 e1 ⊢;refine ⟨z1_,fun y ny=>?_⟩;generalize gG:upd H1 y (.lst [.ref z])=H2;obtain ⟨s2,e2⟩:=gen_upd gG ny;have s02:=s1.trans s2;refine ⟨_,rfl,pa,_,0,_,rfl,rfl,SqT.of (s02 _ _ hpa),rfl,ca,cvs,rfl,.inr (SqT.of (s02 _ _ hca)),_,_,rfl,rfl,mul3 ?e (?d),y,_,_,rfl,rfl,e2,?d,?d,by rw [sizeLine_eq];simp;omega,fun F nF=>?_⟩;have hN:(2*(cvs.length:Int)).toNat=2*P'.cs.length:=?d
 rw [hN,Zce];generalize gG:upd H2 F (.lst (List.replicate (2*P'.cs.length) (.ref z)))=H3;obtain ⟨s3,e3⟩:=gen_upd gG nF;have s03:=s02.trans s3
 have nF0:H F=none:=by
  cases e:H F with
  | none=>rfl
  | some o=>rw [s02 _ _ e] at nF;cases nF
 refine ⟨_,rfl,gv,rfl,⟨_,SqT.of (s03 _ _ hg)⟩,?_⟩;refine Yu (n:=ss.length) (fun i σ H4=>Keep F H3 H4∧(∃ y1 y2 y3 y4 y5 y6 y7 y8 y9 y10 y11 y12,σ=[some (.ref pa),some (.ref gv),some (.ref F),y1,y2,y3,y4,y5,y6,y7,y8,y9,y10,y11,y12])∧∃ fs vals,H4 F=some (.lst fs)∧Al (IsQ H4) fs vals∧vals.length=2*P'.cs.length∧(∀ (k:Nat) (x:Rat),vals[k]? = some x→x=Fn P' ss i k)∧∀ x∈vals,FM.B (1+128*(3*i)) x) ⟨Keep.refl _ _,⟨_,_,_,_,_,_,_,_,_,_,_,_,rfl⟩,_,List.replicate (2*P'.cs.length) 0,e3,Zk7 ⟨z,rfl,s3 _ _ (s2 _ _ e1)⟩ _,by simp,fun k x e=>?_,fun x hx=>?_⟩ (fun i σ H4 hi p=>⟨us,us[i]'(?d),SqT.of (Tk.of_keep p.1 e3 _ _ (s03 _ _ hg)),n0_ _⟩) (fun σ H4 p=>⟨us,SqT.of (Tk.of_keep p.1 e3 _ _ (s03 _ _ hg)),hl2⟩) (fun i x σ H4 H5 hi y p=>?_) (fun σ H4 p=>?_)
 · rw [List.getElem?_replicate] at e;split at e
   · cases e;rfl
   · cases e
 · rw [(List.mem_replicate.mp hx).2];exact bd0
 · obtain ⟨k4,⟨y1,y2,y3,y4,y5,y6,y7,y8,y9,y10,y11,y12,rfl⟩,fs,vals,eF,alF,lF,vF,bF⟩:=p;obtain ⟨g,x,rfl,ng,rfl,yx⟩:=y;have t4:Tk H3 H4:=Tk.of_keep k4 e3;obtain ⟨s,es,th,us3,rfl,hth3,al3⟩:=al.get (yx us (SqT.of (t4 _ _ (s03 _ _ hg))));have sm:=n17_ es;have gs:ss.getD i []=s:=by rw [n4_,es];rfl
   have s3l:=sok.three s sm;obtain ⟨DD,hD,hDD⟩:=sok.bd s sm;have n0:(0:Int)≤(i:Int):=?d
   have n1:(i:Int)<P'.ps.length:=?d
   have pk:=ok.pc _ (Zas n0 n1);obtain ⟨c1,c2,c3⟩:=Zmx ok.nr pk.len pk.bd
   match s,s3l with
   | [sp,sq,sr],_ =>
   match us3,al3.1 with
   | [v0,v1,v2],_ =>
   obtain ⟨ap,rfl,hp0⟩:=al3.2 0 v0 sp rfl rfl;obtain ⟨aq,rfl,hq0⟩:=al3.2 1 v1 sq rfl rfl;obtain ⟨ar,rfl,hr0⟩:=al3.2 2 v2 sr rfl rfl;have bp:=hDD sp ?f;have bq:=hDD sq ?f;have br:=hDD sr ?f;generalize gG:upd H4 g (.tup [.int i,.ref th])=H5;obtain ⟨s5,e5⟩:=gen_upd gG ng;have t05:Tk H H5:=s03.tk.trans (t4.trans s5.tk);refine ⟨g,_,rfl,SqT.of e5,rfl,_,_,rfl,_,_,rfl,⟨th,_,rfl,SqT.of (t05 _ _ hth3),rfl,_,_,rfl,_,_,rfl,_,_,rfl,rfl,rfl,?_⟩⟩;refine ⟨_,rfl,_,rfl,.ref pa,P',(i:Int),rfl,hv.tk t05,ok,n0,n1,fun H6 r6 f6 us6 s6 hr6 nf6 hf6 al6=>?_⟩;refine ⟨r6,_,rfl,SqT.of hr6,rfl,_,_,rfl,_,_,rfl,rfl,?_⟩;have s46:=s5.trans s6;have t06:=t05.trans s6.tk;have nf:f6≠F:=fun z=>by rw [z,s5 _ _ eF] at nf6;cases nf6
   have tti:P'.ts[i]? = some (P'.ts.getD i 0):=by
    have:i<P'.ts.length:=by rw [ok.t1];omega
    rw [n4_,n0_ this];rfl
   obtain ⟨tl,tu⟩:=ok.t9 _ (n17_ tti);have att:atI (P'.ts.map V.int) (i:Int)=some (.int (P'.ts.getD i 0)):=Ys (by rw [n5_,tti];rfl);generalize hdd:dOf P'.cs (pcOf P' i)=dd at *;have ad:(if dd<0 then -dd else dd).natAbs≤80000:=by split<;>omega
   have tz:(P'.ts.getD i 0).natAbs≤9:=?d
   refine ⟨_,rfl,pa,_,2,_,rfl,rfl,SqT.of (t06 _ _ hpa),rfl,_,rfl,ta,_,(i:Int),_,rfl,rfl,SqT.of (t06 _ _ hta),att,_,rfl,dd,rfl,_,_,rfl,rfl,Zka (n:=20) (n14_ tz ?e) (n14_ ad ?e),_,_,rfl,?k,?k,fun bz H7 s7 hbz=>?_⟩;generalize hby:Rat.divInt (P'.ts.getD i 0*(if dd<0 then -dd else dd)) 2=by' at *
   have byB:FM.B 21 by':=by
    rw [← hby];refine FM.B_divInt ?e (n14_ (n31_ (Nat.le_of_eq (n53_ _ _)) (n54_ tz ad)) ?e) ?e
   have s47:=s46.trans s7;have t07:=t06.trans s7.tk;refine ⟨_,rfl,f6,rfl,⟨_,SqL.of (s7 _ _ hf6)⟩,?_⟩;have hf7:=s7 _ _ hf6;have al7:Al (Zn7 H7) us6 (slQ P'.cs (pcOf P' i)):=al6.imp fun v x r=>Zcf s7.tk r;have eF7:=s47 _ _ eF;have sb:=sl_B ok n0 n1;refine Yu (n:=3) (fun c σ H8=>Keep F H7 H8∧(∃ z1 z2 z3 z4 z5,σ=[some (.ref pa),some (.ref gv),some (.ref F),some (.int i),some (.ref ap),some (.ref aq),some (.ref ar),some (.int dd),some (.ref f6),some (.ref bz),z1,z2,z3,z4,z5])∧∃ fs vals,H8 F=some (.lst fs)∧Al (IsQ H8) fs vals∧vals.length=2*P'.cs.length∧(∀ (k:Nat) (x:Rat),vals[k]? = some x→x=Fn P' ss i k+pt' ((ctrL P' i [sp,sq,sr]).take (2*c)) k)∧∀ x∈vals,FM.B (1+128*(3*i+c)) x) ⟨Keep.refl _ _,⟨_,_,_,_,_,rfl⟩,fs,vals,eF7,alF.imp fun v x r=>r.tk s47.tk,lF,fun k x e=>?_,bF⟩ (fun c σ H8 hc p=>⟨us6,us6[c]'(by rw [al6.1];exact hc),SqL.of (p.1 _ _ nf hf7),n0_ _⟩) (fun σ H8 p=>⟨us6,SqL.of (p.1 _ _ nf hf7),by rw [al6.1];exact n7_ _⟩) (fun c x σ H8 H9 hc y p=>?_) (fun σ H8 p=>?_)
   · rw [vF k x e];show _=_+(0:Rat);rw [n51_]
   · obtain ⟨k8,⟨z1,z2,z3,z4,z5,rfl⟩,fs8,vals8,eF8,alF8,lF8,vF8,bF8⟩:=p;obtain ⟨rfl,yx8⟩:=y;obtain ⟨row,er,rr⟩:=al7.get (yx8 us6 (SqL.of (k8 _ _ nf hf7)));obtain ⟨⟨w0,w1⟩,bB,bC⟩:=sb row (n17_ er)
     have rowEq:∃ b' c',row=(pnt P' i c,Rat.divInt b' dd,Rat.divInt c' dd)∧b'.natAbs≤200∧c'.natAbs≤200∧xP P' i [sp,sq,sr] c=(thk P' i:Rat)*(sp*(b':Int)+sr*(c':Int))/2∧yP P' i [sp,sq,sr] c=(thk P' i:Rat)*(sr*(b':Int)+sq*(c':Int))/2:=by
      have hc3:c=0∨c=1∨c=2:=?d
      rw [← hdd]
      rcases hc3 with rfl|rfl|rfl
      · cases er;exact ⟨_,_,rfl,c1 _ (by simp [Yo]),c2 _ (by simp [Yp]),rfl,rfl⟩
      · cases er;exact ⟨_,_,rfl,c1 _ (by simp [Yo]),c2 _ (by simp [Yp]),rfl,rfl⟩
      · cases er;exact ⟨_,_,rfl,c1 _ (by simp [Yo]),c2 _ (by simp [Yp]),rfl,rfl⟩
     obtain ⟨b1,c1',rfl,hb1,hc1,ex,ey⟩:=rowEq;dsimp only at w0 w1 bB bC;obtain ⟨ra,x1,x2,rfl,hra,⟨pb,rfl,hpb⟩,⟨pcc,rfl,hpcc⟩⟩:=rr;dsimp only at hra hpb hpcc;have t8:Tk H7 H9:=Tk.of_keep k8 eF7;have t09:=t07.trans t8;refine ⟨ra,_,rfl,SqT.of (t8 _ _ hra),rfl,_,_,rfl,_,_,rfl,_,_,rfl,rfl,?_⟩;have hp9:=t09 _ _ hp0;have hq9:=t09 _ _ hq0;have hr9:=t09 _ _ hr0;have hpb9:=t8 _ _ hpb;have hpc9:=t8 _ _ hpcc;refine ⟨_,rfl,_,rfl,ap,pb,_,_,rfl,hp9,hpb9,bp.1.mono ?e,bB.mono ?e,fun a1 G1 u1 hA1=>?_⟩;refine ⟨_,rfl,_,rfl,ar,pcc,_,_,rfl,u1 _ _ hr9,u1 _ _ hpc9,br.1.mono ?e,bC.mono ?e,fun a2 G2 u2 hA2=>?_⟩;have B1:=FM.B_mul bp.1 bB;have B2:=FM.B_mul br.1 bC;refine ⟨a1,a2,_,_,rfl,u2 _ _ hA1,hA2,B1.mono ?e,B2.mono ?e,fun a3 G3 u3 hA3=>?_⟩;have B3:=FM.B_add B1 B2;have u13:=u1.trans (u2.trans u3);refine ⟨_,rfl,_,rfl,ar,pb,_,_,rfl,u13 _ _ hr9,u13 _ _ hpb9,br.1.mono ?e,bB.mono ?e,fun a4 G4 u4 hA4=>?_⟩;have u14:=u13.trans u4;refine ⟨_,rfl,_,rfl,aq,pcc,_,_,rfl,u14 _ _ hq9,u14 _ _ hpc9,bq.1.mono ?e,bC.mono ?e,fun a5 G5 u5 hA5=>?_⟩;have B4:=FM.B_mul br.1 bB;have B5:=FM.B_mul bq.1 bC;refine ⟨a4,a5,_,_,rfl,u5 _ _ hA4,hA5,B4.mono ?e,B5.mono ?e,fun a6 G6 u6 hA6=>?_⟩;have B6:=FM.B_add B4 B5;have u16:=u14.trans (u5.trans u6);have u36:=u4.trans (u5.trans u6);obtain ⟨cn,hcn⟩:∃ cn:Nat,pnt P' i c=cn:=⟨(pnt P' i c).toNat,?d⟩;rw [hcn] at w0 w1 ⊢;have hk1:2*cn<vals8.length:=?d
     have hk2:2*cn+1<vals8.length:=?d
     have bnd:1+128*(3*i+c)≤1500:=?d
     have eF6:=u16 _ _ eF8;have al66:Al (IsQ G6) fs8 vals8:=alF8.imp fun v x r=>r.tk u16.tk;obtain ⟨f1,ef1,af1,rfl,haf1⟩:=al66.got (n0_ hk1);refine ⟨_,rfl,_,rfl,_,_,rfl,rfl,mul3 ?e (?d),F,fs8,((2*cn:Nat):Int),_,rfl,by rw [Int.natCast_mul];rfl,SqL.of eF6,Ys ef1,?_⟩;refine ⟨_,rfl,_,rfl,bz,a3,_,_,rfl,(t8.trans u16.tk) _ _ hbz,u36 _ _ hA3,byB.mono ?e,B3.mono ?e,fun a7 G7 u7 hA7=>?_⟩
     have X1:by'*(sp*Rat.divInt b1 dd+sr*Rat.divInt c1' dd)=xP P' i [sp,sq,sr] c:=by
      rw [← hby,Zt8 (hdd ▸ pk.d),ex];unfold thk;rw [hdd]
     have Y1:by'*(sr*Rat.divInt b1 dd+sq*Rat.divInt c1' dd)=yP P' i [sp,sq,sr] c:=by
      rw [← hby,Zt8 (hdd ▸ pk.d),ey];unfold thk;rw [hdd]
     replace hA7:G7 a7=some (.tup (rt (by'*(sp*Rat.divInt b1 dd+sr*Rat.divInt c1' dd)))):=hA7;rw [X1] at hA7;have BX:FM.B 127 (xP P' i [sp,sq,sr] c):=by rw [ex];exact x_B ok (?d) hc hD bp br _ _ hb1 hc1
     have BY:FM.B 127 (yP P' i [sp,sq,sr] c):=by rw [ey];exact x_B ok (?d) hc hD br bq _ _ hb1 hc1
     have Bf1:=bF8 _ (n24_ hk1);refine ⟨af1,a7,_,_,rfl,u7 _ _ haf1,hA7,Bf1.mono (?d),BX.mono ?e,fun a8 G8 u8 hA8=>?_⟩;have u68:=u7.trans u8;refine ⟨_,rfl,_,rfl,_,_,rfl,rfl,mul3 ?e (?d),F,fs8,((2*cn:Nat):Int),2*cn,rfl,by rw [Int.natCast_mul];rfl,u68 _ _ eF6,Zhu (?d) (by rw [alF8.1];omega),?_⟩;have tA:Tk G8 (upd G8 F (.lst (fs8.set (2*cn) (.ref a8)))):=Tk.upd_lst (u68 _ _ eF6);have oA:Keep F G8 (upd G8 F (.lst (fs8.set (2*cn) (.ref a8)))):=Keep.upd;have eA:upd G8 F (.lst (fs8.set (2*cn) (.ref a8))) F=some (.lst (fs8.set (2*cn) (.ref a8))):=Zc;generalize upd G8 F (.lst (fs8.set (2*cn) (.ref a8)))=G9 at tA oA eA ⊢;have alA:Al (IsQ G9) (fs8.set (2*cn) (.ref a8)) (vals8.set (2*cn) (vals8[2*cn]+xP P' i [sp,sq,sr] c)):=Zpi (al66.imp fun v x r=>r.tk (u68.tk.trans tA)) _ ⟨a8,rfl,tA _ _ hA8⟩
     have ek2:(vals8.set (2*cn) (vals8[2*cn]+xP P' i [sp,sq,sr] c))[2*cn+1]? = some vals8[2*cn+1]:=by
      rw [List.getElem?_set,if_neg (?d),n0_ hk2]
     obtain ⟨f2,ef2,af2,rfl,haf2⟩:=alA.got ek2;refine ⟨_,rfl,_,rfl,_,_,rfl,rfl,mul3 ?e (?d),_,_,rfl,rfl,F,_,((2*cn+1:Nat):Int),_,rfl,by rw [Int.natCast_add,Int.natCast_mul];rfl,SqL.of eA,Ys ef2,?_⟩;have t69:=u68.tk.trans tA;refine ⟨_,rfl,_,rfl,bz,a6,_,_,rfl,t69 _ _ ((t8.trans u16.tk) _ _ hbz),t69 _ _ hA6,byB.mono ?e,B6.mono ?e,fun a9 G10 u10 hA9=>?_⟩;replace hA9:G10 a9=some (.tup (rt (by'*(sr*Rat.divInt b1 dd+sq*Rat.divInt c1' dd)))):=hA9;rw [Y1] at hA9;have Bf2:=bF8 _ (n24_ hk2);refine ⟨af2,a9,_,_,rfl,u10 _ _ haf2,hA9,Bf2.mono (?d),BY.mono ?e,fun a10 G11 u11 hA10=>?_⟩;have u911:=u10.trans u11;refine ⟨_,rfl,_,rfl,_,_,rfl,rfl,mul3 ?e (?d),_,_,rfl,rfl,F,_,((2*cn+1:Nat):Int),2*cn+1,rfl,by rw [Int.natCast_add,Int.natCast_mul];rfl,u911 _ _ eA,Zhu (?d) (by rw [List.length_set,alF8.1];omega),?_⟩;have tB:Tk G11 (upd G11 F (.lst ((fs8.set (2*cn) (.ref a8)).set (2*cn+1) (.ref a10)))):=Tk.upd_lst (u911 _ _ eA);refine ⟨fun b o nb e=>?_,⟨_,_,_,_,_,rfl⟩,_,(vals8.set (2*cn) (vals8[2*cn]+xP P' i [sp,sq,sr] c)).set (2*cn+1) (vals8[2*cn+1]+yP P' i [sp,sq,sr] c),Zc,Zpi (alA.imp fun v x r=>r.tk (u911.tk.trans tB)) _ ⟨a10,rfl,tB _ _ hA10⟩,by simp [lF8],fun k x e=>?_,fun x hx=>?_⟩
     · rw [Zl nb];exact u911 _ _ (oA _ _ nb (u68 _ _ (u16 _ _ (k8 _ _ nb e))))
     · have etk:(ctrL P' i [sp,sq,sr]).take (2*(c+1))=((ctrL P' i [sp,sq,sr]).take (2*c)++[(2*(cn:Int),xP P' i [sp,sq,sr] c)])++[(2*(cn:Int)+1,yP P' i [sp,sq,sr] c)]:=by
        have hc3:c=0∨c=1∨c=2:=?d
        rw [← hcn]
        rcases hc3 with rfl|rfl|rfl<;>rfl
       rw [etk,Zng,Zng];rw [List.getElem?_set,List.getElem?_set] at e
       by_cases h2:k=2*cn+1
       · subst h2;rw [if_pos rfl,if_pos (by simp;omega)] at e;cases e
         rw [vF8 _ _ (n0_ hk2)];have z1:¬ (2*(cn:Int)=((2*cn+1:Nat):Int)):=?d
         have z2:2*(cn:Int)+1=((2*cn+1:Nat):Int):=?d
         rw [if_neg z1,if_pos z2,n51_,Rat.add_assoc]
       · rw [if_neg (fun z=>h2 z.symm)] at e
         by_cases h1:k=2*cn
         · subst h1;rw [if_pos rfl,if_pos (?d)] at e;cases e
           rw [vF8 _ _ (n0_ hk1)];have z1:2*(cn:Int)=((2*cn:Nat):Int):=?d
           have z2:¬ (2*(cn:Int)+1=((2*cn:Nat):Int)):=?d
           rw [if_pos z1,if_neg z2,n51_,Rat.add_assoc]
         · rw [if_neg (fun z=>h1 z.symm)] at e;rw [vF8 _ _ e];have z1:¬ (2*(cn:Int)=(k:Int)):=?d
           have z2:¬ (2*(cn:Int)+1=(k:Int)):=?d
           rw [if_neg z1,if_neg z2,n51_,n51_]
     · have key:∀ x∈vals8,FM.B (1+128*(3*i+(c+1))) x:=fun x hx=>(bF8 x hx).mono (?d)
       rcases List.mem_or_eq_of_mem_set hx with h|h
       · rcases List.mem_or_eq_of_mem_set h with h|h
         · exact key x h
         · rw [h];exact (FM.B_add Bf1 BX).mono (?d)
       · rw [h];exact (FM.B_add Bf2 BY).mono (?d)
   · obtain ⟨k8,⟨z1,z2,z3,z4,z5,rfl⟩,fs8,vals8,eF8,alF8,lF8,vF8,bF8⟩:=p;refine ⟨fun b o nb e=>k8 _ _ nb (s47 _ _ (k4 _ _ nb e)),⟨_,_,_,_,_,_,_,_,_,_,_,_,rfl⟩,fs8,vals8,eF8,alF8,lF8,fun k x e=>?_,fun x hx=>(bF8 x hx).mono (?d)⟩;rw [vF8 k x e];show _=Fn P' ss i k+pt' (ctr P' i (ss.getD i [])) k
     rw [gs,← Zs3];rfl
 · obtain ⟨k4,⟨y1,y2,y3,y4,y5,y6,y7,y8,y9,y10,y11,y12,rfl⟩,fs,vals,eF,alF,lF,vF,bF⟩:=p;have s04:Same H H4:=fun b o e=>k4 _ _ (Zj e nF0) (s03 _ _ e)
   have ev:vals=Zlg P' ss:=by
    refine List.ext_getElem? fun k=>?_;unfold Zlg;rw [n5_]
    by_cases hk:k<2*P'.cs.length
    · rw [n78_ hk,n0_ (?d),vF k _ (n0_ (?d))];rfl
    · rw [n58_ (?d),n58_ (by simp;omega)];rfl
   refine ⟨_,rfl,F,fs,rfl,.inl ⟨SqL.of eF,fun r nr=>?_⟩⟩;have s5:Same H4 (upd H4 r (.tup fs)):=Same.new nr;rw [ev] at alF bF;exact q _ _ (s04.trans s5) ⟨r,fs,rfl,Zc,alF.imp fun v x r=>r.tk s5.tk⟩ fun x hx=>(bF x hx).mono (?d)
abbrev Zaw:Stmt:=top 57
theorem Zie (F:Fun K "_law_unit" "_law_unit" Zaw f fd):FnOk P w K mg base CX0 2 f fd ["_law_many","_law_way"] Zno:=by
 have sc:FnScope ["_law_many","_law_way"] ["_law_many","_law_way"] (Zf Zaw):=fsc (?i);refine F.ok sc (fun vs H Q E h=>by obtain ⟨N,o,rfl,_⟩:=h;rfl) ?I;obtain ⟨N,o,rfl,hN,q⟩:=h;refine' ?J
 case term=>refine' Zi (Zq (Zo Zn rfl T.b_tuple Zt (Za (Y6 (N:=["_law_at","_law_way"]) (fr:=[none,some 1]) rfl (Z1 (XN:=["_law_many","_law_way"]) (Scope.names (Zf Zaw)) rfl rfl rfl (fun _ h=>Zx h) (?i) rfl) (Yy rfl T.b_range ?Q) ?X ?R (fun _ _ _ _=>Zf7 (Z9 Zjm (pv 0) (pv 1) (Yk _)) (Zr (Za Zd ?G rfl)) (Zr (Za Zd ?G rfl)))) Zb rfl)))
 refine ⟨_,rfl,N,rfl,?d,?d,fun D nD=>?_⟩;refine lc_R (n:=N) IsQ hRQ (uQ N o) (by unfold uQ;simp) hN nD (fun i H2 C hi s2 c=>?_) (fun H2 us s2 e2 a2=>?_)
 · refine ⟨_,rfl,_,rfl,rfl,_,rfl,?_⟩;have ei:(uQ N o)[i]? = some (if i=o then 1 else 0):=by unfold uQ;rw [n5_,n78_ hi];rfl
   refine ite2 (fun h=>?_) (fun h=>?_)
   · refine ⟨z2_,fun p np=>?_⟩;have z:i=o:=by have:=n49_ h;injection this with this;omega
     exact c _ _ 1 (Same.new np) (by rw [ei,if_pos z]) ⟨p,rfl,Zc⟩
   · refine ⟨z2_,fun p np=>?_⟩;have z:¬ i=o:=fun z=>h (n44_ (by rw [z,Int.zero_add]));exact c _ _ 0 (Same.new np) (by rw [ei,if_neg z]) ⟨p,rfl,Zc⟩
 · refine ⟨D,us,rfl,.inl ⟨SqL.of e2,fun r nr=>?_⟩⟩;have s5:Same H2 (upd H2 r (.tup us)):=Same.new nr;exact q _ _ (s2.trans s5) ⟨r,us,rfl,Zc,a2.imp fun v x r=>r.tk s5.tk⟩
abbrev Zbq:Stmt:=top 58
theorem Zh8 (F:Fun K "_law_same" "_law_same" Zbq f fd):FnOk P w K mg base CX0 1 f fd ["_law_found","_law_due"] Zkf:=by
 have sc:FnScope ["_law_found","_law_due"] ["_law_found","_law_due"] (Zf Zbq):=fsc (?i);refine F.ok sc (fun vs H Q E h=>by obtain ⟨N,k,v,u,d,rfl,_⟩:=h;rfl) ?I;obtain ⟨N,k,v,u,d,rfl,h1,h2,hk,hd,hz,q⟩:=h;refine' ?J
 case term=>refine' Zi (Zq (Zct Zjm (Zm (Zbl hr) rfl T.b_repr Zf8 ?Q) (Zm (Zbl hr) rfl T.b_repr Zf8 ?P) (Yk _)))
 refine ⟨_,rfl,N,k,v,d,rfl,h1,hk,hd,hz,_,rfl,N,k,u,d,rfl,h2,hk,hd,hz,rfl,?_⟩;rw [n44_ rfl];exact q
abbrev Zbi:Stmt:=top 59
theorem Zi6 (F:Fun K "_law_lot" "_law_lot" Zbi f fd) (Ca_:a22_ P w K mg base):FnOk P w K mg base CX0 4 f fd ["_law_state_here","_law_sheet"] Zrb:=by
 have sc:FnScope ["_law_state_here","_law_sheet","_law_many"] ["_law_state_here","_law_sheet"] (Zf Zbi):=fsc (?i);refine F.ok sc (fun vs H Q E h=>by obtain ⟨l,v,P',rfl,_⟩:=h;rfl) ?I;obtain ⟨l,v,P',rfl,hl,hv,ok,q⟩:=h;have nd:=sc.nd;refine' ?J
 case term=>refine' Ze (Z0 (i:=2) nd rfl ?o (Zm Zs rfl T.b_len Y0 (Za (Zv Zw (pv 1) Zd (?l)) Zb rfl))) (Zi (Zq (Zo Zn rfl T.b_tuple Zt (Za (Y6 (N:=["_law_piece","_law_state_here"]) (fr:=[none,some 0]) rfl (Z1 (XN:=["_law_state_here","_law_sheet","_law_many"]) (Scope.names (Zf Zbi)) rfl rfl rfl (fun _ h=>Zx h) (?i) rfl) (Yy rfl T.b_range ?Y) ?X (fun _ _ _ _=>Zdp (Z9 Zhr (Zh Ca_ hr ?e rfl (Za (pv 1) ?G rfl)) (Zp Yr Zd (Zh Ca_ hr ?e rfl (Za (pv 1) ?G rfl))) (Yk _))) (fun _ _ _ _=>pv 0)) Zb rfl))))
 obtain ⟨pa,pc,pp',ptk,pst,rfl,hpa,hpc,⟨qa,qv,rfl,hqa,aq⟩,_⟩:=id hv;have qlen:=aq.1;have p40:=ok.p40;refine ⟨_,rfl,pa,_,1,_,rfl,rfl,SqT.of hpa,rfl,qa,qv,rfl,.inr (SqT.of hqa),?_⟩;refine ⟨_,rfl,qv.length,rfl,?d,?d,fun D nD=>?_⟩;have neD:D≠l:=hl.neN nD;refine Zcz (n:=qv.length) (fun i σ H2=>Keep l H H2∧StAt H2 l∧(∃ u,σ=[u,some (.ref l)])∧∃ ks:?p,H2 D=some (.lst (?Z))∧ks.Pairwise (·<·)∧∀ k∈ks,k<i) ⟨Keep.new nD,hl.new nD,?K,[],Zc,.nil,by simp⟩ (fun i σ H2 hi p=>hi) (fun σ H2 p=>n7_ _) (fun i x σ2 H2 H3 hi y p=>?_) (fun σ2 H2 p=>?_)
 · obtain ⟨k2,l2,⟨u,rfl⟩,ks,e2,r2,m2⟩:=p;obtain ⟨rfl,rfl⟩:=y;have lks:=Zaq (m:=0) r2 fun k hk=>⟨n47_ _,m2 k hk⟩;refine ⟨_,rfl,l,5,rfl,l2,?k,?k,fun r1 H4 _ _ k4 l4=>?_⟩;refine ⟨_,rfl,l,5,rfl,l4,?k,?k,fun r3 H5 _ _ k5 l5=>?_⟩;refine ⟨_,_,rfl,rfl,_,_,rfl,rfl,_,rfl,?_⟩;have e5:=k5 _ _ neD (k4 _ _ neD e2);have k25:=k2.trans (k4.trans k5);refine ite2 (fun _=>?_) (fun _=>?_)
   · refine ⟨_,rfl,_,e5,by rw [n3_,n3_,sizeLine_eq];omega,_,?_,?d,rfl,fun b o ne e=>?_,?_,?K,ks++[i],?_,?_,?_⟩
     · omega
     · rw [Zl fun z=>by rw [z,nD] at e;cases e];exact k25 _ _ ne e
     · obtain ⟨a,b,c,e,r⟩:=l5;exact ⟨a,b,c,by rw [Zl (Ne.symm neD)];exact e,r⟩
     · rw [Zc];simp [nI]
     · exact List.pairwise_append.mpr ⟨r2,List.pairwise_singleton ..,fun a ha b hb=>by rw [n18_.mp hb];exact m2 a ha⟩
     · intro k hk
       rcases n36_.mp hk with h|h
       · exact n55_ (m2 k h)
       · rw [n18_.mp h];exact n87_ i
   · exact ⟨_,?d,?d,rfl,k25,l5,?K,ks,e5,r2,fun k hk=>n55_ (m2 k hk)⟩
 · obtain ⟨k2,l2,⟨u,rfl⟩,ks,e2,r2,m2⟩:=p;refine ⟨D,_,rfl,.inl ⟨SqL.of e2,fun r nr=>?_⟩⟩;exact q _ _ ks (k2.trans (Keep.new nr)) (l2.new nr) Zc ⟨r2,by rw [← qlen];exact m2⟩
abbrev Yq:Stmt:=top 60
theorem Zco (F:Fun K "_law_lot_frame" "_law_lot_frame" Yq f fd) (Cag_:a33_ P w K mg base) (Cy_:a34_ P w K mg base) (Cao_:a35_ P w K mg base):FnOk P w K mg base CX0 7 f fd ["_law_sheet","_law_lot_here"] Ze9:=by
 have sc:FnScope ["_law_sheet","_law_lot_here","_law_ways","_law_nought","_law_piece","_law_corner","_law_columns","_law_way","_law_some","_law_rows"] ["_law_sheet","_law_lot_here"] (Zf Yq):=fsc (?i);refine F.ok sc (fun vs H Q E h=>by obtain ⟨v,P',a,ks,rfl,_⟩:=h;rfl) ?I;obtain ⟨v,P',a,ks,rfl,hv,ok,p4,ha,lot,q⟩:=h;have nd:=sc.nd;have hu:=Zlq hr;refine' ?J
 case term=>refine' Ze ?g1 ?g2;(case g1=>refine' @Zb7 _ _ (2) (3) _ _ _ _ _ _ _ _ _ _ _ rfl nd rfl rfl ?e rfl rfl ?g3 rfl (by rfl);case g3=>refine' Za ?g4 (Za (Zr (Za (Zr (Za Zd ?G rfl)) (Za (Zr (Za Zd ?G rfl)) (Za (Zr (Za Zd ?G rfl)) Zb rfl) rfl) rfl)) Zb rfl) rfl;case g4=>refine' Yj Zb);case g2=>refine' Ze ?g5 ?g6;(case g5=>refine' Y7 PassesOwn.never rfl (Zai (pv 1)) (Zk (i:=4) nd rfl ?o) ?g7 (by intro _ ;rfl);case g7=>refine' Zi ?g8;case g8=>refine' Y7 PassesOwn.never rfl ?g9 (Zk (i:=5) nd rfl ?o) ?ga (by intro _ ;rfl);(case g9=>refine' Zai ?gb;case gb=>refine' Zv Zw ?gc (pv 4) (?l);case gc=>refine' Zv Zw (pv 0) Zd (?l));case ga=>refine' Zi ?gd;case gd=>refine' @Z0 _ _ (2) _ _ _ _ nd rfl ?o ?ge (by rfl) ?ai;case ge=>refine' Zp Zqv (pv 2) ?gf;case gf=>refine' Yj (Za (Zp Zy Zd (pv 5)) (Za (Zp Yr (Zp Zy Zd (pv 5)) Zd) Zb rfl) rfl));case g6=>refine' Ze ?gg ?gh;(case gg=>refine' Yx ?gi ?gj (by rfl) (by rfl) (by rfl);(case gi=>refine' Zr ?gk;case gk=>refine' Za (Zm (Za6 rfl) rfl T.b_sorted Za5 (Za (Zo (Zmc rfl) rfl T.b_set Zk2 ?Y) Zb rfl)) ?gl rfl;case gl=>refine' Za ?gm Zb rfl;case gm=>refine' Yj Zb);case gj=>refine' @Z2 _ _ _ _ _ (2) rfl (Zg (Zk (i:=2) nd rfl ?o) (Zg (Zk (i:=6) nd rfl (Or.inr rfl)) Zz)) (by rfl) (by rfl));case gh=>refine' Ze ?gn ?go;(case gn=>refine' Y7 PassesOwn.never rfl (Yl (pv 2)) (Zk (i:=7) nd rfl ?o) ?gp (by intro _ ;rfl);case gp=>refine' Ze ?gq ?gr;(case gq=>refine' @Z0 _ _ (8) _ _ _ _ nd rfl ?o ?gs (by rfl) ?ai;case gs=>refine' Zo Zhz rfl T.b_list Zi0 ?gt ?e ?e (by rfl) (by rfl);case gt=>refine' Za ?gu Zb rfl;case gu=>refine' Zh Cy_ hr ?e rfl ?gv ?e (by rfl) (by rfl);case gv=>refine' Za (pv 0) ?gw rfl;case gw=>refine' Za ?gx Zb rfl;case gx=>refine' Zh Cao_ hr ?e rfl ?gy ?e (by rfl) (by rfl);case gy=>refine' Za ?gz (Za (pv 7) Zb rfl) rfl;case gz=>refine' Zp Zy Zd ?g10;case g10=>refine' Zm Zs rfl T.b_len Y0 ?g11 ?e ?e (by rfl) (by rfl);case g11=>refine' Za ?g12 Zb rfl;case g12=>refine' Zv Zw (pv 0) Zd (?l));case gr=>refine' Ze ?g13 ?g14;(case g13=>refine' Y7 PassesOwn.never rfl ?g15 (Zk (i:=4) nd rfl ?o) ?g16 (by intro _ ;rfl);(case g15=>refine' Yy rfl T.b_range (Za (Zm Zs rfl T.b_len Y0 (Za (pv 8) Zb rfl)) Zb rfl) (by rfl));case g16=>refine' Zi ?g17;case g17=>refine' X5 (Z9 Zh2 (pv 4) (pv 1) rfl) ?g18 Yb;case g18=>refine' Zi ?g19;case g19=>refine' Yx (pv 3) ?g1a (by rfl) (by rfl) (by rfl);case g1a=>refine' Zd3 (pv 8) (pv 4) Zau (by intro _ ;rfl));case g14=>refine' Zi ?g1b;case g1b=>refine' Xq ?g1c (by rfl);case g1c=>refine' Zg4 PySem.F.plainAttrs_list PySem.F.slot_list_append PySem.F.type_list_append Xi (pv 6) (Za (Zh Cag_ hr ?e rfl (Za (pv 0) (Za (Zo Zn rfl T.b_tuple Zt (Za (pv 8) Zb rfl)) Zb rfl) rfl)) Zb rfl) (by rfl) (by rfl) (by rfl) (by rfl) (by rfl));case go=>refine' Ze ?g1d (Zi (Zq (Zr (Za (Zo Zn rfl T.b_tuple Zt ?Y) (Za (Zo Zn rfl T.b_tuple Zt (Za (pv 9) Zb rfl)) (Za (Zp Zsx (Zr (Za (Zr (Za Zd ?G rfl)) Zb rfl)) (Zm Zs rfl T.b_len Y0 ?Y)) Zb rfl) rfl) rfl))));case g1d=>refine' @Zfe _ _ _ _ _ _ _ _ _ _ (["_law_way","_law_columns"]) ([none,some 6]) _ _ _ _ _ _ rfl rfl (Zk (i:=9) nd rfl ?o) (Z1 (XN:=["_law_sheet","_law_lot_here","_law_ways","_law_nought","_law_piece","_law_corner","_law_columns","_law_way","_law_some","_law_rows"]) (Scope.names (Zf Yq)) rfl rfl rfl (fun _ h=>Zx h) (?i) rfl) (Yl (pv 2)) (fun _ _ _ _=>Zk (i:=0) (show List.Nodup (["_law_way","_law_columns"]:List Str) by decide) rfl (Or.inr rfl) ?o) ?R (fun _ _ _ _=>Zo (Ye K rfl) rfl T.b_tuple Zt (Za (Y6 (N:=["_law_column","_law_way"]) (fr:=[none,some 0]) rfl (Z1 (XN:=["_law_way","_law_columns"]) (relN _ (Scope.names (Zf Yq))) rfl rfl rfl (fun _ h=>Zad (?i) h) (?i) rfl) (Zf9 K rfl (pv 1)) ?X ?R (fun _ _ _ _=>Zv (Zet K rfl) (pv 0) (pv 1) (?l))) Zb rfl)) (by intro _ ;rfl)
 obtain ⟨pa,pc,pp',ptk,pst,rfl,hpa,⟨ca,cv,rfl,hca,cal⟩,⟨qa,qv,rfl,hqa,aq⟩,_⟩:=id hv;have clen:=cal.1;have qlen:=aq.1;have c30:=ok.c30
 have lk:ks.length≤4:=by
  have:=Zaq (m:=0) (n:=P'.ps.length) lot.rise fun k hk=>⟨n47_ _,lot.lt k hk⟩
  omega
 refine ⟨z0_,fun W nW=>?_⟩;have s1:Same H (upd H W (.lst [])):=Same.new nW;have e1:upd H W (.lst []) W=some (.lst (([]:?g).map V.int)):=Zc;generalize upd H W (.lst [])=H1 at s1 e1 ⊢;refine ⟨z2_,fun z1 n1=>?_⟩;have s2:Same H1 (upd H1 z1 ?S):=Same.new n1;have e2:upd H1 z1 ?S z1=some (.tup (rt 0)):=Zc;generalize upd H1 z1 ?S=H2 at s2 e2 ⊢;refine ⟨z2_,fun z2 n2=>?_⟩;have s3:Same H2 (upd H2 z2 ?S):=Same.new n2;have e3:upd H2 z2 ?S z2=some (.tup (rt 0)):=Zc;generalize upd H2 z2 ?S=H3 at s3 e3 ⊢;refine ⟨z2_,fun z3 n3=>?_⟩;have s4:Same H3 (upd H3 z3 ?S):=Same.new n3;have e4:upd H3 z3 ?S z3=some (.tup (rt 0)):=Zc;generalize upd H3 z3 ?S=H4 at s4 e4 ⊢;refine ⟨z3_,fun z nz=>?_⟩;generalize gG:upd H4 z (.tup [.ref z1,.ref z2,.ref z3])=H5;obtain ⟨s5,e5⟩:=gen_upd gG nz;have hz:IsQs H5 (.ref z) [0,0,0]:=⟨z,_,rfl,e5,((Al.nil.snoc (R:=IsQ H5) ⟨z1,rfl,s5 _ _ (s4 _ _ (s3 _ _ e2))⟩).snoc ⟨z2,rfl,s5 _ _ (s4 _ _ e3)⟩).snoc ⟨z3,rfl,s5 _ _ e4⟩⟩;have s15:Same H1 H5:=s2.trans (s3.trans (s4.trans s5));have s05:=s1.trans s15;refine ⟨_,_,rfl,?_⟩;refine ⟨_,rfl,a,rfl,⟨_,SqT.of (s05 _ _ ha)⟩,?_⟩;refine Yu (n:=ks.length) (fun i σ G=>∃ W fl y5 y6 y7 y8 y9 y10,σ=[some (.ref pa),some (.ref a),some (.ref W),some (.ref z),y5,y6,y7,y8,y9,y10]∧Same H5 G∧G W=some (.lst (fl.map V.int))∧fl.length=6*i∧∀ x,x∈fl↔∃ k∈ks.take i,x∈Yw (pcOf P' (k:Nat))) ⟨W,[],_,_,_,_,_,_,rfl,Same.refl _,s15 _ _ e1,rfl,by simp⟩ (fun i σ G hi p=>?_) (fun σ G p=>?_) (fun i x σ G G' hi y p=>?_) (fun σ G p=>?_)
 · obtain ⟨W',fl,y5,y6,y7,y8,y9,y10,rfl,sG,_⟩:=p;exact ⟨?Z,(?Z)[i]'(by simpa using hi),SqT.of (sG _ _ (s05 _ _ ha)),n0_ _⟩
 · obtain ⟨W',fl,y5,y6,y7,y8,y9,y10,rfl,sG,_⟩:=p;exact ⟨_,SqT.of (sG _ _ (s05 _ _ ha)),by simp⟩
 · obtain ⟨W',fl,y5,y6,y7,y8,y9,y10,rfl,sG,eW,lf,mf⟩:=p;obtain ⟨rfl,yx⟩:=y;have ex:=yx _ (SqT.of (sG _ _ (s05 _ _ ha)));rw [n5_,n5_,n0_ hi] at ex;cases ex
   have hk:=lot.lt _ (n24_ hi);have pk:=pc3 ok hk;obtain ⟨pv',ev,b,rfl,hb⟩:=Zt1 aq (n:=(ks[i]:Nat)) (?d) (?d);have s0G:=s05.trans sG;have lp:=pk.len;refine ⟨_,rfl,pa,_,1,_,rfl,rfl,SqT.of (s0G _ _ hpa),rfl,_,rfl,qa,qv,(ks[i]:Nat),_,rfl,rfl,SqT.of (s0G _ _ hqa),ev,b,rfl,⟨_,SqT.of (s0G _ _ hb)⟩,?_⟩;refine Yu (n:=3) (fun j σ U=>∃ W fl y6,σ=[some (.ref pa),some (.ref a),some (.ref W),some (.ref z),some (.int (ks[i]:Nat)),y6,y7,y8,y9,y10]∧Same H5 U∧U W=some (.lst (fl.map V.int))∧fl.length=6*i+2*j∧∀ x,x∈fl↔(∃ k∈ks.take i,x∈Yw (pcOf P' (k:Nat)))∨∃ c∈(pcOf P' (ks[i]:Nat)).take j,x=2*c∨x=2*c+1) ⟨W',fl,_,rfl,sG,eW,lf,by simpa using mf⟩ (fun j σ U hj p=>?_) (fun σ U p=>?_) (fun j x σ U U' hj y p=>?_) (fun σ U p=>?_)
   · obtain ⟨W2,fl2,y6',rfl,sK,_⟩:=p;exact ⟨_,_,SqT.of (sK _ _ (s05 _ _ hb)),n0_ (by rw [n3_];omega)⟩
   · obtain ⟨W2,fl2,y6',rfl,sK,_⟩:=p;exact ⟨_,SqT.of (sK _ _ (s05 _ _ hb)),by rw [n3_];omega⟩
   · obtain ⟨W2,fl2,y6',rfl,sK,eW2,lf2,mf2⟩:=p;obtain ⟨rfl,yx⟩:=y;have hj':j<(pcOf P' (ks[i]:Nat)).length:=?d
     have ex:=yx _ (SqT.of (sK _ _ (s05 _ _ hb)));rw [n5_,n0_ hj'] at ex;cases ex
     have bc:=pk.bd _ (n24_ hj');refine ⟨_,rfl,_,rfl,_,_,rfl,rfl,mul3 ?e (?d),_,rfl,_,_,rfl,rfl,mul3 ?e (?d),_,_,rfl,rfl,z2_,fun L nL=>?_⟩;generalize gG:upd U' L (.lst [.int (2*(pcOf P' (ks[i]:Nat))[j]),.int (2*(pcOf P' (ks[i]:Nat))[j]+1)])=U1;obtain ⟨s6,e6⟩:=gen_upd gG nL;refine ⟨W2,L,_,_,rfl,rfl,s6 _ _ eW2,e6,by rw [n3_,sizeLine_eq];show _+2≤_;omega,fun p np=>?_⟩;refine ⟨p,fl2++[2*(pcOf P' (ks[i]:Nat))[j],2*(pcOf P' (ks[i]:Nat))[j]+1],_,rfl,sK.trans (s6.trans (Same.new np)),by rw [Zc,n62_];rfl,by rw [n33_,lf2];show _+2=_;omega,fun x=>?_⟩;have tj:(pcOf P' (ks[i]:Nat)).take (j+1)=(pcOf P' (ks[i]:Nat)).take j++[(pcOf P' (ks[i]:Nat))[j]]:=by rw [n77_,n0_ hj'];rfl
     rw [n36_,mf2,tj];simp only [n36_,n12_,n16_,or_false,or_and_right,exists_or,exists_eq_left,or_assoc]
   · obtain ⟨W2,fl2,y6',rfl,sK,eW2,lf2,mf2⟩:=p;refine ⟨W2,fl2,_,_,_,_,_,_,rfl,sK,eW2,?d,fun x=>?_⟩;have ti:ks.take (i+1)=ks.take i++[ks[i]]:=by rw [n77_,n0_ hi];rfl
     rw [mf2,n34_ (Nat.le_of_eq lp),ti,← Zdk];simp only [n36_,n18_,or_and_right,exists_or,exists_eq_left]
 · obtain ⟨W',fl,y5,y6,y7,y8,y9,y10,rfl,sG,eW,lf,mf⟩:=p;rw [List.take_length] at mf;refine ⟨_,rfl,W',fl,rfl,SqL.of eW,?d,fun D H6 s6 e6=>?_⟩;have lm:=Zb8 fl;refine ⟨D,metI fl,rfl,e6,?d,fun N ns nN pm le=>?_⟩;generalize gG:upd H6 N (.lst ?U)=H7;obtain ⟨s7,e7⟩:=gen_upd gG nN;have len:=pm.length_eq;have wL:WaysL P' ks ns:=⟨(le.and (pm.nodup_iff.mpr (Znh fl))).imp fun {x y} h=>by have:=h.1;have:=h.2;omega,fun x=>pm.mem_iff.trans (Zdt.trans (mf x)),?d⟩
   have nb:∀ x∈ns,0≤x∧x<((2*P'.cs.length:Nat):Int):=fun x hx=>by
    obtain ⟨k,hk,m⟩:=(wL.mem x).mp hx;exact (Zcy ok (lot.lt k hk)).2.2 x m
   refine ⟨z0_,fun F nF=>?_⟩;have s8:Same H7 (upd H7 F (.lst [])):=Same.new nF;have e8:upd H7 F (.lst []) F=some (.lst []):=Zc;have nNF:N≠F:=Zj e7 nF;generalize upd H7 F (.lst [])=H8 at s8 e8 ⊢;refine ⟨z2_,fun p9 np9=>?_⟩;generalize gG:upd H8 p9 (.tup [.ref N,.ref F])=H9;obtain ⟨s9,e9⟩:=gen_upd gG np9;have s57:=sG.trans (s6.trans s7);have s07:=s05.trans s57;have s79:=s8.trans s9;have s08:=s07.trans s79;have s58:=s57.trans s79;replace e7:=s79 _ _ e7;replace e8:=s9 _ _ e8;have nF0:∀ {b o},H b=some o→b≠F:=fun e=>Zj (s07 _ _ e) nF;have nF5:∀ {b o},H5 b=some o→b≠F:=fun e=>Zj (s57 _ _ e) nF;refine ⟨p9,_,rfl,SqT.of e9,rfl,_,_,rfl,_,_,rfl,rfl,?_⟩;refine ⟨_,rfl,N,rfl,⟨_,SqL.of e7⟩,?_⟩;refine Yu (n:=ns.length) (fun i σ G=>∃ y5 y6 y8 y9 y10 us,σ=[some (.ref pa),some (.ref a),some (.ref N),some (.ref z),y5,y6,some (.ref F),y8,y9,y10]∧Keep F H9 G∧G F=some (.lst us)∧Al (fun v (x:Int)=>IsQs G v (Zlg P' (mskS P' ks x.toNat))) us (ns.take i)) ⟨_,_,_,_,_,[],rfl,Keep.refl _ _,e8,.nil⟩ (fun i σ G hi p=>?_) (fun σ G p=>?_) (fun i x σ G G' hi y p=>?_) (fun σ G p=>?_)
   · obtain ⟨_,_,_,_,_,us,rfl,kG,_⟩:=p;exact ⟨_,_,SqL.of (kG _ _ nNF e7),n0_ (by rw [n3_];exact hi)⟩
   · obtain ⟨_,_,_,_,_,us,rfl,kG,_⟩:=p;exact ⟨_,SqL.of (kG _ _ nNF e7),by rw [n3_];omega⟩
   · obtain ⟨y5,y6,y8,y9,y10,us,rfl,kG,eF,aF⟩:=p;obtain ⟨rfl,yx⟩:=y;have ex:=yx _ (SqL.of (kG _ _ nNF e7));rw [n5_,n0_ hi] at ex;cases ex
     have b0:=nb _ (n24_ hi);obtain ⟨o,ho⟩:∃ o:Nat,ns[i]=o:=⟨ns[i].toNat,?d⟩;have s0G:Same H G':=fun b o e=>kG _ _ (nF0 e) (s08 _ _ e);have tzG:Tk H5 G':=fun b o e=>kG _ _ (nF5 e) (s58 _ _ e);refine ⟨_,rfl,_,rfl,pa,_,0,_,rfl,rfl,SqT.of (s0G _ _ hpa),rfl,ca,cv,rfl,.inr (SqT.of (s0G _ _ hca)),_,_,rfl,rfl,mul3 ?e (?d),_,rfl,2*P'.cs.length,o,by rw [clen,ho];rfl,?d,fun U1 r1 q1 h1=>?_⟩;refine ⟨.ref pa,r1,P',uQ (2*P'.cs.length) o,rfl,hv.tk (s0G.trans q1).tk,ok,h1,by unfold uQ;simp,fun q hq=>(uQ_B q hq).1,fun U2 r2 q2 h2=>?_⟩;obtain ⟨g,gs,rfl,eg,ag⟩:=h2;refine ⟨g,gs,rfl,.inr (SqT.of eg),fun M nM=>?_⟩;generalize gG:upd U2 M (.lst gs)=U3;obtain ⟨q3,e3⟩:=gen_upd gG nM;have q12:=q1.trans q2;have q13:=q12.trans q3;have nMo:∀ {b o},G' b=some o→b≠M:=fun e=>Zj (q12 _ _ e) nM;have lg:gs.length=P'.ps.length:=by rw [ag.1];unfold Zgh;simp
     refine ⟨_,rfl,M,_,rfl,.inl (SqL.of e3),gs.length,rfl,?d,?d,?_⟩;refine Zd1 (fun m σ U=>∃ y5 y9 hs,σ=[some (.ref pa),some (.ref a),some (.ref N),some (.ref z),y5,y6,some (.ref F),some (.int ns[i]),some (.ref M),y9]∧Keep M U3 U∧U M=some (.lst hs)∧Al (IsQs U) hs (mixS P' ks (uQ (2*P'.cs.length) o) m)) ⟨_,_,_,rfl,Keep.refl _ _,e3,by rw [Zu1];exact ag.imp fun v x r=>Z5 q3.tk r⟩ (fun m σ U hm p=>?_) (fun σ U p=>?_)
     · obtain ⟨y5',y9',hs,rfl,kK,eK,aK⟩:=p;have sGK:Same G' U:=fun b o e=>kK _ _ (nMo e) (q13 _ _ e);have s0K:=s0G.trans sGK;refine ⟨_,rfl,_,rfl,Zl0 (SqT.of (s0K _ _ ha)) ?_⟩
       have dm:decide ((0+(m:Int))∈nI ks)=decide (m∈ks):=by
        rw [Int.zero_add];exact decide_eq_decide.mpr ⟨fun h=>by obtain ⟨k,hk,e⟩:=n21_.mp h;rw [← Int.ofNat.inj e];exact hk,fun h=>n89_ h⟩
       rw [dm]
       by_cases hm':m∈ks
       · rw [n44_ hm'];exact ⟨false,rfl,iteF ⟨_,_,hs,rfl,kK,eK,by rw [Ztd hm'];exact aK⟩⟩
       · rw [n35_ hm'];have lh:hs.length=P'.ps.length:=by rw [aK.1];unfold mixS;simp
         refine ⟨true,rfl,iteT ?_⟩;refine ⟨_,rfl,_,rfl,_,rfl,M,_,(0+(m:Int)),m,rfl,rfl,eK,by rw [Int.zero_add];exact Zhu (?d) (?d),?_⟩;have tM:Tk U (upd U M (.lst (hs.set m (.ref z)))):=Tk.upd_lst eK;refine ⟨_,_,_,rfl,fun b o ne e=>by rw [Zl ne];exact kK _ _ ne e,Zc,?_⟩;rw [Zqm hm'];exact Zpi (aK.imp fun v x r=>Z5 tM r) m (Z5 ((tzG.trans sGK.tk).trans tM) hz)
     · obtain ⟨y5',y9',hs,rfl,kK,eK,aK⟩:=p;have sGK:Same G' U:=fun b o e=>kK _ _ (nMo e) (q13 _ _ e);have s0K:=s0G.trans sGK;rw [lg,n63_,Zu0] at aK;have eF':=sGK _ _ eF;refine ⟨_,rfl,.inl ⟨rfl,_,SqL.of eF'⟩,_,rfl,_,rfl,M,hs,rfl,.inl ⟨SqL.of eK,fun T nT=>?_⟩⟩;generalize gG:upd U T (.tup hs)=U5;obtain ⟨q5,e5⟩:=gen_upd gG nT;refine ⟨.ref pa,.ref T,P',mskS P' ks o,rfl,hv.tk (s0K.trans q5).tk,ok,p4,⟨T,hs,rfl,e5,aK.imp fun v x r=>Z5 q5.tk r⟩,Zqz ok,fun U6 r6 q6 h6 _=>?_⟩;have sG6:=sGK.trans (q5.trans q6);have eF6:=sG6 _ _ eF;have tF:Tk U6 (upd U6 F (.lst (us++[r6]))):=Tk.upd_lst eF6;have lu:us.length≤30:=by rw [aF.1,n60_];omega
       refine ⟨F,us,r6,rfl,rfl,eF6,by rw [sizeLine_eq];omega,_,_,_,_,_,us++[r6],rfl,fun b o ne e=>by rw [Zl ne];exact sG6 _ _ (kG _ _ ne e),Zc,?_⟩;rw [show ns.take (i+1)=ns.take i++[ns[i]] by rw [n77_,n0_ hi];rfl];exact (aF.imp fun v x r=>Z5 (sG6.tk.trans tF) r).snoc (by rw [ho];exact Z5 tF h6)
   · obtain ⟨y5,y6,y8,y9,y10,us,rfl,kG,eF,aF⟩:=p;rw [List.take_length] at aF;have s0G:Same H G:=fun b o e=>kG _ _ (nF0 e) (s08 _ _ e);have eN:=kG _ _ nNF e7;have l30:(ns.map V.int).length≤1000:=by rw [n3_];omega
     have lu:=aF.1;refine ⟨_,rfl,N,rfl,⟨_,SqL.of eN⟩,fun D2 nD2=>?_⟩;refine lc_T (k:=.l) (vs:=ns.map V.int) IsQs hRQs (ns.map fun w=>ns.map fun o=>fLot P' ks (w,o)) ?f l30 nD2 eN (fun i v2 U2 C hi q2 c=>?_) (fun U2 us2 q2 e2 a2=>?_)
     · rw [n5_] at hi;obtain ⟨x,ex,rfl⟩:=n10_.mp hi;refine ⟨_,rfl,F,rfl,⟨_,SqL.of (q2 _ _ eF)⟩,fun D3 nD3=>?_⟩;refine lc_T (k:=.l) (vs:=us) IsQ hRQ (ns.map fun o=>fLot P' ks (x,o)) (by rw [n3_,lu]) (?d) nD3 (q2 _ _ eF) (fun j v3 U3 C' hj q3 c'=>?_) (fun U3 us3 q3 e3 a3=>?_)
       · obtain ⟨y,ey,col,cs,rfl,ec,ac⟩:=aF.get hj;obtain ⟨x0,x1⟩:=nb x (n17_ ex);obtain ⟨y0,y1⟩:=nb y (n17_ ey);obtain ⟨wn,rfl⟩:∃ n:Nat,x=n:=⟨x.toNat,?d⟩;obtain ⟨on,rfl⟩:∃ n:Nat,y=n:=⟨y.toNat,?d⟩
         obtain ⟨u,eu,hu⟩:=ac.got (i:=wn) (x:=fLot P' ks ((wn:Nat),(on:Nat))) (by
          unfold Zlg fLot;rw [n5_,n78_ (?d),Zo5 ok lot,(Zqz ok).len];rfl)
         exact ⟨_,rfl,_,rfl,col,cs,(wn:Nat),u,rfl,rfl,SqT.of (q3 _ _ (q2 _ _ ec)),Ys eu,c' _ _ _ (Same.refl _) (by rw [n5_,ey];rfl) (hu.tk (q2.trans q3).tk)⟩
       · refine ⟨D3,us3,rfl,.inl ⟨SqL.of e3,fun r nr=>?_⟩⟩;have q5:Same U3 (upd U3 r (.tup us3)):=Same.new nr;exact c _ _ _ (q3.trans q5) (by rw [n5_,ex];rfl) ⟨r,us3,rfl,Zc,a3.imp fun v x r=>r.tk q5.tk⟩
     · refine ⟨_,rfl,N,_,rfl,.inl ⟨SqL.of (q2 _ _ eN),fun X nX=>?_⟩⟩;generalize gG:upd U2 X (.tup ?U)=U3;obtain ⟨q3,e3⟩:=gen_upd gG nX;refine ⟨_,rfl,D2,_,rfl,.inl ⟨SqL.of (q3 _ _ e2),fun R nR=>?_⟩⟩;generalize gG:upd U3 R (.tup us2)=U4;obtain ⟨q4,e4⟩:=gen_upd gG nR;refine ⟨z2_,fun p np=>?_⟩;have q5:Same U4 (upd U4 p ?S):=Same.new np;have e5:upd U4 p ?S p=some (.tup (rt 0)):=Zc;generalize upd U4 p ?S=U5 at q5 e5 ⊢;refine ⟨z1_,fun t nt=>?_⟩;generalize gG:upd U5 t (.tup [.ref p])=U6;obtain ⟨q6,e6⟩:=gen_upd gG nt;have q26:=q3.trans (q4.trans (q5.trans q6))
       have two:ns.length≠1:=fun z=>by
        obtain ⟨x,rfl⟩:=List.length_eq_one_iff.mp z;obtain ⟨k,hk,m⟩:=(wL.mem x).mp n20_;obtain ⟨c,hc,_⟩:=Zdk.mp m;have m1:=n18_.mp ((wL.mem (2*c)).mpr ⟨k,hk,Zdk.mpr ⟨c,hc,.inl rfl⟩⟩);have m2:=n18_.mp ((wL.mem (2*c+1)).mpr ⟨k,hk,Zdk.mpr ⟨c,hc,.inr rfl⟩⟩);omega
       have ln:(ns.map V.int).length=ns.length:=n3_ ..;refine ⟨_,rfl,N,_,rfl,.inl (SqL.of (q26 _ _ (q2 _ _ eN))),t,_,[.ref p],rfl,rfl,e6,?d,?d,List.cons_ne_nil _ _,by simp,fun Z U7 q7 e7'=>?_⟩;refine ⟨z3_,fun T nT=>?_⟩;have q8:Same U7 (upd U7 T (.tup [.ref X,.ref R,.ref Z])):=Same.new nT;have q68:=q7.trans q8;have q48:=q5.trans (q6.trans q68)
       have hZ:IsQs U7 (.ref Z) (ns.map fun _=>0):=⟨Z,_,rfl,e7',by
        rw [Zce,ln,List.map_const',n63_];exact Zk7 ⟨p,rfl,q7 _ _ (q6 _ _ e5)⟩ _⟩
       exact q _ _ ns (s0G.trans (q2.trans (q3.trans (q4.trans q48)))) wL ⟨T,_,_,_,rfl,Zc,⟨X,rfl,q48 _ _ (q4 _ _ e3)⟩,⟨R,us2,rfl,q48 _ _ e4,a2.imp fun v x r=>Z5 (q3.trans (q4.trans q48)).tk r⟩,Z5 q8.tk hZ⟩
abbrev Yn:Stmt:=top 61
theorem Zcl (F:Fun K "_law_any_frame" "_law_any_frame" Yn f fd) (Ca_:a22_ P w K mg base) (Ce_:a27_ P w K mg base) (Ct_:a36_ P w K mg base):FnOk P w K mg base CX0 5 f fd ["_law_state_here"] Zkg:=by
 have sc:FnScope ["_law_state_here","_law_ways","_law_many","_law_rows","_law_at"] ["_law_state_here"] (Zf Yn):=fsc (?i);refine F.ok sc (fun vs H Q E h=>by obtain ⟨l,rfl,_⟩:=h;rfl) ?I;obtain ⟨l,rfl,hl,q⟩:=h;have nd:=sc.nd;refine' ?J
 case term=>refine' Ze (Z0 (i:=1) nd rfl ?o (Zfz Zso (Y6 (N:=["_law_way","_law_state_here"]) (fr:=[none,some 0]) rfl (Z1 (XN:=["_law_state_here","_law_ways","_law_many","_law_rows","_law_at"]) (Scope.names (Zf Yn)) rfl rfl rfl (fun _ h=>Zx h) (?i) rfl) (Yy rfl T.b_range ?G) ?X (fun _ _ _ _=>Zdp (Z9 Zjm (Zh Ca_ hr ?e rfl (Za (pv 1) ?G rfl)) Zd (Yk _))) (fun _ _ _ _=>pv 0)) Zi5 (Zik (Zh Ca_ hr ?e rfl (Za (pv 0) ?G rfl))))) ?g1;case g1=>refine' Ze (Yx (Zr (Za (Zm Zs rfl T.b_len Y0 ?P) (Za (Yj Zb) Zb rfl) rfl)) (Z2 (n:=2) rfl (Zg (Zk (i:=2) nd rfl ?o) (Zg (Zk (i:=3) nd rfl (Or.inr rfl)) Zz)))) ?g2;case g2=>refine' Ze (Y7 PassesOwn.never rfl (Yy rfl T.b_range ?Y) (Zk (i:=4) nd rfl (Or.inr rfl)) (Zi (Xq (Zg4 PySem.F.plainAttrs_list PySem.F.slot_list_append PySem.F.type_list_append Xi (pv 3) (Za (Y6 (N:=["_law_to","_law_at","_law_rows","_law_state_here"]) (fr:=[none,some 4,some 3,some 0]) rfl (Z1 (XN:=["_law_state_here","_law_ways","_law_many","_law_rows","_law_at"]) (Scope.names (Zf Yn)) rfl rfl rfl (fun _ h=>Zx h) (?i) rfl) (Yy rfl T.b_range ?Y) ?X ?R (fun _ _ _ _=>Zf7 (Z9 Zhr (pv 0) (pv 1) (Yk _)) (Zv (Zdl K rfl) (Zv (Zdl K rfl) (pv 2) (pv 0) (?l)) (pv 1) (?l)) (Zh Ce_ hr ?e rfl (Za (pv 3) Zb rfl)))) Zb rfl))))) (Zi (Zq (Zr (Za (Zo Zn rfl T.b_tuple Zt ?P) (Za (Zo Zn rfl T.b_tuple Zt (Za (Y6 (N:=["_law_row_here"]) (fr:=[none]) rfl (Zac ?e rfl ?e rfl rfl) (Yl (pv 3)) ?X ?R (fun _ _ _ _=>Zo (Ye K rfl) rfl T.b_tuple Zt ?Q)) Zb rfl)) (Za (Zh Ct_ hr ?e rfl (Za (pv 0) ?Y rfl)) Zb rfl) rfl) rfl))))
 refine ⟨60,rfl,?k,?k,fun D nD=>?_⟩;have neD:D≠l:=hl.neN nD;refine Zcz (n:=60) (fun i σ G=>Keep l H G∧StAt G l∧(∃ u,σ=[u,some (.ref l)])∧∃ ks:?p,G D=some (.lst (?Z))∧ks.Pairwise (·<·)∧∀ k∈ks,k<i) ⟨Keep.new nD,hl.new nD,?K,[],Zc,.nil,by simp⟩ (fun i σ G hi p=>hi) (fun σ G p=>n7_ _) (fun i x σ G G' hi y p=>?_) (fun σ G p=>?_)
 · obtain ⟨kG,lG,⟨u,rfl⟩,ks,eD,rise,lt⟩:=p;obtain ⟨rfl,rfl⟩:=y;have lks:=Zaq (m:=0) rise fun k hk=>⟨n47_ _,lt k hk⟩;refine ⟨_,rfl,l,15,rfl,lG,?k,?k,fun r1 H3 _ _ k3 l3=>?_⟩;have e3:=k3 _ _ neD eD;have k13:=kG.trans k3;refine ⟨rfl,_,rfl,?_⟩;refine ite2 (fun _=>?_) (fun _=>?_)
   · refine ⟨_,rfl,_,e3,by rw [n3_,n3_,sizeLine_eq];omega,60-(i+1),?d,?d,rfl,fun b o ne e=>?_,?_,?K,ks++[i],?_,?_,?_⟩
     · rw [Zl fun z=>by rw [z,nD] at e;cases e];exact k13 _ _ ne e
     · obtain ⟨a,b,c,e,r⟩:=l3;exact ⟨a,b,c,by rw [Zl (Ne.symm neD)];exact e,r⟩
     · rw [Zc];simp [nI]
     · exact List.pairwise_append.mpr ⟨rise,List.pairwise_singleton ..,fun a ha b hb=>by rw [n18_.mp hb];exact lt a ha⟩
     · intro k hk
       rcases n36_.mp hk with h|h
       · exact n55_ (lt k h)
       · rw [n18_.mp h];exact n87_ i
   · exact ⟨60-(i+1),?d,?d,rfl,k13,l3,?K,ks,e3,rise,fun k hk=>n55_ (lt k hk)⟩
 obtain ⟨kG,lG,⟨u,rfl⟩,ks0,eD,rise0,lt0⟩:=p;refine ⟨_,rfl,l,7,rfl,lG,?k,?k,fun r2 H2 r20 r21 k2 l2=>?_⟩;obtain ⟨rn,rfl⟩:∃ n:Nat,r2=n:=⟨r2.toNat,?d⟩;refine ⟨_,rfl,D,_,rfl,SqL.of (k2 _ _ neD eD),fun W nW=>?_⟩;rw [Zpe,← List.map_take,← List.map_take];obtain ⟨ks,hks⟩:∃ ks,ks=ks0.take rn:=?K;rw [← hks];have sub:ks.Sublist ks0:=hks ▸ List.take_sublist ..;have rise:=rise0.sublist sub;have lt:∀ k∈ks,k<60:=fun k hk=>lt0 k (sub.subset hk);have lm:ks.length≤6:=by rw [hks,n60_];omega
 generalize gG:upd H2 W (.lst (?Z))=H3;obtain ⟨s3,e3⟩:=gen_upd gG nW;have ln:(?Z).length=ks.length:=by simp
 refine ⟨_,rfl,W,_,rfl,.inl (SqL.of e3),z0_,fun F nF=>?_⟩;rw [ln];generalize hm:ks.length=m at *;have s4:Same H3 (upd H3 F (.lst [])):=Same.new nF;have e4:upd H3 F (.lst []) F=some (.lst []):=Zc;have nWF:W≠F:=Zj e3 nF;generalize upd H3 F (.lst [])=H4 at s4 e4 ⊢;refine ⟨z2_,fun p np=>?_⟩;generalize gG:upd H4 p (.tup [.int m,.ref F])=H5;obtain ⟨s5,e5⟩:=gen_upd gG np;refine ⟨p,_,rfl,SqT.of e5,rfl,_,_,rfl,_,_,rfl,rfl,?_⟩;have s35:=s4.trans s5;have l5:=(l2.same s3).same s35;have neF:F≠l:=(l2.same s3).neN nF;have neW:W≠l:=l2.neN nW;have eW5:=s35 _ _ e3;have eF5:=s5 _ _ e4;have k05:∀ b o,b≠l→H b=some o→H5 b=some o:=fun b o ne e=>s35 _ _ (s3 _ _ (k2 _ _ ne (kG _ _ ne e)));have nF0:∀ {b o},b≠l→H b=some o→b≠F:=fun ne e=>Zj (s3 _ _ (k2 _ _ ne (kG _ _ ne e))) nF;refine ⟨_,rfl,m,rfl,?d,?d,?_⟩;refine Zd1 (fun i σ G=>(∃ y,σ=[some (.ref l),some (.ref W),some (.int m),some (.ref F),y])∧(∀ b o,b≠l→b≠F→H5 b=some o→G b=some o)∧StAt G l∧∃ (as:List Addr) (R:List (?z)),G F=some (.lst (as.map V.ref))∧Al (fun v r=>∃ a us,v=.ref a∧a≠F∧a≠l∧G a=some (.lst us)∧Al (IsQ G) us r) (as.map V.ref) R∧R.length=i∧(∀ r∈R,r.length=m∧∀ q∈r,Sm q)∧∀ a b,a<i→b<i→(R.getD a []).getD b 0=(R.getD b []).getD a 0) ⟨?K,fun b o _ _ e=>e,l5,[],[],eF5,.nil,rfl,by simp,fun a b h=>?d⟩ (fun i σ G hi p=>?_) (fun σ G p=>?_)
 · obtain ⟨⟨y,rfl⟩,kG',lG',as,R,eF,aR,lR,hR,sy⟩:=p;have la:as.length=i:=by have:=aR.1;rw [n3_] at this;omega
   refine ⟨_,rfl,.inl ⟨rfl,_,SqL.of eF⟩,_,rfl,m,rfl,?d,?d,fun E nE=>?_⟩;have neE:E≠l:=lG'.neN nE;have nEF:E≠F:=fun z=>by rw [z,eF] at nE;cases nE
   refine Zcz (n:=m) (fun j σ U=>Keep l G U∧StAt U l∧(∃ u,σ=[u,some (.int (0+i)),some (.ref F),some (.ref l)])∧∃ (us:List V) (xs:?z),U E=some (.lst us)∧Al (IsQ U) us xs∧xs.length=j∧(∀ x∈xs,Sm x)∧∀ t,t<i→t<j→xs.getD t 0=(R.getD t []).getD i 0) ⟨Keep.new nE,lG'.new nE,?K,[],[],Zc,.nil,rfl,by simp,fun t _ h=>?d⟩ (fun j σ U hj p=>hj) (fun σ U p=>n7_ _) (fun j x σ U U' hj y p=>?_) (fun σ U p=>?_)
   · obtain ⟨kU,lU,⟨u,rfl⟩,us,xs,eE,ax,lx,sx,hx⟩:=p;obtain ⟨rfl,rfl⟩:=y
     have done:∀ (q':Rat) (v:V) (U2:Hp),Keep l G U2→StAt U2 l→(∀ b xs,U' b=some (.tup xs)→U2 b=some (.tup xs))→U2 E=some (.lst us)→IsQ U2 v q'→Sm q'→(j<i→q'=(R.getD j []).getD i 0)→∃ ys,U2 E=some (.lst ys)∧ys.length<sizeLine∧∃ m',m'<m-j∧LcN m (fun j σ U=>Keep l G U∧StAt U l∧(∃ u,σ=[u,some (.int (0+i)),some (.ref F),some (.ref l)])∧∃ (us:List V) (xs:?z),U E=some (.lst us)∧Al (IsQ U) us xs∧xs.length=j∧(∀ x∈xs,Sm x)∧∀ t,t<i→t<j→xs.getD t 0=(R.getD t []).getD i 0) (j+1) m' [some (.int (0+j)),some (.int (0+i)),some (.ref F),some (.ref l)] (upd U2 E (.lst (ys++[v]))):=fun q' v U2 k2' l2' t2 e2' hv sv hq=>by
      have tE:Tk U2 (upd U2 E (.lst (us++[v]))):=Tk.upd_lst e2';refine ⟨us,e2',by rw [ax.1,lx,sizeLine_eq];omega,m-(j+1),?d,?d,rfl,fun b o ne e=>?_,?_,?K,us++[v],xs++[q'],Zc,(ax.imp fun v x r=>(r.tk t2).tk tE).snoc (hv.tk tE),by simp [lx],fun x hx'=>?_,fun t ht1 ht2=>?_⟩
      · rw [Zl fun z=>by rw [z,nE] at e;cases e];exact k2' _ _ ne e
      · obtain ⟨a,b,c,e,r⟩:=l2';exact ⟨a,b,c,by rw [Zl (Ne.symm neE)];exact e,r⟩
      · rcases n36_.mp hx' with h|h
        · exact sx x h
        · rw [n18_.mp h];exact sv
      · rw [n4_]
        by_cases c:t<j
        · rw [n72_ (?d),← n4_];exact hx t ht1 c
        · have:t=j:=?d
          subst this;rw [n66_ (?d),show t-xs.length=0 by omega];exact hq ht1
     refine ⟨_,rfl,_,rfl,_,_,rfl,rfl,_,rfl,?_⟩;refine ite2 (fun h=>?_) (fun h=>?_)
     · have hji:j<i:=by have:=n49_ h;omega
       obtain ⟨r,er⟩:∃ r,R[j]? = some r:=⟨R[j]'(?d),n0_ (?d)⟩;obtain ⟨v1,ev1,a1,us1,rfl,na1,na2,ea1,au1⟩:=aR.got er;have lr:=(hR r (n17_ er)).1;obtain ⟨q',eq'⟩:∃ q',r[i]? = some q':=⟨r[i]'(?d),n0_ (?d)⟩;obtain ⟨v2,ev2,hv2⟩:=au1.got eq';have g1:R.getD j []=r:=by rw [n4_,er];rfl
       have g2:r.getD i 0=q':=by rw [n4_,eq'];rfl
       exact ⟨_,rfl,_,rfl,F,_,(0+(j:Int)),_,rfl,rfl,SqL.of (kU _ _ neF eF),by rw [Int.zero_add];exact Ys ev1,_,rfl,a1,us1,(0+(i:Int)),v2,rfl,rfl,SqL.of (kU _ _ na2 ea1),by rw [Int.zero_add];exact Ys ev2,done q' v2 _ kU lU (fun _ _ e=>e) eE (hv2.tk (tkS kU lG')) ((hR r (n17_ er)).2 q' (n17_ eq')) fun _=>by rw [g1,g2]⟩
     · have hji:¬ j<i:=fun z=>h (n44_ (?d));exact ⟨_,rfl,l,rfl,lU,fun U2 p' q' k6 l6 e6 B6=>done q' (.ref p') U2 (kU.trans k6) l6 (tkS k6 lU) (k6 _ _ neE eE) ⟨p',rfl,e6⟩ (sm60 B6.1) fun z=>absurd z hji⟩
   · obtain ⟨kU,lU,_,us,xs,eE,ax,lx,sx,hx⟩:=p;have eFU:=kU _ _ neF eF;have tF:Tk U (upd U F (.lst (as.map V.ref++[.ref E]))):=Tk.upd_lst eFU;have kF:∀ b o,b≠F→U b=some o→upd U F (.lst (as.map V.ref++[.ref E])) b=some o:=fun b o ne e=>by rw [Zl ne];exact e
     refine ⟨F,_,.ref E,rfl,rfl,eFU,by rw [n3_,la,sizeLine_eq];omega,?K,fun b o n1 n2 e=>kF _ _ n2 (kU _ _ n1 (kG' _ _ n1 n2 e)),?_,as++[E],R++[xs],?_,?_,by rw [n33_,lR];rfl,fun r hr=>?_,fun a b ha hb=>?_⟩
     · obtain ⟨a,b,c,e,r⟩:=lU;exact ⟨a,b,c,kF _ _ (Ne.symm neF) e,r⟩
     · rw [Zc,n62_];rfl
     · rw [n62_];exact (aR.imp fun v r hr=>let ⟨a,us,e,n1,n2,ea,au⟩:=hr;⟨a,us,e,n1,n2,kF _ _ n1 (kU _ _ n2 ea),au.imp fun v x r=>(r.tk (tkS kU lG')).tk tF⟩).snoc ⟨E,us,rfl,nEF,neE,kF _ _ nEF eE,ax.imp fun v x r=>r.tk tF⟩
     · rcases n36_.mp hr with h|h
       · exact hR r h
       · rw [n18_.mp h];exact ⟨lx,sx⟩
     · have gl:∀ {c},c<i→(R++[xs]).getD c []=R.getD c []:=fun hc=>by rw [n4_,n4_,n72_ (?d)]
       have gi:(R++[xs]).getD i []=xs:=by rw [n4_,n66_ (?d),show i-R.length=0 by omega];rfl
       by_cases ca:a<i<;>by_cases cb:b<i
       · rw [gl ca,gl cb];exact sy a b ca cb
       · have:b=i:=?d
         subst this;rw [gl ca,gi,hx a ca (?d)]
       · have:a=i:=?d
         subst this;rw [gl cb,gi,hx b cb (?d)]
       · have h1:a=i:=?d
         have h2:b=i:=?d
         rw [h1,h2]
 · obtain ⟨⟨y,rfl⟩,kG',lG',as,R,eF,aR,lR,hR,sy⟩:=p;rw [n63_] at lR sy;have eWG:=kG' _ _ neW nWF eW5;refine ⟨_,rfl,W,_,rfl,.inl ⟨SqL.of eWG,fun A nA=>?_⟩⟩;generalize gG:upd G A (.tup (?Z))=H6;obtain ⟨s6,e6⟩:=gen_upd gG nA;have la:(as.map V.ref).length=m:=by rw [aR.1,lR]
   refine ⟨_,rfl,F,rfl,⟨_,SqL.of (s6 _ _ eF)⟩,fun E nE=>?_⟩;refine lc_T (k:=.l) (vs:=as.map V.ref) IsQs hRQs R (by rw [la,lR]) (?d) nE (s6 _ _ eF) (fun j w U C hj s7 c=>?_) (fun U us s7 e7 a7=>?_)
   · obtain ⟨r,er,a,us,rfl,n1,n2,ea,au⟩:=aR.get hj;have s67:=s6.trans s7;refine ⟨_,rfl,a,us,rfl,.inl ⟨SqL.of (s67 _ _ ea),fun B nB=>?_⟩⟩;have s8:Same U (upd U B (.tup us)):=Same.new nB;exact c _ _ _ s8 er ⟨B,us,rfl,Zc,au.imp fun v x r=>r.tk (s67.trans s8).tk⟩
   · refine ⟨E,us,rfl,.inl ⟨SqL.of e7,fun B nB=>?_⟩⟩;generalize gG:upd U B (.tup us)=H8;obtain ⟨s8,e8⟩:=gen_upd gG nB;have s68:=s7.trans s8;have l8:=(lG'.same s6).same s68;refine ⟨_,rfl,_,rfl,l,m,rfl,l8,?d,fun H9 v9 ms k9 l9 h9 n9 b9 _=>?_⟩;refine ⟨z3_,fun T nT=>?_⟩;have s10:Same H9 (upd H9 T (.tup [.ref A,.ref B,v9])):=Same.new nT;have t9:=tkS k9 l8;refine q _ _ ks (fOf ks R) (gOf ks ms) (fun b o ne e=>?_) (l9.same s10) ⟨T,_,_,_,rfl,Zc,⟨A,rfl,s10 _ _ (t9 _ _ (s68 _ _ e6))⟩,?_,?_⟩ (Zt9 rise lt (?d) (fun r hr=>(hR r hr).2) (fun q hq=>sm60 (b9 q hq)) fun i j h1 h2=>sy i j (?d) (?d))
     · exact s10 _ _ (k9 _ _ ne (s68 _ _ (s6 _ _ (kG' _ _ ne (nF0 ne e) (k05 _ _ ne e)))))
     · rw [Ztm rise (?d) fun r hr=>by rw [hm];exact (hR r hr).1];exact ⟨B,us,rfl,s10 _ _ (t9 _ _ e8),a7.imp fun v x r=>Z5 ((s8.tk.trans t9).trans s10.tk) r⟩
     · rw [Zju rise (?d)];exact Z5 s10.tk h9
abbrev Xd:Stmt:=top 62
theorem Zb1 (F:Fun K "_law_some_frame" "_law_some_frame" Xd f fd) (Cv_:a37_ P w K mg base) (Ca_:a22_ P w K mg base) (Cat_:a38_ P w K mg base) (Cw_:a39_ P w K mg base) (Cai_:a40_ P w K mg base) (Ct_:a36_ P w K mg base):FnOk P w K mg base CX0 8 f fd ["_law_state_here"] Zh6:=by
 have sc:FnScope ["_law_state_here","_law_sheet","_law_ways","_law_table","_law_rights"] ["_law_state_here"] (Zf Xd):=fsc (?i);refine F.ok sc (fun vs H Q E h=>by obtain ⟨l,rfl,_⟩:=h;rfl) ?I;obtain ⟨l,rfl,hl,q⟩:=h;have nd:=sc.nd;refine' ?J
 case term=>refine' Ze (X5 (Z9 Zjm (Zh Ca_ hr ?e rfl (Za (pv 0) ?G rfl)) Zd (Yk _)) (Zi (Zq (Zh Cv_ hr ?e rfl ?Q))) Yb) (Ze (Z0 (i:=1) nd rfl ?o (Zh Cai_ hr ?e rfl (Za (pv 0) ?G rfl))) (Ze (Yx (Zh Cw_ hr ?e rfl (Za (pv 1) (Za (Zh Cat_ hr ?e rfl (Za (pv 0) ?P rfl)) Zb rfl) rfl)) (Z2 (n:=3) rfl (Zg (Zk (i:=2) nd rfl ?o) (Zg (Zk (i:=3) nd rfl ?o) (Zg (Zk (i:=4) nd rfl ?o) Zz))))) (Zi (Zq (Zr (Za (pv 2) (Za (pv 3) (Za (Zh Ct_ hr ?e rfl (Za (pv 0) (Za (Zm Zs rfl T.b_len Y0 ?Y) Zb rfl) rfl)) Zb rfl) rfl) rfl))))))
 refine ⟨_,rfl,l,3,rfl,hl,?k,?k,fun r1 H1 _ _ k1 l1=>?_⟩;refine ⟨rfl,_,rfl,?_⟩;refine ite2 (fun _=>?_) (fun _=>?_)
 · exact ⟨_,rfl,l,rfl,l1,fun H2 v ks f g k2 l2 h2 ok=>q _ v ks f g (k1.trans k2) l2 h2 ok⟩
 refine ⟨_,rfl,l,rfl,l1,fun H2 pv P' k2 l2 hP ok p4 c6=>?_⟩;refine ⟨_,rfl,_,rfl,_,rfl,l,pv,P',rfl,l2,hP,ok,fun H3 b js k3 l3 e3 lot=>⟨pv,P',b,js,rfl,hP.tk (tkS k3 l2),ok,p4,e3,lot,fun H4 r ns s4 wL fr=>?_⟩⟩;obtain ⟨a,wv,rv,zv,rfl,ha,⟨wa,rfl,hw⟩,hr',_⟩:=fr;refine ⟨a,_,rfl,SqT.of ha,rfl,_,_,rfl,_,_,rfl,_,_,rfl,rfl,?_⟩
 have bd:∀ x∈ns,0≤x∧x<12:=fun x hx=>by
  obtain ⟨k,hk,m⟩:=(wL.mem x).mp hx
  have:=(Zcy ok (lot.lt k hk)).2.2 x m
  omega
 obtain ⟨ks,rfl⟩:∃ ks:?p,ns=nI ks:=⟨ns.map Int.toNat,by
  show ns=(ns.map Int.toNat).map fun k:Nat=>(k:Int)
  rw [List.map_map];refine (List.map_id ns).symm.trans (n57_ fun x hx=>?_)
  have:=bd x hx
  show x=((x.toNat:Nat):Int)
  omega⟩
 have rise:ks.Pairwise (·<·):=by
  have:=wL.rise
  rw [List.pairwise_map] at this;exact this.imp fun h=>?d
 have lt:∀ k∈ks,k<12:=fun k hk=>by have:=bd k (n89_ hk);omega
 have l12:ks.length≤12:=Zaq (m:=0) rise fun k hk=>⟨n47_ _,lt k hk⟩;have ln:(?Z).length=ks.length:=by simp
 have l4:=l3.same s4;refine ⟨_,rfl,_,rfl,_,rfl,_,rfl,wa,_,rfl,.inr (SqT.of hw),l,ks.length,by rw [ln],l4,?d,fun H5 v5 ms k5 l5 h5 n5 b5 _=>⟨z3_,fun U nU=>?_⟩⟩;have s6:Same H5 (upd H5 U (.tup [.ref wa,rv,v5])):=Same.new nU;have t56:=(tkS k5 l4).trans s6.tk
 have lj:js.length≤4:=by
  have:=Zaq (m:=0) (n:=P'.ps.length) lot.rise fun k hk=>⟨n47_ _,lot.lt k hk⟩
  omega
 refine q _ _ ks (fLot P' js) (gOf ks ms) (k1.trans (k2.trans (k3.trans (s4.keep.trans (k5.trans s6.keep))))) (l5.same s6) ⟨U,_,_,_,rfl,Zc,⟨wa,rfl,t56 _ _ hw⟩,Zdr t56 hr',?_⟩ ⟨rise,fun k hk=>Nat.lt_trans (lt k hk) ?e,l12,fun x y h=>?_,fun x h=>if_neg h,fun x y=>Zkl P' x y js,fun k=>Zsk (Zvm ok lot.lt k) (n31_ (Zo4 ok k js lot.lt) lj),Zlc fun q hq=>sm60 (b5 q hq)⟩
 · rw [Zju rise n5];exact Z5 s6.tk h5
 · exact Zm3 ok lot.lt (h.imp (fun h k hk m=>h ((wL.mem x).mpr ⟨k,hk,m⟩)) fun h k hk m=>h ((wL.mem y).mpr ⟨k,hk,m⟩))
abbrev Zav:Stmt:=top 63
theorem Zhy (F:Fun K "_law_kept" "_law_kept" Zav f fd) (Ca_:a22_ P w K mg base):FnOk P w K mg base CX0 3 f fd ["_law_state_here","_law_frame"] Znp:=by
 have sc:FnScope ["_law_state_here","_law_frame","_law_share"] ["_law_state_here","_law_frame"] (Zf Zav):=fsc (?i);refine F.ok sc (fun vs H Q E h=>by obtain ⟨l,v,ks,f,g,rfl,_⟩:=h;rfl) ?I;obtain ⟨l,v,ks,f,g,rfl,hl,hv,ok,q⟩:=h;have nd:=sc.nd;refine' ?J
 case term=>refine' Ze (Z0 (i:=2) nd rfl (Or.inr rfl) (Zh Ca_ hr ?e rfl (Za (pv 0) ?G rfl))) (Zi (Zq (Zo Zn rfl T.b_tuple Zt (Za (Y6 (N:=["_law_way","_law_state_here","_law_share"]) (fr:=[none,some 0,some 2]) rfl (Z1 (XN:=["_law_state_here","_law_frame","_law_share"]) (Scope.names (Zf Zav)) rfl rfl rfl (fun _ h=>Zx h) (?i) rfl) (Zai (Zv Zw (pv 1) Zd (?l))) ?X (fun _ _ _ _=>Zdp (Z9 Zhr (Zh Ca_ hr ?e rfl (Za (pv 1) ?G rfl)) (pv 2) (Yk _))) (fun _ _ _ _=>pv 0)) Zb rfl))))
 obtain ⟨a,wv,rv,zv,hva,ha,⟨wa,rfl,hw⟩,_⟩:=id hv;have l12:=ok.le;refine ⟨_,rfl,l,7,rfl,hl,?k,?k,fun r1 H1 _ _ k1 l1=>?_⟩;have t1:=tkS k1 hl;refine ⟨_,hva ▸ rfl,a,_,0,_,rfl,rfl,SqT.of (t1 _ _ ha),rfl,wa,rfl,⟨_,SqT.of (t1 _ _ hw)⟩,fun D nD=>?_⟩;have neD:D≠l:=l1.neN nD;refine Zcz (n:=ks.length) (fun i σ G=>Keep l H1 G∧StAt G l∧(∃ u,σ=[u,some (.ref l),some (.int r1)])∧∃ js:?p,G D=some (.lst ((nI js).map V.int))∧js.Sublist (ks.take i)) ⟨Keep.new nD,l1.new nD,?K,[],Zc,List.nil_sublist _⟩ (fun i σ G hi p=>?_) (fun σ G p=>?_) (fun i x σ G G' hi y p=>?_) (fun σ G p=>?_)
 · obtain ⟨kG,lG,_⟩:=p;exact ⟨_,.int ((nI ks)[i]'(by rw [n3_];exact hi)),SqT.of ((tkS kG l1) _ _ (t1 _ _ hw)),by rw [n5_,n0_ (by rw [n3_];exact hi)];rfl⟩
 · obtain ⟨kG,lG,_⟩:=p;exact ⟨_,SqT.of ((tkS kG l1) _ _ (t1 _ _ hw)),by rw [n3_,n3_];exact n7_ _⟩
 · obtain ⟨kG,lG,⟨u,rfl⟩,js,eD,sj⟩:=p;obtain ⟨rfl,yx⟩:=y;have ex:=yx _ (SqT.of ((tkS kG l1) _ _ (t1 _ _ hw)));rw [n5_,n5_,n0_ hi] at ex;cases ex
   have ti:ks.take (i+1)=ks.take i++[ks[i]]:=by rw [n77_,n0_ hi];rfl
   have lj:js.length≤12:=by have:=sj.length_le;rw [n60_] at this;omega
   refine ⟨_,rfl,l,6,rfl,lG,?k,?k,fun r2 H3 _ _ k3 l3=>?_⟩;have e3:=k3 _ _ neD eD;have k13:=kG.trans k3;refine ⟨_,rfl,_,_,rfl,rfl,_,rfl,?_⟩;refine ite2 (fun _=>?_) (fun _=>?_)
   · refine ⟨_,rfl,_,e3,by rw [n3_,n3_,sizeLine_eq];omega,ks.length-(i+1),?d,?d,rfl,fun b o ne e=>?_,?_,?K,js++[ks[i]],?_,by rw [ti];exact sj.append (List.Sublist.refl _)⟩
     · rw [Zl fun z=>by rw [z,nD] at e;cases e];exact k13 _ _ ne e
     · obtain ⟨a,b,c,e,r⟩:=l3;exact ⟨a,b,c,by rw [Zl (Ne.symm neD)];exact e,r⟩
     · rw [Zc];simp [nI]
   · exact ⟨ks.length-(i+1),?d,?d,rfl,k13,l3,?K,js,e3,by rw [ti];exact sj.trans (List.sublist_append_left ..)⟩
 · obtain ⟨kG,lG,_,js,eD,sj⟩:=p;rw [List.take_length] at sj;refine ⟨D,_,rfl,.inl ⟨SqL.of eD,fun r nr=>?_⟩⟩;exact q _ r js (k1.trans (kG.trans (Keep.new nr))) (lG.new nr) Zc (ok.rise.sublist sj) (fun j hj=>sj.subset hj) sj.length_le
abbrev Yt:Stmt:=top 64
theorem Ze4 (F:Fun K "_law_joined" "_law_joined" Yt f fd) (Cc_:a24_ P w K mg base):FnOk P w K mg base CX0 3 f fd ["_law_one","_law_other"] Zfv:=by
 have sc:FnScope ["_law_one","_law_other","_law_ways","_law_sums","_law_rights","_law_frame","_law_at","_law_way","_law_to","_law_its","_law_rows"] ["_law_one","_law_other"] (Zf Yt):=fsc (?i);refine F.ok sc (fun vs H Q E h=>by obtain ⟨v,u,ks,ms,f1,f2,g1,g2,rfl,_⟩:=h;rfl) ?I;obtain ⟨v,u,ks,ms,f1,f2,g1,g2,rfl,hv,ok1,hu',ok2,q⟩:=h;have nd:=sc.nd;have hu:=Zlq hr;refine' ?J
 case term=>refine' Ze ?g1 ?g2;(case g1=>refine' Z0 (i:=2) nd rfl (Or.inr rfl) ?g3;case g3=>refine' Zm (Za6 rfl) rfl T.b_sorted Za5 ?g4;case g4=>refine' Za ?g5 Zb rfl;case g5=>refine' Zo (Zeb rfl) rfl T.b_set Zk2 ?g6;case g6=>refine' Za ?g7 Zb rfl;case g7=>refine' Zp Zm7 (Zv Zw (pv 0) Zd (?l)) (Zv Zw (pv 1) Zd (?l)));case g2=>refine' Ze (Yx (Zr (Za Zqd (Za (Zo (Zes rfl (Zog hr)) rfl T.b_dict Zil (Za (Y6 (N:=["_law_way"]) (fr:=[none]) rfl (Zac ?e rfl ?e rfl rfl) (Yl (pv 2)) ?X ?R (fun _ _ _ _=>Zr (Za (pv 0) (Za (Zr (Za Zd ?G rfl)) Zb rfl) rfl))) Zb rfl)) Zb rfl) rfl)) (Z2 (n:=2) rfl (Zg (Zk (i:=3) nd rfl (Or.inr rfl)) (Zg (Zk (i:=4) nd rfl (Or.inr rfl)) Zz)))) ?g8;case g8=>refine' Ze ?g9 ?ga;(case g9=>refine' Y7 PassesOwn.never rfl (Zai (Zr (Za (pv 0) ?P rfl))) (Zk (i:=5) nd rfl ?o) ?gb;case gb=>refine' Zi ?gc;case gc=>refine' Y7 PassesOwn.never rfl (Zei .t rfl T.b_enumerate (Za (Zv Zw (pv 5) Zd (?l)) Zb rfl)) (Z2 (n:=2) rfl (Zg (Zk (i:=6) nd rfl ?o) (Zg (Zk (i:=7) nd rfl ?o) Zz))) ?gd;case gd=>refine' Ze ?ge ?gf;(case ge=>refine' Zni hu (pv 4) (pv 7) ?gg rfl;case gg=>refine' Zh Cc_ hr ?e rfl ?gh;case gh=>refine' Za (Zjc hu (pv 4) (pv 7) (?l)) ?gi rfl;case gi=>refine' Za ?gj Zb rfl;case gj=>refine' Zv Zw (Zv Zw (pv 5) Zd (?l)) (pv 6) (?l));case gf=>refine' Zi ?gk;case gk=>refine' Y7 PassesOwn.never rfl (Zei .t rfl T.b_enumerate (Za (Zv Zw (pv 5) Zd (?l)) Zb rfl)) (Z2 (n:=2) rfl (Zg (Zk (i:=8) nd rfl ?o) (Zg (Zk (i:=9) nd rfl ?o) Zz))) ?gl;case gl=>refine' Zi ?gm;case gm=>refine' Zni hu (pv 3) (Zr (Za (pv 7) (Za (pv 9) Zb rfl) rfl)) ?gn rfl;case gn=>refine' Zh Cc_ hr ?e rfl ?go;case go=>refine' Za (Zgv hu (pv 3) (Zr (Za (pv 7) (Za (pv 9) Zb rfl) rfl)) (Zr (Za Zd ?G rfl)) ⟨rfl,rfl,rfl,rfl⟩) ?gp rfl;case gp=>refine' Za ?gq Zb rfl;case gq=>refine' Zv Zw ?gr (pv 8) (?l);case gr=>refine' Zv Zw (Zv Zw (pv 5) Zd (?l)) (pv 6) (?l));case ga=>refine' Ze (Zfe (N:=["_law_way","_law_ways","_law_sums"]) (fr:=[none,some 2,some 3]) rfl rfl (Zk (i:=10) nd rfl ?o) (Z1 (XN:=["_law_one","_law_other","_law_ways","_law_sums","_law_rights","_law_frame","_law_at","_law_way","_law_to","_law_its","_law_rows"]) (Scope.names (Zf Yt)) rfl rfl rfl (fun _ h=>Zx h) (?i) rfl) (Yl (pv 2)) (fun _ _ _ _=>Zk (i:=0) (show List.Nodup (["_law_way","_law_ways","_law_sums"]:List Str) by decide) rfl (Or.inr rfl) ?o) ?R (fun _ _ _ _=>Zo (Ye K rfl) rfl T.b_tuple Zt (Za (Y6 (N:=["_law_its","_law_sums","_law_way"]) (fr:=[none,some 2,some 0]) rfl (Z1 (XN:=["_law_way","_law_ways","_law_sums"]) (relN _ (Scope.names (Zf Yt))) rfl rfl rfl (fun _ h=>Zad (?i) h) (?i) rfl) (Zf9 K rfl (pv 1)) ?X ?R (fun _ _ _ _=>Zgv hu (pv 1) (Zr (Za (pv 2) ?Q rfl)) (Zr (Za Zd ?G rfl)) ⟨rfl,rfl,rfl,rfl⟩)) Zb rfl))) (Zi (Zq (Zr (Za (Zo Zn rfl T.b_tuple Zt ?Y) (Za (Zo Zn rfl T.b_tuple Zt (Za (pv 10) Zb rfl)) (Za (Zo Zn rfl T.b_tuple Zt (Za (Y6 (N:=["_law_way","_law_rights"]) (fr:=[none,some 4]) rfl (Z1 (XN:=["_law_one","_law_other","_law_ways","_law_sums","_law_rights","_law_frame","_law_at","_law_way","_law_to","_law_its","_law_rows"]) (Scope.names (Zf Yt)) rfl rfl rfl (fun _ h=>Zx h) (?i) rfl) (Yl (pv 2)) ?X ?R (fun _ _ _ _=>Zjc hu (pv 1) (pv 0) (?l))) Zb rfl)) Zb rfl) rfl) rfl))))
 obtain ⟨a,wv,rv,zv,hva,ha,⟨wa,rfl,hw⟩,_⟩:=id hv;obtain ⟨b,wv',rv',zv',hub,hb,⟨wb,rfl,hw'⟩,_⟩:=id hu';have l1:=ok1.le;have l2:=ok2.le;have lk1:(nI ks).length=ks.length:=n3_ ..;have lk2:(nI ms).length=ms.length:=n3_ ..;refine ⟨_,hva ▸ rfl,a,_,0,_,rfl,rfl,SqT.of ha,rfl,_,hub ▸ rfl,b,_,0,_,rfl,rfl,SqT.of hb,rfl,wa,wb,_,_,rfl,rfl,hw,hw',by simp only [n3_];rw [sizeLine_eq];omega,fun C H1 s1 e1=>?_⟩;rw [← n62_] at e1;refine ⟨C,nI ks++nI ms,rfl,SqT.of e1,by rw [n33_];omega,fun S H2 n2 s2 e2=>?_⟩;have m1:=Zb8 (nI ks++nI ms);rw [n33_] at m1;refine ⟨S,_,rfl,e2,?d,fun N ns nN pm le=>?_⟩;generalize gG:upd H2 N (.lst ?U)=H3;obtain ⟨s3,e3⟩:=gen_upd gG nN;have s03:=s1.trans (s2.trans s3);have mem':∀ x,x∈ns↔x∈nI ks∨x∈nI ms:=fun x=>by rw [pm.mem_iff,Zdt,n36_]
 have nI_mem:∀ {l:?p} {x:Int},x∈nI l↔∃ k∈l,(k:Int)=x:=n21_
 have pos:∀ x∈ns,0≤x:=fun x hx=>by
  rcases (mem' x).mp hx with h|h<;>obtain ⟨k,_,rfl⟩:=nI_mem.mp h<;>omega
 obtain ⟨js,rfl⟩:∃ js:?p,ns=nI js:=⟨ns.map Int.toNat,by
  show ns=(ns.map Int.toNat).map fun k:Nat=>(k:Int)
  rw [List.map_map];refine (List.map_id ns).symm.trans (n57_ fun x hx=>?_)
  have:=pos x hx
  show x=((x.toNat:Nat):Int)
  omega⟩
 have wj:WaysJ ks ms js:=by
  refine ⟨by have:=pm.length_eq;rw [n3_] at this;omega,?_,fun x=>?_⟩
  · have:=(le.and (pm.nodup_iff.mpr (Znh _))).imp (S:=fun x y=>x<y) fun {x y} h=>by have:=h.1;have:=h.2;omega
    rw [List.pairwise_map] at this;exact this.imp fun h=>?d
  · have:=mem' (x:Int)
    rw [nI_mem,nI_mem,nI_mem] at this;have sx:∀ l:?p,(∃ k∈l,(k:Int)=(x:Int))↔x∈l:=fun l=>⟨fun ⟨k,hk,e⟩=>by rw [← Int.ofNat.inj e];exact hk,fun h=>⟨x,h,rfl⟩⟩
    rwa [sx,sx,sx] at this
 have lj:(nI js).length≤24:=by
  have:=pm.length_eq
  omega
 have lj2:((nI js).map V.int).length≤1000:=by rw [n3_];omega
 refine fun SD nSD=>?_;generalize gG:upd H3 SD (.dT [])=H4;obtain ⟨s4,e4⟩:=gen_upd gG nSD;refine ⟨_,rfl,N,rfl,⟨_,SqL.of (s4 _ _ e3)⟩,fun D nD=>?_⟩;refine lc_T (k:=.l) (vs:=(nI js).map V.int) (fun G v (x:Int)=>∃ c p,v=.ref c∧G c=some (.tup [.int x,.ref p])∧G p=some (.tup (rt 0))) (fun H1 H2 v x t h=>let ⟨c,p,e,h1,h2⟩:=h;⟨c,p,e,t _ _ h1,t _ _ h2⟩) (nI js) ?f lj2 nD (s4 _ _ e3) (fun i w' G C' hi s5 c=>?_) (fun G us s5 e5 a5=>?_)
 · rw [n5_] at hi;obtain ⟨x,ex,rfl⟩:=n10_.mp hi;refine ⟨_,rfl,z2_,fun p np=>?_⟩;have s6:Same G (upd G p ?S):=Same.new np;have e6:upd G p ?S p=some (.tup (rt 0)):=Zc;generalize upd G p ?S=G6 at s6 e6 ⊢;refine ⟨z2_,fun c' nc'=>?_⟩;have s7:Same G6 (upd G6 c' (.tup [.int x,.ref p])):=Same.new nc';exact c _ _ x (s6.trans s7) ex ⟨c',p,rfl,Zc,s7 _ _ e6⟩
 obtain ⟨ps,ap,kp,qp⟩:=Zld a5;have lps:ps.length=(nI js).length:=by have:=congrArg List.length kp;rwa [n3_,n3_] at this
 have lus:us.length≤1000:=by rw [a5.1];omega
 refine ⟨D,us,ps,rfl,e5,lus,ap,fun RD nRD=>?_⟩;generalize gG:upd G RD (.dK (Yi [] ps))=H6;obtain ⟨s6,e6⟩:=gen_upd gG nRD;have s46:=s5.trans s6;have s06:=s03.trans (s4.trans s46);refine ⟨z2_,fun p9 np9=>?_⟩;generalize gG:upd H6 p9 (.tup [.ref SD,.ref RD])=H7;obtain ⟨s7,e7⟩:=gen_upd gG np9;refine ⟨p9,_,rfl,SqT.of e7,rfl,_,_,rfl,_,_,rfl,rfl,?_⟩;refine ⟨_,rfl,_,rfl,z2_,fun tp ntp=>?_⟩;generalize gG:upd H7 tp (.tup [v,u])=H8;obtain ⟨s8,e8⟩:=gen_upd gG ntp;have s78:=s7.trans s8;have s08:=s06.trans s78;have eN8:=(s4.trans (s46.trans s78)) _ _ e3;have eS8:=(s46.trans s78) _ _ e4;have eR8:=s78 _ _ e6
 have J0:JSt H8 SD RD js 0 (fun _=>0) (fun _=>0) H8:=by
  refine ⟨fun b o _ _ e=>e,⟨[],eS8,n7_ _,fun k=>⟨fun v h=>(nomatch h),fun _=>rfl⟩⟩,⟨_,eR8,?_,fun x hx=>?_⟩⟩
  · have:=Zcx ps []
    rw [List.length_nil] at this;omega
  · obtain ⟨h1,h2⟩:=Zbe (.inl x) ps [];cases c:valV (Yi [] ps) (.inl x) with
    | none =>
      refine absurd ?_ (h2 c).1;rw [kp];exact n89_ hx
    | some w' =>
      rcases h1 w' c with m|m
      · exact ⟨w',rfl,(qp _ m).tk (s6.trans s78).tk⟩
      · cases m
 have tkJ:∀ {n s r G},JSt H8 SD RD js n s r G→Tk H8 G:=fun h b xs e=>h.keep b _ (fun z=>by rw [z,eS8] at e;cases e) (fun z=>by rw [z,eR8] at e;cases e) e;have nNS:N≠SD:=Zj e3 nSD;have nNR:N≠RD:=Zj ((s4.trans s5) _ _ e3) nRD;refine ⟨tp,rfl,⟨_,SqT.of e8⟩,?_⟩
 let BS:Nat→?O:=fun i k=>(if 0<i then f1 k else 0)+(if 1<i then f2 k else 0)
 let BR:Nat→Int→Rat:=fun i x=>(if 0<i then g1 x else 0)+(if 1<i then g2 x else 0)
 refine Yu (n:=2) (fun i σ G=>(∃ y5 y6 y7 y8 y9 y10,σ=[some v,some u,some (.ref N),some (.ref SD),some (.ref RD),y5,y6,y7,y8,y9,y10])∧JSt H8 SD RD js (i*200) (BS i) (BR i) G) ⟨⟨_,_,_,_,_,_,rfl⟩,J0.to (n47_ _) (fun k=>by show (0:Rat)=0+0;rw [n51_]) fun x=>by show (0:Rat)=0+0;rw [n51_]⟩ (fun i σ G hi p=>?_) (fun σ G p=>?_) (fun i x σ G G' hi y p=>?_) (fun σ G p=>?_)
 · exact ⟨_,[v,u][i]'hi,SqT.of ((tkJ p.2) _ _ e8),n0_ hi⟩
 · exact ⟨_,SqT.of ((tkJ p.2) _ _ e8),n7_ _⟩
 · obtain ⟨⟨y5,y6,y7,y8,y9,y10,rfl⟩,hJ⟩:=p;obtain ⟨rfl,yx⟩:=y;have ex:=yx _ (SqT.of ((tkJ hJ) _ _ e8))
   obtain ⟨ls,fi,gi,hx,ok,sub,hS,hRR,bS,bR⟩:∃ (ls:?p) (fi:?O) (gi:Int→Rat),IsFm H x ls fi gi∧FmOk ls fi gi∧(∀ k∈nI ls,k∈nI js)∧(∀ k,BS (i+1) k=BS i k+fi k)∧(∀ k,BR (i+1) k=BR i k+gi k)∧(∀ k,FM.B 1990 (BS i k))∧∀ k,FM.B 1990 (BR i k):=by
    have z0:FM.B 1990 (0+0):=⟨?i,?i⟩;have hk2:i=0∨i=1:=?d
    rcases hk2 with rfl|rfl
    · cases ex
      refine ⟨ks,f1,g1,hv,ok1,fun k hk=>(mem' k).mpr (.inl hk),fun k=>?_,fun k=>?_,fun k=>z0,fun k=>z0⟩
      · show f1 k+0=0+0+f1 k;grind
      · show g1 k+0=0+0+g1 k;grind
    · cases ex
      refine ⟨ms,f2,g2,hu',ok2,fun k hk=>(mem' k).mpr (.inr hk),fun k=>?_,fun k=>?_,fun k=>?_,fun k=>?_⟩
      · show f1 k+f2 k=f1 k+0+f2 k;grind
      · show g1 k+g2 k=g1 k+0+g2 k;grind
      · show FM.B 1990 (f1 k+0);rw [n51_];exact (ok1.bf k).1.mono ?e
      · show FM.B 1990 (g1 k+0);rw [n51_];exact (ok1.bg k).1.mono ?e
   obtain ⟨fa,fw,fr,fz,hxa,hfa,⟨wf,rfl,hwf⟩,⟨ra,rs,rfl,hra,ar⟩,⟨za,zs,rfl,hza,az⟩⟩:=hx;have l3:=ok.le;have lf:(nI ls).length=ls.length:=n3_ ..;have lrs:rs.length=ls.length:=by rw [ar.1,n3_,lf]
   have lzs:zs.length=ls.length:=by rw [az.1,n3_,lf]
   have up:∀ {n s r G b xs},JSt H8 SD RD js n s r G→H b=some (.tup xs)→G b=some (.tup xs):=fun h e=>(tkJ h) _ _ (s08 _ _ e);have i200:i*200≤200:=?d
   refine ⟨_,hxa ▸ rfl,fa,_,0,_,rfl,rfl,SqT.of (up hJ hfa),rfl,wf,rfl,⟨_,SqT.of (up hJ hwf)⟩,?_⟩;refine Yu (n:=ls.length) (fun m σ U=>(∃ y6 y7 y8 y9 y10,σ=[some v,some u,some (.ref N),some (.ref SD),some (.ref RD),some x,y6,y7,y8,y9,y10])∧JSt H8 SD RD js (i*200+m*13) (fun k=>BS i k+if k.1∈(nI ls).take m then fi k else 0) (fun k=>BR i k+if k∈(nI ls).take m then gi k else 0) U) ⟨⟨_,_,_,_,_,rfl⟩,hJ.to (?d) (fun k=>by simp [n51_]) fun k=>by simp [n51_]⟩ (fun m σ U hm p=>?_) (fun σ U p=>?_) (fun m y σ U U' hm yy p=>?_) (fun σ U p=>?_)
   · exact ⟨_,.int ((nI ls)[m]'(?d)),SqT.of (up p.2 hwf),by rw [n5_,n0_ (?d)];rfl⟩
   · exact ⟨_,SqT.of (up p.2 hwf),by rw [n3_,lf]⟩
   · obtain ⟨⟨y6,y7,y8,y9,y10,rfl⟩,hU⟩:=p;obtain ⟨g3,x1,rfl,ng3,rfl,yx3⟩:=yy;have hml:m<(nI ls).length:=?d
     have ex3:=yx3 _ (SqT.of (up hU hwf));rw [n5_,n0_ hml] at ex3;cases ex3
     generalize gG:upd U g3 (.tup [.int m,.int (nI ls)[m]])=U9;obtain ⟨s9,e9⟩:=gen_upd gG ng3;have hU9:=hU.more s9;refine ⟨g3,_,rfl,SqT.of e9,rfl,_,_,rfl,_,_,rfl,rfl,?_⟩;obtain ⟨rvs,eRD,lRD,hrd⟩:=hU9.rd;obtain ⟨w0,ew0,⟨p0,rfl,hp0⟩⟩:=hrd (nI ls)[m] (sub _ (n24_ hml));have nt:=Zof ok.rise hml;rw [if_neg nt,n51_] at hp0;obtain ⟨v1,ev1,hv1⟩:=az.got (show ((nI ls).map gi)[m]? = some (gi (nI ls)[m]) by rw [n5_,n0_ hml];rfl);obtain ⟨p1,rfl,hp1⟩:=hv1;have gR:DGet U9 RD (.int (nI ls)[m]) (some (.ref p0)):=by have:=DGet.kq (k:=.inl (nI ls)[m]) eRD;rw [ew0] at this;exact this
     refine ⟨_,rfl,_,rfl,RD,_,rfl,gR,_,hxa ▸ rfl,fa,_,2,_,rfl,rfl,SqT.of (up hU9 hfa),rfl,_,rfl,za,zs,(m:Nat),_,rfl,rfl,SqT.of (up hU9 hza),Ys ev1,p0,p1,_,_,rfl,hp0,up hU9 hp1,bR _,(ok.bg _).1.mono ?e,fun z0 U10 s10 e10=>?_⟩;obtain ⟨U11,d11,hU11⟩:=(hU9.more s10).putR (?d) (x:=(nI ls)[m]) ⟨z0,rfl,e10⟩;refine ⟨_,rfl,_,rfl,RD,U11,rfl,d11,?_⟩;refine ⟨_,hxa ▸ rfl,fa,_,0,_,rfl,rfl,SqT.of (up hU11 hfa),rfl,wf,rfl,⟨_,SqT.of (up hU11 hwf)⟩,?_⟩;refine Yu (n:=ls.length) (fun t σ W=>(∃ y8 y9 y10,σ=[some v,some u,some (.ref N),some (.ref SD),some (.ref RD),some x,some (.int m),some (.int (nI ls)[m]),y8,y9,y10])∧JSt H8 SD RD js (i*200+m*13+1+t) (fun k=>BS i k+if k.1∈(nI ls).take m∨(k.1=(nI ls)[m]∧k.2∈(nI ls).take t) then fi k else 0) (fun k=>BR i k+if k∈(nI ls).take (m+1) then gi k else 0) W) ⟨⟨_,_,_,rfl⟩,hU11.to (?d) (fun k=>by simp) fun k=>?_⟩ (fun t σ W ht p=>?_) (fun σ W p=>?_) (fun t y σ W W' ht yy p=>?_) (fun σ W p=>?_)
     · rw [n77_,n0_ hml];show (if k=(nI ls)[m] then _ else _)=_+if k∈(nI ls).take m++[(nI ls)[m]] then gi k else 0
       by_cases c:k=(nI ls)[m]
       · rw [if_pos c,if_pos (n26_ _ (by rw [c];exact List.mem_singleton_self _)),c]
       · rw [if_neg c]
         by_cases d':k∈(nI ls).take m
         · rw [if_pos d',if_pos (List.mem_append_left _ d')]
         · rw [if_neg d',if_neg fun z=>(n36_.mp z).elim d' fun z=>c (n18_.mp z)]
     · exact ⟨_,.int ((nI ls)[t]'(?d)),SqT.of (up p.2 hwf),by rw [n5_,n0_ (?d)];rfl⟩
     · exact ⟨_,SqT.of (up p.2 hwf),by rw [n3_,lf]⟩
     · obtain ⟨⟨y8,y9,y10,rfl⟩,hW⟩:=p;obtain ⟨g4,x2,rfl,ng4,rfl,yx4⟩:=yy;have htl:t<(nI ls).length:=?d
       have ex4:=yx4 _ (SqT.of (up hW hwf));rw [n5_,n0_ htl] at ex4;cases ex4
       generalize gG:upd W g4 (.tup [.int t,.int (nI ls)[t]])=W12;obtain ⟨s12,e12⟩:=gen_upd gG ng4;have hW12:=hW.more s12;refine ⟨g4,_,rfl,SqT.of e12,rfl,_,_,rfl,_,_,rfl,rfl,?_⟩;obtain ⟨kvs0,eSD0,_,_⟩:=hW12.sd;refine ⟨_,rfl,SD,rfl,.inr ⟨kvs0,.inl eSD0⟩,_,rfl,_,rfl,z2_,fun b1 nb1=>?_⟩;have s13:Same W12 (upd W12 b1 (.tup [.int (nI ls)[m],.int (nI ls)[t]])):=Same.new nb1;have e13:upd W12 b1 (.tup [.int (nI ls)[m],.int (nI ls)[t]]) b1=some (.tup ((ek ((nI ls)[m],(nI ls)[t])).map kV)):=Zc;generalize upd W12 b1 (.tup [.int (nI ls)[m],.int (nI ls)[t]])=W13 at s13 e13 ⊢;refine ⟨z2_,fun z1 nz1=>?_⟩;have s14:Same W13 (upd W13 z1 ?S):=Same.new nz1;have e14:upd W13 z1 ?S z1=some (.tup (rt 0)):=Zc;generalize upd W13 z1 ?S=W14 at s14 e14 ⊢;have hW14:=hW12.more (s13.trans s14);obtain ⟨kvs,eSD,lSD,hsd⟩:=hW14.sd;have gS:=DGet.tq eSD (s14 _ _ e13);have ntt:=Zof ok.rise htl
       obtain ⟨p2,ep2,hp2⟩:∃ p2,(valV kvs (ek ((nI ls)[m],(nI ls)[t]))).getD (.ref z1)=.ref p2∧W14 p2=some (.tup (rt (BS i ((nI ls)[m],(nI ls)[t])))):=by
        have hs:=hsd ((nI ls)[m],(nI ls)[t]);rw [if_neg fun z=>z.elim nt fun z=>ntt z.2,n51_] at hs;cases c:valV kvs (ek ((nI ls)[m],(nI ls)[t])) with
        | none=>exact ⟨z1,rfl,by rw [hs.2 c];exact e14⟩
        | some w1 =>
          obtain ⟨p2,rfl,h2⟩:=hs.1 w1 c;exact ⟨p2,rfl,h2⟩
       obtain ⟨vr,evr,pr,prs,rfl,hpr,apr⟩:=ar.got (show ((nI ls).map fun w=>(nI ls).map fun o=>fi (w,o))[m]? = some ((nI ls).map fun o=>fi ((nI ls)[m],o)) by rw [n5_,n0_ hml];rfl);obtain ⟨v3,ev3,p3,rfl,hp3⟩:=apr.got (show ((nI ls).map fun o=>fi ((nI ls)[m],o))[t]? = some (fi ((nI ls)[m],(nI ls)[t])) by rw [n5_,n0_ htl];rfl);refine ⟨_,gS,_,hxa ▸ rfl,fa,_,1,_,rfl,rfl,SqT.of (up hW14 hfa),rfl,_,rfl,ra,rs,(m:Nat),_,rfl,rfl,SqT.of (up hW14 hra),Ys evr,_,rfl,pr,prs,(t:Nat),_,rfl,rfl,SqT.of (up hW14 hpr),Ys ev3,p2,p3,_,_,by rw [ep2],hp2,up hW14 hp3,bS _,(ok.bf _).1.mono ?e,fun z2 W15 s15 e15=>?_⟩;refine ⟨_,rfl,_,rfl,_,rfl,z2_,fun b2 nb2=>?_⟩;have s16:Same W15 (upd W15 b2 (.tup [.int (nI ls)[m],.int (nI ls)[t]])):=Same.new nb2;have e16:upd W15 b2 (.tup [.int (nI ls)[m],.int (nI ls)[t]]) b2=some (.tup ((ek ((nI ls)[m],(nI ls)[t])).map kV)):=Zc;generalize upd W15 b2 (.tup [.int (nI ls)[m],.int (nI ls)[t]])=W16 at s16 e16 ⊢;obtain ⟨W17,d17,hW17⟩:=(hW14.more (s15.trans s16)).putS (?d) e16 ⟨z2,rfl,s16 _ _ e15⟩;refine ⟨SD,W17,rfl,d17,⟨_,_,_,rfl⟩,hW17.to (?d) (fun k=>?_) fun _=>rfl⟩;rw [n77_,n0_ htl];show (if k=((nI ls)[m],(nI ls)[t]) then _ else _)=_+if k.1∈(nI ls).take m∨(k.1=(nI ls)[m]∧k.2∈(nI ls).take t++[(nI ls)[t]]) then fi k else 0
       by_cases c:k=((nI ls)[m],(nI ls)[t])
       · rw [if_pos c,if_pos (.inr ⟨by rw [c],n26_ _ (by rw [c];exact List.mem_singleton_self _)⟩),c]
       · rw [if_neg c]
         by_cases d':k.1∈(nI ls).take m∨(k.1=(nI ls)[m]∧k.2∈(nI ls).take t)
         · rw [if_pos d',if_pos (d'.imp id fun z=>⟨z.1,List.mem_append_left _ z.2⟩)]
         · rw [if_neg d',if_neg fun z=>z.elim (fun z=>d' (.inl z)) fun ⟨z1,z2⟩=>(n36_.mp z2).elim (fun z=>d' (.inr ⟨z1,z⟩)) fun z=>c (Prod.ext z1 (n18_.mp z))]
     · obtain ⟨⟨y8,y9,y10,rfl⟩,hW⟩:=p;refine ⟨⟨_,_,_,_,_,rfl⟩,hW.to (?d) (fun k=>?_) fun _=>rfl⟩;rw [show (nI ls).take ls.length=nI ls from n34_ (Nat.le_of_eq lf),n77_,n0_ hml];show _=_+if k.1∈(nI ls).take m++[(nI ls)[m]] then fi k else 0
       by_cases c:k.1∈(nI ls).take m
       · rw [if_pos (.inl c),if_pos (List.mem_append_left _ c)]
       · by_cases d':k.1=(nI ls)[m]
         · rw [if_pos (n26_ _ (n18_.mpr d'))]
           by_cases e':k.2∈nI ls
           · rw [if_pos (.inr ⟨d',e'⟩)]
           · rw [if_neg fun z=>z.elim c fun z=>e' z.2]
             have:=ok.zf k.1 k.2 (.inr e')
             rw [this]
         · rw [if_neg fun z=>z.elim c fun z=>d' z.1,if_neg fun z=>(n36_.mp z).elim c fun z=>d' (n18_.mp z)]
   · obtain ⟨⟨y6,y7,y8,y9,y10,rfl⟩,hU⟩:=p;refine ⟨⟨_,_,_,_,_,_,rfl⟩,hU.to (?d) (fun k=>?_) fun k=>?_⟩
     · rw [show (nI ls).take ls.length=nI ls from n34_ (Nat.le_of_eq lf),hS k]
       by_cases c:k.1∈nI ls
       · rw [if_pos c]
       · rw [if_neg c,ok.zf k.1 k.2 (.inl c)]
     · rw [show (nI ls).take ls.length=nI ls from n34_ (Nat.le_of_eq lf),hRR k]
       by_cases c:k∈nI ls
       · rw [if_pos c]
       · rw [if_neg c,ok.zg k c]
 · obtain ⟨⟨y5,y6,y7,y8,y9,y10,rfl⟩,hJ⟩:=p;have eNG:=hJ.keep _ _ nNS nNR eN8;obtain ⟨kvs,eSD,_,hsd⟩:=hJ.sd;obtain ⟨rvs,eRD,_,hrd⟩:=hJ.rd;have eB:∀ k,BS 2 k=f1 k+f2 k:=fun k=>rfl;have eC:∀ x,BR 2 x=g1 x+g2 x:=fun x=>rfl;refine ⟨_,rfl,N,rfl,⟨_,SqL.of eNG⟩,fun D2 nD2=>?_⟩;refine lc_T (k:=.l) (vs:=(nI js).map V.int) IsQs hRQs ((nI js).map fun w=>(nI js).map fun o=>f1 (w,o)+f2 (w,o)) ?f lj2 nD2 eNG (fun i v2 U C' hi s9 c=>?_) (fun U us2 s9 e9 a9=>?_)
   · rw [n5_] at hi;obtain ⟨x,ex,rfl⟩:=n10_.mp hi;refine ⟨_,rfl,N,rfl,⟨_,SqL.of (s9 _ _ eNG)⟩,fun D3 nD3=>?_⟩;refine lc_T (k:=.l) (vs:=(nI js).map V.int) IsQ hRQ ((nI js).map fun o=>f1 (x,o)+f2 (x,o)) ?f lj2 nD3 (s9 _ _ eNG) (fun j v3 W C'' hj s10 c'=>?_) (fun W us3 s10 e10 a10=>?_)
     · rw [n5_] at hj;obtain ⟨y,ey,rfl⟩:=n10_.mp hj;have eSDW:=s10 _ _ (s9 _ _ eSD);refine ⟨_,rfl,SD,rfl,.inr ⟨kvs,.inl eSDW⟩,_,rfl,_,rfl,z2_,fun b1 nb1=>?_⟩;have s13:Same W (upd W b1 (.tup [.int x,.int y])):=Same.new nb1;have e13:upd W b1 (.tup [.int x,.int y]) b1=some (.tup ((ek (x,y)).map kV)):=Zc;generalize upd W b1 (.tup [.int x,.int y])=W13 at s13 e13 ⊢;refine ⟨z2_,fun z1 nz1=>?_⟩;have s14:Same W13 (upd W13 z1 ?S):=Same.new nz1;have e14:upd W13 z1 ?S z1=some (.tup (rt 0)):=Zc;generalize upd W13 z1 ?S=W14 at s14 e14 ⊢;have s34:=s13.trans s14
       have hq:IsQ W14 ((valV kvs (ek (x,y))).getD (.ref z1)) (f1 (x,y)+f2 (x,y)):=by
        have hs:=hsd (x,y);rw [eB] at hs;cases c:valV kvs (ek (x,y)) with
        | none=>exact ⟨z1,rfl,by rw [hs.2 c];exact e14⟩
        | some w1=>exact (hs.1 w1 c).tk (s9.trans (s10.trans s34)).tk
       exact ⟨_,DGet.tq (s34 _ _ eSDW) (s14 _ _ e13),c' _ _ _ s34 (by rw [n5_,ey];rfl) hq⟩
     · refine ⟨D3,us3,rfl,.inl ⟨SqL.of e10,fun r nr=>?_⟩⟩;have s11:Same W (upd W r (.tup us3)):=Same.new nr;exact c _ _ _ (s10.trans s11) (by rw [n5_,ex];rfl) ⟨r,us3,rfl,Zc,a10.imp fun v x r=>r.tk s11.tk⟩
   · refine ⟨_,rfl,N,_,rfl,.inl ⟨SqL.of (s9 _ _ eNG),fun X nX=>?_⟩⟩;generalize gG:upd U X (.tup ((nI js).map V.int))=U10;obtain ⟨s10,e10⟩:=gen_upd gG nX;refine ⟨_,rfl,D2,_,rfl,.inl ⟨SqL.of (s10 _ _ e9),fun R nR=>?_⟩⟩;generalize gG:upd U10 R (.tup us2)=U11;obtain ⟨s11,e11⟩:=gen_upd gG nR;have sG:=s9.trans (s10.trans s11);refine ⟨_,rfl,N,rfl,⟨_,SqL.of (sG _ _ eNG)⟩,fun D3 nD3=>?_⟩;refine lc_T (k:=.l) (vs:=(nI js).map V.int) IsQ hRQ ((nI js).map fun x=>g1 x+g2 x) ?f lj2 nD3 (sG _ _ eNG) (fun i w1 W C' hi s12 c=>?_) (fun W us5 s12 e12 a12=>?_)
     · rw [n5_] at hi;obtain ⟨x,ex,rfl⟩:=n10_.mp hi;obtain ⟨w2,ew2,hw2⟩:=hrd x (n17_ ex);rw [eC] at hw2;have gR:DGet W RD (.int x) (some w2):=by have:=DGet.kq (k:=.inl x) (s12 _ _ (sG _ _ eRD));rw [ew2] at this;exact this
       exact ⟨_,rfl,_,rfl,RD,_,rfl,gR,c _ _ _ (Same.refl _) (by rw [n5_,ex];rfl) (hw2.tk (sG.trans s12).tk)⟩
     · refine ⟨D3,us5,rfl,.inl ⟨SqL.of e12,fun Z nZ=>?_⟩⟩;generalize gG:upd W Z (.tup us5)=W13;obtain ⟨s13,e13⟩:=gen_upd gG nZ;refine ⟨z3_,fun T nT=>?_⟩;have s14:Same W13 (upd W13 T (.tup [.ref X,.ref R,.ref Z])):=Same.new nT;have s24:=s12.trans (s13.trans s14);have sU:=s10.trans (s11.trans s24);refine q _ _ js (fun b o e=>?_) wj ⟨T,_,_,_,rfl,Zc,⟨X,rfl,(s11.trans s24) _ _ e10⟩,⟨R,us2,rfl,s24 _ _ e11,a9.imp fun v x r=>Z5 sU.tk r⟩,⟨Z,us5,rfl,s14 _ _ e13,a12.imp fun v x r=>r.tk (s13.trans s14).tk⟩⟩;exact (s9.trans sU) _ _ (hJ.keep _ _ (Zj (s03 _ _ e) nSD) (Zj (s5 _ _ (s4 _ _ (s03 _ _ e))) nRD) (s08 _ _ e))
abbrev Zej:Stmt:=top 65
theorem Zvb (F:Fun K "law" "law" Zej f fd) (Cc_:a24_ P w K mg base) (Ce_:a27_ P w K mg base) (Cu_:a41_ P w K mg base) (Cap_:a42_ P w K mg base) (Cj_:a43_ P w K mg base) (Cn_:a44_ P w K mg base) (Caj_:a45_ P w K mg base) (Cr_:a46_ P w K mg base) (Cak_:a47_ P w K mg base):FnOk P w K mg base CX0 10 f fd ["_law_script"] (Zlb K):=by
 have sc:FnScope ["_law_script","_law_nth","_law_state_here","_law_one","_law_other","_law_kept_here","_law_due","_law_found","_law_ways","_law_some","_law_rights"] ["_law_script"] (Zf Zej):=fsc (?i);refine F.ok sc (fun vs H Q E h=>by obtain ⟨a,ns,rfl,_⟩:=h;rfl) ?I;obtain ⟨a,ns,rfl,hS,hlen,q⟩:=h;have nd:=sc.nd;have hu:=Zlq hr;refine' ?J
 case term=>refine' Ze ?g1 (Zi (Zq Zca));case g1=>refine' Y7 PassesOwn.never rfl (Yy rfl T.b_range (Za (Zm (Zg9 rfl) rfl T.b_max Zrf (Za Zd (Za (Zm (Zhs rfl) rfl T.b_min Zqy (Za (Zm Zs rfl T.b_len Y0 ?Q) ?G rfl)) Zb rfl) rfl)) Zb rfl)) (Zk (i:=1) nd rfl ?o) ?g2 (by intro _ ;rfl);case g2=>refine' Ze (Z0 (i:=2) nd rfl (Or.inr rfl) (Zh Caj_ hr ?e rfl (Za (pv 0) ?P rfl))) ?g3;case g3=>refine' Ze (Zb7 rfl nd (i:=3) (j:=4) rfl rfl ?e rfl rfl (Za (Zh Cn_ hr ?e rfl ?Y) (Za (Zh Cn_ hr ?e rfl ?Y) Zb rfl) rfl) rfl) ?g4;case g4=>refine' Ze (Zb7 rfl nd (i:=5) (j:=6) rfl rfl ?e rfl rfl (Za (Zm (Zbl hr) rfl T.b_repr Zf8 (Za (Zr (Za (pv 3) (Za (pv 4) Zb rfl) rfl)) Zb rfl)) (Za (Zh Cu_ hr ?e rfl (Za (pv 3) (Za (pv 4) Zb rfl) rfl)) Zb rfl) rfl) rfl) ?g5;case g5=>refine' Ze ?g6 ?g7;(case g6=>refine' Y7 PassesOwn.never rfl (Yl (Yj (Za (Zh Cr_ hr ?e rfl (Za (pv 3) (Za (pv 4) Zb rfl) rfl)) (Za (Zh Cr_ hr ?e rfl (Za (pv 4) (Za (pv 3) Zb rfl) rfl)) (Za (Zh Cr_ hr ?e rfl (Za (pv 3) (Za (pv 4) Zb rfl) rfl)) Zb rfl) rfl) rfl))) (Zk (i:=7) nd rfl ?o) ?g8 (by intro _ ;rfl);case g8=>refine' Zi ?g9;case g9=>refine' X5 ?ga (Zi (Zq Zca)) Yb;case ga=>refine' Xh ?gb;case gb=>refine' Z7 (Zh Cj_ hr ?e rfl (Za (pv 7) (Za (pv 6) Zb rfl) rfl)) (fun _=>rfl));case g7=>refine' Ze ?gc ?gd;(case gc=>refine' X5 ?ge (Zi (Zq Zca)) Yb;case ge=>refine' PW.pt ?gf;case gf=>refine' Zh4 ?gg ?gh;(case gg=>refine' Xh ?gi;case gi=>refine' Z7 (Zh Cj_ hr ?e rfl (Za (Zh Cr_ hr ?e rfl (Za (pv 3) (Za (Zr (Za (Zr Zb) (Za (Zr Zb) (Za (Zr Zb) Zb rfl) rfl) rfl)) Zb rfl) rfl)) (Za (pv 3) Zb rfl) rfl)) (fun _=>rfl));case gh=>refine' Zd9 ?gj;case gj=>refine' Xh ?gk;case gk=>refine' Z7 (Zh Cj_ hr ?e rfl (Za (Zh Cr_ hr ?e rfl (Za (pv 3) (Za (pv 3) Zb rfl) rfl)) (Za (Zh Cu_ hr ?e rfl (Za (pv 3) (Za (pv 3) Zb rfl) rfl)) Zb rfl) rfl)) (fun _=>rfl));case gd=>refine' Ze ?gl (Zi (X5 (Z9 Znk (Zm (Zbl hr) rfl T.b_repr Zf8 (Za (Zr (Za (pv 3) (Za (pv 4) Zb rfl) rfl)) Zb rfl)) (pv 5) (Yk _)) (Zi (Zq Zca)) Yb));case gl=>refine' Y7 PassesOwn.never rfl ?gm (Zk (i:=8) nd rfl ?o) ?gn (by intro _ ;rfl);(case gm=>refine' Yl ?go;case go=>refine' Yj ?gp;case gp=>refine' Za (Zr Zb) ?gq rfl;case gq=>refine' Za (Zh Cap_ hr ?e rfl (Za (pv 2) (Za (pv 3) Zb rfl) rfl)) ?gr rfl;case gr=>refine' Za ?gs Zb rfl;case gs=>refine' Zv Zw (pv 3) Zd (?l));case gn=>refine' Ze ?gt ?gu;(case gt=>refine' @Z0 _ _ (9) _ _ _ _ nd rfl (Or.inr rfl) ?gv (by rfl) ?ai;case gv=>refine' Zo (Zes rfl (Zog hr)) rfl T.b_dict Zil ?gw ?e ?e (by rfl) (by rfl);case gw=>refine' Za ?gx Zb rfl;case gx=>refine' @Y6 _ _ _ _ _ _ _ (["_law_way","_law_state_here"]) ([none,some 2]) _ _ _ _ _ rfl (Z1 (XN:=["_law_script","_law_nth","_law_state_here","_law_one","_law_other","_law_kept_here","_law_due","_law_found","_law_ways","_law_some","_law_rights"]) (Scope.names (Zf Zej)) rfl rfl rfl (fun _ h=>Zx h) (?i) rfl) (Zai (pv 8)) ?X ?R (fun _ _ _ _=>Zr (Za (pv 0) (Za (Zh Ce_ hr ?e rfl ?P) Zb rfl) rfl)) (by intro _ ;rfl));case gu=>refine' Ze ?gy ?gz;(case gy=>refine' @Zfe _ _ _ _ _ _ _ _ _ _ (["_law_way","_law_right","_law_some"]) ([none,none,some 9]) _ _ (?ak) _ _ _ rfl rfl (Zk (i:=10) nd rfl ?o) (Z1 (XN:=["_law_script","_law_nth","_law_state_here","_law_one","_law_other","_law_kept_here","_law_due","_law_found","_law_ways","_law_some","_law_rights"]) (Scope.names (Zf Zej)) rfl rfl rfl (fun _ h=>Zx h) (?i) rfl) ?g10 ?am ?R (fun _ _ _ _=>Zh Cc_ hr ?e rfl (Za (pv 1) (Za (Zgv hu (pv 2) (pv 0) (Zr (Za Zd ?G rfl)) ⟨rfl,rfl,rfl,rfl⟩) Zb rfl) rfl)) (by intro _ ;rfl);case g10=>refine' Zif .t .t rfl T.b_zip ?g11 (by rfl) (by rfl);case g11=>refine' Za ?g12 ?g13 rfl;(case g12=>refine' Zv Zw (pv 3) Zd (?l));case g13=>refine' Za ?g14 Zb rfl;case g14=>refine' Zv Zw (pv 3) Zd (?l));case gz=>refine' Ze (Z0 (i:=7) nd rfl ?o (Zh Cak_ hr ?e rfl (Za (pv 3) (Za (pv 9) Zb rfl) rfl))) ?g15;case g15=>refine' Ze (Xq (Zvz (pv 9) (Za (Zsp (Zki Zd (Zr (Za Zd ?G rfl)) (Zki Zd (Zr (Za Zd ?G rfl)) Zsd)) rfl rfl ?e ?e) Zb rfl))) ?g16;case g16=>refine' Zi ?g17;case g17=>refine' X5 ?g18 (Zi (Zq Zca)) Yb;case g18=>refine' Xh ?g19;case g19=>refine' Z7 (Zh Cj_ hr ?e rfl (Za (pv 7) (Za (Zp Zm7 (Zfz Zoi (pv 3) Zi5 (Zik Zd)) (Zr (Za (Zo Zn rfl T.b_tuple Zt (Za (pv 10) Zb rfl)) Zb rfl))) Zb rfl) rfl)) (fun _=>rfl)
 refine ⟨_,rfl,a,_,rfl,.inl hS,_,_,rfl,_,_,rfl,_,rfl,?_,?_,?_⟩
 · split<;>(try split)<;>omega
 · rw [n3_];split<;>(try split)<;>omega
 refine Zd1 (fun i σ H2=>∃ v0 v1 v2 v3 v4 v5 v6 v7 v8 v9:Option V,σ=[some (.ref a),v0,v1,v2,v3,v4,v5,v6,v7,v8,v9]∧Same H H2) ⟨_,_,_,_,_,_,_,_,_,_,rfl,Same.refl H⟩ ?_ ?_
 rotate_left
 · rintro σ H2 ⟨v0,v1,v2,v3,v4,v5,v6,v7,v8,v9,rfl,s2⟩
   exact q H2
 · rintro i σ H2 _ ⟨v0,v1,v2,v3,v4,v5,v6,v7,v8,v9,rfl,s2⟩
   refine ⟨_,rfl,_,rfl,a,ns,i,by rw [Int.zero_add],s2.seq hS,fun l H3 nl s3 st3=>?_⟩;have sH3:Same H H3:=fun b o e=>s3 _ _ (s2 _ _ e);have neL:∀ {b o},H b=some o→b≠l:=fun e=>Zj (s2 _ _ e) nl;refine ⟨_,rfl,l,rfl,st3,fun H4 one ks f1 g1 k4 st4 h1 ok1=>⟨_,rfl,l,rfl,st4,fun H5 other ms f2 g2 k5 st5 h2 ok2=>⟨_,_,rfl,?_⟩⟩⟩;replace h1:=h1.tk (tkS k5 st4);have sH5:Same H H5:=fun b o e=>k5 _ _ (neL e) (k4 _ _ (neL e) (sH3 _ _ e));have z1:=ok1.le;have z2:=ok2.le;have fc:(fun k=>f2 k+f1 k)=fun k=>f1 k+f2 k:=funext fun k=>Rat.add_comm ..;have gc:(fun k=>g2 k+g1 k)=fun k=>g1 k+g2 k:=funext fun k=>Rat.add_comm ..;refine ⟨_,rfl,_,rfl,z2_,fun R nR=>?_⟩;generalize gG:upd H5 R (.tup [one,other])=H6;obtain ⟨s6,e6⟩:=gen_upd gG nR;have t2F:∀ {G:Hp} {B:Addr},Same H5 G→G B=some (.tup [one,other])→Dt NF G 1100 (.ref B) (dF2 ks ms f1 f2 g1 g2):=fun s e=>.tup e (.cons (ok1.dt (h1.tk s.tk)) (.cons (ok2.dt (h2.tk s.tk)) .nil));refine ⟨NF,1100,.ref R,_,rfl,t2F s6 e6,?k,n31_ (Zoz ..) ?e,nzF2 ok1 ok2,?_⟩;refine ⟨_,rfl,_,rfl,one,other,ks,ms,f1,f2,g1,g2,rfl,h1.tk s6.tk,ok1,h2.tk s6.tk,ok2,fun H7 due js s7 wj h7=>⟨_,_,rfl,?_⟩⟩;have s67:=s6.trans s7;have ljs:js.length≤24:=by have:=wj.le;omega
   have nzJ:=nzFm (fun k=>f1 k+f2 k) (fun x=>g1 x+g2 x) ljs;have dpJ:=Zcj js (fun k=>f1 k+f2 k) (fun x=>g1 x+g2 x);refine ⟨_,rfl,_,rfl,one,other,ks,ms,f1,f2,g1,g2,rfl,h1.tk s67.tk,ok1,h2.tk s67.tk,ok2,fun H8 r1 j1 s8 w1 q1=>?_⟩;have s68:=s67.trans s8;refine ⟨_,rfl,_,rfl,other,one,ms,ks,f2,f1,g2,g1,rfl,h2.tk s68.tk,ok2,h1.tk s68.tk,ok1,fun H9 r2 j2 s9 w2 q2=>?_⟩;have s69:=s68.trans s9;refine ⟨_,rfl,_,rfl,one,other,ks,ms,f1,f2,g1,g2,rfl,h1.tk s69.tk,ok1,h2.tk s69.tk,ok2,fun H10 r3 j3 s10 w3 q3=>?_⟩;obtain rfl:=Zab wj w1;obtain rfl:=Zab wj w3;obtain rfl:=Zab wj (show WaysJ ks ms j2 from ⟨by have:=w2.le;omega,w2.rise,fun x=>(w2.mem x).trans or_comm⟩);rw [fc,gc] at q2;refine ⟨z3_,fun L nL=>?_⟩;generalize gG:upd H10 L (.lst [r1,r2,r3])=H11;obtain ⟨s11,e11⟩:=gen_upd gG nL;have s711:=s8.trans (s9.trans (s10.trans s11));have s511:=s67.trans s711
   have all3:∀ {i:Nat} {x:V},[r1,r2,r3][i]? = some x→IsFm H11 x js (fun k=>f1 k+f2 k) (fun x=>g1 x+g2 x):=fun {i x} e=>by
    rcases i with _|_|_|i
    · cases e;exact q1.tk (s9.trans (s10.trans s11)).tk
    · cases e;exact q2.tk (s10.trans s11).tk
    · cases e;exact q3.tk s11.tk
    · cases e
   refine ⟨L,rfl,⟨_,SqL.of e11⟩,?_⟩;refine Yu (n:=3) (fun j σ G=>(∃ v6 v7 v8 v9,σ=[some (.ref a),some (.int (0+i)),some (.ref l),some one,some other,some (.str (dF2 ks ms f1 f2 g1 g2).shown),some due,v6,v7,v8,v9])∧Same H11 G) ⟨⟨_,_,_,_,rfl⟩,Same.refl _⟩ (fun j σ G hj p=>?_) (fun σ G p=>?_) (fun j x σ G G' hj y p=>?_) (fun σ G p=>?_)
   · exact ⟨_,[r1,r2,r3][j]'hj,SqL.of (p.2 _ _ e11),n0_ hj⟩
   · exact ⟨_,SqL.of (p.2 _ _ e11),n7_ _⟩
   · obtain ⟨⟨v6,v7,v8,v9,rfl⟩,sG⟩:=p;obtain ⟨rfl,yx⟩:=y;have hx:=all3 (yx _ (SqL.of (sG _ _ e11)));exact ⟨_,rfl,_,rfl,NF,1100,x,due,_,rfl,Zds ok1 ok2 wj (hx.tk sG.tk),Zds ok1 ok2 wj (h7.tk (s711.trans sG).tk),?k,n31_ dpJ ?e,n31_ nzJ ?e,true,rfl,iteF ⟨⟨_,_,_,_,rfl⟩,sG⟩⟩
   obtain ⟨⟨v6,v7,v8,v9,rfl⟩,sG⟩:=p;have s5G:=s511.trans sG;refine ⟨_,rfl,z0_,fun b1 nb1=>?_⟩;have a1:Same G (upd G b1 (.tup [])):=Same.new nb1;have eb1:upd G b1 (.tup []) b1=some (.tup ((nI []).map V.int)):=Zc;generalize upd G b1 (.tup [])=G1 at a1 eb1 ⊢;refine ⟨z0_,fun b2 nb2=>?_⟩;generalize gG:upd G1 b2 (.tup [])=G2;obtain ⟨a2,eb2⟩:=gen_upd gG nb2;refine ⟨z0_,fun b3 nb3=>?_⟩;generalize gG:upd G2 b3 (.tup [])=G3;obtain ⟨a3,eb3⟩:=gen_upd gG nb3;refine ⟨z3_,fun b4 nb4=>?_⟩;generalize gG:upd G3 b4 (.tup [.ref b1,.ref b2,.ref b3])=G4;obtain ⟨a4,eb4⟩:=gen_upd gG nb4;have aG4:=a1.trans (a2.trans (a3.trans a4));have s5G4:=s5G.trans aG4;have h0:IsFm G4 (.ref b4) [] (fun _=>0) fun _=>0:=⟨b4,_,_,_,rfl,eb4,⟨b1,rfl,(a2.trans (a3.trans a4)) _ _ eb1⟩,⟨b2,[],rfl,(a3.trans a4) _ _ eb2,.nil⟩,⟨b3,[],rfl,a4 _ _ eb3,.nil⟩⟩;refine ⟨one,.ref b4,ks,[],f1,fun _=>0,g1,fun _=>0,rfl,h1.tk s5G4.tk,ok1,h0,Zuu,fun G5 r5 j5 a5 w5 q5=>?_⟩;obtain rfl:=Zab w5 (show WaysJ ks [] ks from ⟨by simp,ok1.rise,fun x=>by simp⟩);rw [show (fun k=>f1 k+0)=f1 from funext fun k=>n51_ _,show (fun k=>g1 k+0)=g1 from funext fun k=>n51_ _] at q5;have s5G5:=s5G4.trans a5;refine ⟨_,rfl,NF,1100,r5,one,_,rfl,ok1.dt q5,ok1.dt (h1.tk s5G5.tk),?k,n31_ (Zcj ..) ?e,n31_ (nzFm _ _ (?d)) ?e,true,rfl,iteF ?_⟩;refine ⟨_,rfl,_,rfl,one,one,j5,j5,f1,f1,g1,g1,rfl,h1.tk s5G5.tk,ok1,h1.tk s5G5.tk,ok1,fun G6 r6 j6 a6 w6 q6=>?_⟩;have s5G6:=s5G5.trans a6;refine ⟨_,rfl,_,rfl,one,one,j5,j5,f1,f1,g1,g1,rfl,h1.tk s5G6.tk,ok1,h1.tk s5G6.tk,ok1,fun G7 r7 j7 a7 w7 q7=>?_⟩;obtain rfl:=Zab w6 w7;have s5G7:=s5G6.trans a7;refine ⟨NF,1100,r6,r7,_,rfl,Zds ok1 ok1 w6 (q6.tk a7.tk),Zds ok1 ok1 w6 q7,?k,n31_ (Zcj ..) ?e,n31_ (nzFm _ _ (by have:=w6.le;omega)) ?e,true,rfl,iteF ?_⟩;obtain ⟨oa,ow,orr,oz,hone,eoa,⟨wa,rfl,ewa⟩,hrows,⟨za,zs,rfl,eza,az⟩⟩:=id h1;have st7:=st5.same s5G7;have sH7:Same H G7:=sH5.trans s5G7;refine ⟨z0_,fun c1 nc1=>?_⟩;have a8:Same G7 (upd G7 c1 (.tup [])):=Same.new nc1;have ec1:upd G7 c1 (.tup []) c1=some (.tup ((nI []).map V.int)):=Zc;generalize upd G7 c1 (.tup [])=G8 at a8 ec1 ⊢;have s5G8:=s5G7.trans a8;have st8:=st7.same a8;refine ⟨_,rfl,_,rfl,l,one,j5,f1,g1,rfl,st8,h1.tk s5G8.tk,ok1,fun G9 c2 i2 k9 st9 ec2 rise2 sub2 len2=>?_⟩;have t9:=tkS k9 st8;have t5G9:=s5G8.tk.trans t9;have sH9:Same H G9:=fun b o e=>k9 _ _ (neL e) (a8 _ _ (sH7 _ _ e));refine ⟨_,hone ▸ rfl,oa,_,0,_,rfl,rfl,SqT.of (t5G9 _ _ eoa),rfl,?_⟩;refine ⟨z3_,fun WL nWL=>?_⟩;have a10:Same G9 (upd G9 WL (.lst [.ref c1,.ref c2,.ref wa])):=Same.new nWL;have eWL:upd G9 WL (.lst [.ref c1,.ref c2,.ref wa]) WL=some (.lst [.ref c1,.ref c2,.ref wa]):=Zc;have neWL:WL≠l:=st9.neN nWL;generalize upd G9 WL (.lst [.ref c1,.ref c2,.ref wa])=GA at a10 eWL ⊢;have stA:=st9.same a10
   have t5A:=t5G9.trans a10.tk;have sHA:Same H GA:=sH9.trans a10
   have lots:∀ {i:Nat} {x:V},[V.ref c1,V.ref c2,V.ref wa][i]? = some x→∃ aw is,x=.ref aw∧GA aw=some (.tup ((nI is).map V.int))∧is.Pairwise (·<·)∧(∀ j∈is,j∈j5)∧is.length≤12:=fun {i x} e=>by
    rcases i with _|_|_|i
    · cases e;exact ⟨c1,[],rfl,(t9.trans a10.tk) _ _ ec1,.nil,by simp,?k⟩
    · cases e
      exact ⟨c2,i2,rfl,a10 _ _ ec2,rise2,sub2,n31_ len2 z1⟩
    · cases e;exact ⟨wa,j5,rfl,t5A _ _ ewa,ok1.rise,fun j hj=>hj,z1⟩
    · cases e
   refine ⟨WL,rfl,⟨_,SqL.of eWL⟩,?_⟩;refine Yu (n:=3) (fun j σ G=>(∃ v6 v7 v8 v9,σ=[some (.ref a),some (.int (0+i)),some (.ref l),some one,some other,some (.str (dF2 j5 ms f1 f2 g1 g2).shown),some due,v6,v7,v8,v9])∧Keep l GA G∧StAt G l) ⟨⟨_,_,_,_,rfl⟩,Keep.refl _ _,stA⟩ (fun j σ G hj p=>?_) (fun σ G p=>?_) (fun j x σ G G' hj y p=>?_) (fun σ G p=>?_)
   · exact ⟨_,[V.ref c1,V.ref c2,V.ref wa][j]'hj,SqL.of (p.2.1 _ _ neWL eWL),n0_ hj⟩
   · exact ⟨_,SqL.of (p.2.1 _ _ neWL eWL),n7_ _⟩
   · obtain ⟨⟨v6,v7,v8,v9,rfl⟩,kG,stG⟩:=p;obtain ⟨rfl,yx⟩:=y;obtain ⟨aw,is,rfl,eaw,risei,subi,lei⟩:=lots (yx _ (SqL.of (kG _ _ neWL eWL)));have tG:=tkS kG stA;have eawG:=tG _ _ eaw;have lni:(nI is).length=is.length:=n3_ ..;have t5G:=t5A.trans tG;refine ⟨_,rfl,aw,rfl,⟨_,SqT.of eawG⟩,fun D nD=>?_⟩;have neD:D≠l:=stG.neN nD;refine Zcz (n:=is.length) (fun m σ U=>Keep l G' U∧StAt U l∧(∃ u,σ=[u,some (.ref l)])∧∃ (us:List V) (ps:?N) (qs:?z),U D=some (.lst us)∧Al (fun v (p:Key×V)=>∃ c,v=.ref c∧U c=some (.tup [kV p.1,p.2])) us ps∧ps.map (·.1)=((nI is).take m).map Sum.inl∧Al (IsQ U) (ps.map (·.2)) qs∧(∀ q∈qs,Sm q)∧us.length=m) ⟨Keep.new nD,stG.new nD,?K,[],[],[],Zc,.nil,rfl,.nil,by simp,rfl⟩ (fun m σ U hm p=>?_) (fun σ U p=>?_) (fun m y σ U U' hm yy p=>?_) (fun σ U p=>?_)
     · exact ⟨_,.int ((nI is)[m]'(?d)),SqT.of ((tkS p.1 stG) _ _ eawG),by rw [n5_,n0_ (?d)];rfl⟩
     · exact ⟨_,SqT.of ((tkS p.1 stG) _ _ eawG),by rw [n3_,lni];exact n7_ _⟩
     · obtain ⟨kU,stU,⟨u,rfl⟩,us,ps,qs,eU,aU,kp,aq,sq,lus⟩:=p;obtain ⟨rfl,yx⟩:=yy;have hml:m<(nI is).length:=?d
       have ex:=yx _ (SqT.of ((tkS kU stG) _ _ eawG));rw [n5_,n0_ hml] at ex;cases ex
       refine ⟨_,rfl,_,rfl,l,rfl,stU,fun U2 p' q' k2 st2 e2 B2=>?_⟩;refine ⟨z2_,fun c nc=>?_⟩;generalize gG:upd U2 c (.tup [.int (nI is)[m],.ref p'])=U3;obtain ⟨b2,f2⟩:=gen_upd gG nc;have tU:=(tkS k2 stU).trans b2.tk;have eU3:=b2 _ _ (k2 _ _ neD eU);have tE:Tk U3 (upd U3 D (.lst (us++[.ref c]))):=Tk.upd_lst eU3;have lps:=aU.1;refine ⟨us,eU3,by rw [lus,sizeLine_eq];omega,is.length-(m+1),?d,?d,rfl,fun b o ne e=>?_,?_,?K,us++[.ref c],ps++[(.inl (nI is)[m],.ref p')],qs++[q'],Zc,(aU.imp fun v p h=>let ⟨c,e,hc⟩:=h;⟨c,e,tE _ _ (tU _ _ hc)⟩).snoc ⟨c,rfl,show upd U3 D (.lst (us++[.ref c])) c=some (.tup [kV (Sum.inl (nI is)[m]:Key),V.ref p']) from tE _ _ f2⟩,?_,?_,fun q hq=>?_,by rw [n33_,lus];rfl⟩
       · rw [Zl fun z=>by rw [z,nD] at e;cases e];exact b2 _ _ (k2 _ _ ne (kU _ _ ne e))
       · obtain ⟨x1,x2,x3,e,r⟩:=st2;exact ⟨x1,x2,x3,by rw [Zl (Ne.symm neD)];exact b2 _ _ e,r⟩
       · rw [n62_,kp,n77_,n0_ hml,n62_];rfl
       · rw [n62_];exact (aq.imp fun v x r=>(r.tk tU).tk tE).snoc ⟨p',rfl,tE _ _ (b2 _ _ e2)⟩
       · rcases n36_.mp hq with h|h
         · exact sq q h
         · rw [n18_.mp h];exact sm60 B2.1
     obtain ⟨kU,stU,_,us,ps,qs,eU,aU,kp,aq,sq,lus⟩:=p;rw [n34_ (Nat.le_of_eq lni)] at kp;refine ⟨D,us,ps,rfl,eU,?d,aU,fun ld nld=>?_⟩;have lo0:=Zto (ks:=j5) risei subi lei kp aq sq;have nldU:=nld;have b3:Same U (upd U ld (.dK (Yi [] ps))):=Same.new nld;have eld:upd U ld (.dK (Yi [] ps)) ld=some (.dK (Yi [] ps)):=Zc;have neld:ld≠l:=stU.neN nld
     have nldH:H ld=none:=by
      cases e:H ld with
      | none=>rfl
      | some o=>rw [kU _ _ (neL e) (kG _ _ (neL e) (sHA _ _ e))] at nld;cases nld
     generalize upd U ld (.dK (Yi [] ps))=U1 at b3 eld ⊢;have lo:=lo0.tk b3.tk;generalize Yi [] ps=kvs at eld lo lo0;generalize gOf is qs=hl at lo;have st1:=stU.same b3;have t51:=(t5G.trans (tkS kU stG)).trans b3.tk;have k01:Keep l G' U1:=kU.trans b3.keep;refine ⟨_,hone ▸ rfl,oa,_,0,_,rfl,rfl,SqT.of (t51 _ _ eoa),rfl,_,hone ▸ rfl,oa,_,2,_,rfl,rfl,SqT.of (t51 _ _ eoa),rfl,wa,za,rfl,⟨_,SqT.of (t51 _ _ ewa)⟩,⟨_,SqT.of (t51 _ _ eza)⟩,fun E nE=>?_⟩;have lk5:(nI j5).length=j5.length:=n3_ ..;have lzs:zs.length=j5.length:=by rw [az.1,n3_,lk5]
     refine Zee (n:=j5.length) IsQ hRQ ((nI j5).map fun x=>g1 x+hl x) ?f (?d) (fun σ=>∃ u u',σ=[u,u',some (.ref ld)]) ⟨_,_,rfl⟩ nE (fun m W s hm=>⟨_,_,.int ((nI j5)[m]'(?d)),zs[m]'(?d),SqT.of (s _ _ (t51 _ _ ewa)),SqT.of (s _ _ (t51 _ _ eza)),by rw [n5_,n0_ (?d)];rfl,n0_ (?d)⟩) (fun W s=>⟨_,_,SqT.of (s _ _ (t51 _ _ ewa)),SqT.of (s _ _ (t51 _ _ eza)),.inl (by rw [n3_,lk5];exact n7_ _)⟩) (fun m y σ W W' C hm s yy oo c=>?_) (fun W us3 s e3 a3=>?_)
     · obtain ⟨u,u',rfl⟩:=oo;obtain ⟨gg,y1,y2,rfl,ngg,rfl,yx1,yx2⟩:=yy;have hml:m<(nI j5).length:=?d
       have ex1:=yx1 _ (SqT.of (s _ _ (t51 _ _ ewa)));have ex2:=yx2 _ (SqT.of (s _ _ (t51 _ _ eza)));rw [n5_,n0_ hml] at ex1;cases ex1
       obtain ⟨z0,ez0,p1,rfl,hp1⟩:=az.get ex2;rw [n5_,n0_ hml] at ez0;cases ez0
       generalize gG:upd W gg (.tup [.int (nI j5)[m],.ref p1])=W1;obtain ⟨d1,f1'⟩:=gen_upd gG ngg;have sd1:=s.trans d1;refine ⟨gg,_,rfl,SqT.of f1',rfl,_,_,rfl,_,_,rfl,rfl,?_⟩;refine ⟨_,rfl,_,rfl,ld,rfl,.inl ⟨kvs,.inl (sd1 _ _ eld)⟩,_,rfl,z2_,fun z1 nz1=>?_⟩;have d2:Same W1 (upd W1 z1 ?S):=Same.new nz1;have f2':upd W1 z1 ?S z1=some (.tup (rt 0)):=Zc;generalize upd W1 z1 ?S=W2 at d2 f2' ⊢;have sd2:=sd1.trans d2
       obtain ⟨p2,ep2,hp2⟩:∃ p2,(valV kvs (.inl (nI j5)[m])).getD (.ref z1)=.ref p2∧W2 p2=some (.tup (rt (hl (nI j5)[m]))):=by
        cases cc:valV kvs (.inl (nI j5)[m]) with
        | none=>exact ⟨z1,rfl,by rw [lo.no _ cc];exact f2'⟩
        | some w1 =>
          obtain ⟨x',ex',_,p2,rfl,h2'⟩:=lo.at_ _ (Zkb cc);cases ex'
          exact ⟨p2,rfl,sd2 _ _ h2'⟩
       exact ⟨_,DGet.kq (k:=.inl (nI j5)[m]) (sd2 _ _ eld),p1,p2,_,_,by rw [ep2],(t51.trans sd2.tk) _ _ hp1,hp2,(ok1.bg _).1.mono ?e,(lo.sm _).1.mono ?e,fun z2 W3 d3 e3=>c _ _ _ _ ⟨_,_,rfl⟩ (d1.trans (d2.trans d3)) (by rw [n5_,n0_ hml];rfl) ⟨z2,rfl,e3⟩⟩
     have neE:E≠l:=st1.neN nE;have stW:=st1.same s;have t5W:=t51.trans s.tk;refine ⟨_,rfl,_,rfl,one,ld,j5,f1,g1,kvs,hl,rfl,h1.tk t5W,ok1,s _ _ eld,lo.tk s.tk,fun W1 r0 o kk1 eld1 q1=>?_⟩;have neEl:E≠ld:=fun z=>by rw [z,s _ _ eld] at e3;cases e3
     refine ⟨_,rfl,ld,rfl,.inl ⟨kvs,.inr ⟨o,eld1⟩⟩,fun b0 nb0=>?_⟩;have nbl:b0≠ld:=fun z=>by rw [z,eld1] at nb0;cases nb0
     generalize gG:upd W1 b0 (.dK [])=B0;obtain ⟨c0,eb0⟩:=gen_upd gG nb0;refine ⟨z2_,fun d1 nd1=>?_⟩;have c1':Same B0 (upd B0 d1 (.tup [.int 7,.int 1])):=Same.new nd1;generalize upd B0 d1 (.tup [.int 7,.int 1])=B1 at c1' ⊢;refine ⟨z2_,fun d2 nd2=>?_⟩;have c2':Same B1 (upd B1 d2 (.tup [.int 7,.int 1])):=Same.new nd2;generalize upd B1 d2 (.tup [.int 7,.int 1])=B2 at c2' ⊢;have c02:=c1'.trans c2';refine ⟨c02 _ _ eb0,[(.inl 0,.ref d1),(.inl 1,.ref d2)],rfl,by simp,ld,b0,o,kvs,_,rfl,rfl,Ne.symm nbl,nldH,by rw [Zl (Ne.symm nbl)];exact c02 _ _ (c0 _ _ eld1),Zc,?_,fun kvs'=>?_⟩
     · have h1':=lo.len;have h2':=Xn [(Sum.inl 0,V.ref d1),(Sum.inl 1,V.ref d2)] ([]:?N);simp only [List.length_nil,n29_] at h2';omega
     have pers:∀ b ob,b≠ld→W1 b=some ob→upd (upd B2 b0 (.dK (Zbz [] [(.inl 0,.ref d1),(.inl 1,.ref d2)]))) ld (.dK kvs') b=some ob:=fun b ob ne e=>by
      rw [Zl ne,Zl fun z=>by rw [z,nb0] at e;cases e];exact c02 _ _ (c0 _ _ e)
     generalize upd (upd B2 b0 (.dK (Zbz [] [(.inl 0,.ref d1),(.inl 1,.ref d2)]))) ld (.dK kvs')=B4 at pers ⊢;have tB:Tk W1 B4:=fun b xs e=>pers _ _ (fun z=>by rw [z,eld1] at e;cases e) e;have tK1:Tk W W1:=fun b xs e=>kk1 _ _ (fun z=>by rw [z,s _ _ eld] at e;cases e) e;have t5B:=t5W.trans (tK1.trans tB);have eE:=pers _ _ neEl (kk1 _ _ neEl e3);refine ⟨_,rfl,_,hone ▸ rfl,2,rfl,oa,_,rfl,t5B _ _ eoa,fun P1 X1 x1 eP1=>?_⟩;rw [show cutV [V.ref wa,orr,.ref za] none (some 2)=[V.ref wa,orr] from rfl] at eP1;refine ⟨_,rfl,E,us3,rfl,.inl ⟨SqL.of (x1 _ _ eE),fun Y nY=>?_⟩⟩;generalize gG:upd X1 Y (.tup us3)=X2;obtain ⟨x2,eY⟩:=gen_upd gG nY;refine ⟨z1_,fun T1 nT1=>?_⟩;generalize gG:upd X2 T1 (.tup [.ref Y])=X3;obtain ⟨x3,eT1⟩:=gen_upd gG nT1;have x23:=x2.trans x3;refine ⟨P1,T1,_,_,rfl,rfl,x23 _ _ eP1,eT1,by show 2+1≤sizeLine;decide,fun P2 X4 x4 eP2=>?_⟩;have x14:=x1.trans (x23.trans x4);have t5X:=t5B.trans x14.tk;have hq:IsFm X4 (.ref P2) j5 f1 (fun x=>g1 x+hl x):=⟨P2,.ref wa,orr,.ref Y,rfl,eP2,⟨wa,rfl,t5X _ _ ewa⟩,Zdr t5X hrows,⟨Y,us3,rfl,(x3.trans x4) _ _ eY,a3.imp fun v x r=>((r.tk tK1).tk tB).tk x14.tk⟩⟩;have dq:∀ {v:V},IsFm X4 v j5 f1 (fun x=>g1 x+hl x)→Dt NF X4 1100 v (dFm j5 f1 fun x=>g1 x+hl x):=fun h=>dtFm h (b60 ok1.lt ?e) (fun k=>(ok1.bf k).1.mono ?e) fun x=>Zmh (ok1.bg x) (lo.sm x);refine ⟨NF,1100,r0,.ref P2,_,rfl,dq (q1.tk (tB.trans x14.tk)),dq hq,?k,n31_ (Zcj ..) ?e,n31_ (nzFm _ _ (?d)) ?e,true,rfl,iteF ?_⟩;have big:∀ b ob,b≠ld→W b=some ob→X4 b=some ob:=fun b ob ne e=>x14 _ _ (pers _ _ ne (kk1 _ _ ne e));refine ⟨⟨_,_,_,_,rfl⟩,fun b ob ne e=>?_,?_⟩
     · have e1:=k01 _ _ ne (kG _ _ ne e);refine big _ _ (fun z=>?_) (s _ _ e1);have e2:=kU _ _ ne (kG _ _ ne e);rw [z] at e2;rw [nldU] at e2;cases e2
     · obtain ⟨x1',x2',x3',e,r⟩:=stW;exact ⟨x1',x2',x3',big _ _ (Ne.symm neld) e,r⟩
   · obtain ⟨⟨v6,v7,v8,v9,rfl⟩,kG,stG⟩:=p;have t5:=t5A.trans (tkS kG stA);refine ⟨_,rfl,_,rfl,z2_,fun R2 nR2=>?_⟩;generalize gG:upd G R2 (.tup [one,other])=Gz;obtain ⟨b1,eb1⟩:=gen_upd gG nR2;have t5z:=t5.trans b1.tk;refine ⟨NF,1100,.ref R2,_,rfl,(show Dt NF Gz 1100 (.ref R2) (dF2 j5 ms f1 f2 g1 g2) from .tup eb1 (.cons (ok1.dt (h1.tk t5z)) (.cons (ok2.dt (h2.tk t5z)) .nil))),?k,n31_ (Zoz ..) ?e,nzF2 ok1 ok2,_,rfl,rfl,_,rfl,?_⟩;rw [n44_ rfl];refine iteF ?_;exact ⟨_,_,_,_,_,_,_,_,_,_,rfl,fun b o e=>b1 _ _ (kG _ _ (neL e) (sHA _ _ e))⟩
end
structure Lk (K:PySem.W.Frag) (b:Str) (st:Stmt) (f:Addr):Prop where
 fn:∃ fd,Fun K b b st f fd
 a:PySem.W.nsIn K mainGlobals b=some (some (.ref f))
 k:PySem.W.keepIn K (.ref f)=true
theorem Zwv {K:PySem.W.Frag} {b:Str} {st:Stmt} {f:Addr} {od an:Option Addr} {sl:Array (?C)} {oc kV dc pm cd ct:Value} (a:PySem.W.nsIn K mainGlobals b=some (some (.ref f))) (l:K.lookup f=some ⟨oc,od,.func (PySem.W.fnOf b b (Xa st) (Yv st) (Zf st) .none kV dc pm an cd ct),sl⟩) (c:PySem.W.codeIn K cd b=true) (k:PySem.W.keepIn K (.ref f)=true):Lk K b st f:=⟨⟨_,Zq5 (st:=st) l c k⟩,a,k⟩
theorem Lk.cal {P:Program} {w:World} {K:PySem.W.Frag} {h:Heap} {mg:Str→?C} {base:Heap} {b:Str} {st:Stmt} {f:Addr} {k:Nat} {ps:List Str} {sp:Sp} (L:Lk K b st f) (X:K.In h) (G:h.Ns mainGlobals mg) (ok:∀ {fd},Fun K b b st f fd→FnOk P w K mg base CX0 k f fd ps sp) (hb:∀ (kV doc pm:Value) (an:Option Addr) (cdv ct:Value) (us:?t),us.length=ps.length→bindArgs (PySem.W.fnOf b b (Xa st) (Yv st) (Zf st) .none kV doc pm an cdv ct) ⟨us,[]⟩=pure (ps.zip us)):Cal P w K mg base b k ps sp :=
 let ⟨_,F⟩:=L.fn
 ⟨f,_,ok F,PySem.W.mg_of X G L.a,L.k,F.binds (ps:=ps) hb⟩
theorem lnS {n:Nat} {P:?t→Prop} (h:∀ x us,us.length=n→P (x :: us)):∀ us:?t,us.length=n+1→P us:=fun us e=>by
 cases us with
 | nil=>cases e
 | cons x t=>exact h x t (Nat.succ.inj e)
theorem ln0 {P:?t→Prop} (h:P []):∀ us:?t,us.length=0→P us:=fun us e=>by
 cases us with
 | nil=>exact h
 | cons x t=>cases e
theorem ln1 {P:?t→Prop} (h:∀ x0,P [x0]):∀ us:?t,us.length=1→P us:=lnS fun x0=>ln0 (P:=fun us=>P (x0 :: us)) (h x0)
theorem ln2 {P:?t→Prop} (h:∀ x0 x1,P [x0,x1]):∀ us:?t,us.length=2→P us:=lnS fun x0=>ln1 (P:=fun us=>P (x0 :: us)) (h x0)
theorem ln3 {P:?t→Prop} (h:∀ x0 x1 x2,P [x0,x1,x2]):∀ us:?t,us.length=3→P us:=lnS fun x0=>ln2 (P:=fun us=>P (x0 :: us)) (h x0)
theorem Zvn {l:PySem.W.OpenLaw} {w:World} {K:PySem.W.Frag} {h:Heap} {mg:Str→?C} {fa:Addr} (X:K.In h) (G:h.Ns mainGlobals mg) (hfa:mg "law" = some (.ref fa))
 {f_0:Addr} (h_0:Lk K "plain_divisor" Xr f_0)
 {f_1:Addr} (h_1:Lk K "divisor" Zdy f_1)
 {f_2:Addr} (h_2:Lk K "is_whole" Zcs f_2)
 {f_3:Addr} (h_3:Lk K "multiple" Zcm f_3)
 {f_4:Addr} (h_4:Lk K "reduced" Zep f_4)
 {f_5:Addr} (h_5:Lk K "is_fraction" Zar f_5)
 {f_6:Addr} (h_6:Lk K "are_fractions" Xy f_6)
 {f_7:Addr} (h_7:Lk K "levelled" Zap f_7)
 {f_8:Addr} {od_8 an_8:Option Addr} {sl_8:Array (?C)} {oc_8 kV_8 dc_8 pm_8 cd_8 ct_8:Value}
 {dT_8:Addr} {dt_8:Tok} {dn_8:Nat} {oo_8:Option Addr} {os_8:Array (?C)} {occ_8:Value}
 (a_8:PySem.W.nsIn K mainGlobals "mixed" = some (some (.ref f_8)))
 (l_8:K.lookup f_8=some ⟨oc_8,od_8,.func (PySem.W.fnOf "mixed" "mixed" (Xa Zcq) (Yv Zcq) (Zf Zcq) (.ref dT_8) kV_8 dc_8 pm_8 an_8 cd_8 ct_8),sl_8⟩)
 (c_8:PySem.W.codeIn K cd_8 "mixed" = true) (k_8:PySem.W.keepIn K (.ref f_8)=true)
 (t_8:K.lookup dT_8=some ⟨occ_8,oo_8,.seq #[.int 1 dt_8] dn_8,os_8⟩)
 {f_9:Addr} (h_9:Lk K "are_rising" Zaj f_9)
 {f_10:Addr} (h_10:Lk K "is_one_of" Zbr f_10)
 {f_11:Addr} (h_11:Lk K "are_some_of" Xo f_11)
 {f_12:Addr} (h_12:Lk K "added" Ziv f_12)
 {f_13:Addr} (h_13:Lk K "is_table" Xp f_13)
 {f_14:Addr} (h_14:Lk K "is_frame" Zcr f_14)
 {f_15:Addr} (h_15:Lk K "look_at_frame" Xs f_15)
 {f_16:Addr} (h_16:Lk K "are_loads_of" Xg f_16)
 {f_17:Addr} (h_17:Lk K "table_of" Zbk f_17)
 {f_18:Addr} (h_18:Lk K "rights_of" Zbw f_18)
 {f_19:Addr} (h_19:Lk K "together" Zbh f_19)
 {f_20:Addr} (h_20:Lk K "frame_by" Xe f_20)
 {f_21:Addr} (h_21:Lk K "with_loads" Za9 f_21)
 {f_22:Addr} (h_22:Lk K "joined" Zf2 f_22)
 {f_23:Addr} (h_23:Lk K "_law_cell_at" Zaa f_23)
 {f_24:Addr} (h_24:Lk K "_law_state" Zbd f_24)
 {f_25:Addr} (h_25:Lk K "_law_choice" Zak f_25)
 {f_26:Addr} (h_26:Lk K "_law_order" Zbc f_26)
 {f_27:Addr} (h_27:Lk K "_law_low" Zch f_27)
 {f_28:Addr} (h_28:Lk K "_law_add" Zcw f_28)
 {f_29:Addr} (h_29:Lk K "_law_mul" Zcp f_29)
 {f_30:Addr} (h_30:Lk K "_law_total" Za8 f_30)
 {f_31:Addr} (h_31:Lk K "_law_fraction" X0 f_31)
 {f_32:Addr} (h_32:Lk K "_law_shapes" Zax f_32)
 {f_33:Addr} (h_33:Lk K "_law_plate" Y3 f_33)
 {f_34:Addr} (h_34:Lk K "_law_row" Zbf f_34)
 {f_35:Addr} (h_35:Lk K "_law_slopes" Xk f_35)
 {f_36:Addr} (h_36:Lk K "_law_strain" Zat f_36)
 {f_37:Addr} (h_37:Lk K "_law_stress" Zam f_37)
 {f_38:Addr} (h_38:Lk K "_law_stresses" Xv f_38)
 {f_39:Addr} (h_39:Lk K "_law_pushes" Zan f_39)
 {f_40:Addr} (h_40:Lk K "_law_unit" Zaw f_40)
 {f_41:Addr} (h_41:Lk K "_law_same" Zbq f_41)
 {f_42:Addr} (h_42:Lk K "_law_lot" Zbi f_42)
 {f_43:Addr} (h_43:Lk K "_law_lot_frame" Yq f_43)
 {f_44:Addr} (h_44:Lk K "_law_any_frame" Yn f_44)
 {f_45:Addr} (h_45:Lk K "_law_some_frame" Xd f_45)
 {f_46:Addr} (h_46:Lk K "_law_kept" Zav f_46)
 {f_47:Addr} (h_47:Lk K "_law_joined" Yt f_47)
 {f_law:Addr} {od_law an_law:Option Addr} {sl_law:Array (?C)} {oc_law kV_law dc_law pm_law cd_law ct_law:Value}
 (a_law:PySem.W.nsIn K mainGlobals "law" = some (some (.ref f_law)))
 (l_law:K.lookup f_law=some ⟨oc_law,od_law,.func (PySem.W.fnOf "law" "law" (Xa Zej) (Yv Zej) (Zf Zej) .none kV_law dc_law pm_law an_law cd_law ct_law),sl_law⟩)
 (c_law:PySem.W.codeIn K cd_law "law" = true) (k_law:PySem.W.keepIn K (.ref f_law)=true)
 (z_abs:PySem.W.nsIn K mainGlobals "abs" = some none)
 (z_all:PySem.W.nsIn K mainGlobals "all" = some none)
 (z_bool:PySem.W.nsIn K mainGlobals "bool" = some none)
 (z_dict:PySem.W.nsIn K mainGlobals "dict" = some none)
 (z_enumerate:PySem.W.nsIn K mainGlobals "enumerate" = some none)
 (z_int:PySem.W.nsIn K mainGlobals "int" = some none)
 (z_isinstance:PySem.W.nsIn K mainGlobals "isinstance" = some none)
 (z_len:PySem.W.nsIn K mainGlobals "len" = some none)
 (z_list:PySem.W.nsIn K mainGlobals "list" = some none)
 (z_max:PySem.W.nsIn K mainGlobals "max" = some none)
 (z_min:PySem.W.nsIn K mainGlobals "min" = some none)
 (z_range:PySem.W.nsIn K mainGlobals "range" = some none)
 (z_repr:PySem.W.nsIn K mainGlobals "repr" = some none)
 (z_set:PySem.W.nsIn K mainGlobals "set" = some none)
 (z_sorted:PySem.W.nsIn K mainGlobals "sorted" = some none)
 (z_sum:PySem.W.nsIn K mainGlobals "sum" = some none)
 (z_tuple:PySem.W.nsIn K mainGlobals "tuple" = some none)
 (z_zip:PySem.W.nsIn K mainGlobals "zip" = some none)
 {tn_GREAT_BITS:Tok} (n_GREAT_BITS:PySem.W.nsIn K mainGlobals "GREAT_BITS" = some (some (.int 4000 tn_GREAT_BITS)))
 {tn_MOST_WAYS:Tok} (n_MOST_WAYS:PySem.W.nsIn K mainGlobals "MOST_WAYS" = some (some (.int 60 tn_MOST_WAYS)))
 : ∃ fd:FuncData,(∀ (s:Shared) (v:Value),BindsTo s fd ⟨[v],[]⟩ [("_law_script",v)])∧∀ base:Heap,K.In base→base.Ns mainGlobals mg→FnOk l.prog w K mg base CX0 10 fa fd ["_law_script"] (Zlb K):=by
 have e:=hfa.symm.trans (PySem.W.mg_of X G a_law);cases e
 have T:Bt mg:=⟨n41_ X G z_abs,n41_ X G z_all,n41_ X G z_bool,n41_ X G z_dict,n41_ X G z_enumerate,n41_ X G z_int,n41_ X G z_isinstance,n41_ X G z_len,n41_ X G z_list,n41_ X G z_max,n41_ X G z_min,n41_ X G z_range,n41_ X G z_repr,n41_ X G z_set,n41_ X G z_sorted,n41_ X G z_sum,n41_ X G z_tuple,n41_ X G z_zip,⟨_,PySem.W.mg_of X G n_GREAT_BITS⟩,⟨_,PySem.W.mg_of X G n_MOST_WAYS⟩⟩;have F_8:=Zry (st:=Zcq) l_8 c_8 k_8;have F_law:=Zq5 (st:=Zej) l_law c_law k_law;refine ⟨PySem.W.fnOf "law" "law" (Xa Zej) (Yv Zej) (Zf Zej) .none kV_law dc_law pm_law an_law cd_law ct_law,fun s v=>.of_eq rfl,fun base _ _=>?_⟩;have C_0:a0_ l.prog w K mg base:=h_0.cal X G (fun F=>Zdc T F) fun _ _ _ _ _ _=>ln2 ?l;have C_1:a1_ l.prog w K mg base:=h_1.cal X G (fun F=>Zl4 T F C_0) fun _ _ _ _ _ _=>ln2 ?l;have C_2:a2_ l.prog w K mg base:=h_2.cal X G (fun F=>Zig T F) ?ae;have C_3:a4_ l.prog w K mg base:=h_3.cal X G (fun F=>Zi4 T F C_1) ?ae;have C_4:a6_ l.prog w K mg base:=h_4.cal X G (fun F=>Zlo T F C_1) fun _ _ _ _ _ _=>ln2 ?l;have C_5:a3_ l.prog w K mg base:=h_5.cal X G (fun F=>Zey T F C_1 C_2) ?ae;have C_6:a9_ l.prog w K mg base:=h_6.cal X G (fun F=>Zde T F C_5) fun _ _ _ _ _ _=>ln2 ?l;have C_x7:a5_ l.prog w K mg base:=h_7.cal X G (fun F=>Zg2 T F C_3) ?ae
 have D_8:CalD l.prog w K mg base "mixed" 5 ["weights","parts","bottom"] [.int 1] Zgu:=⟨f_8,_,[.int 1 dt_8],Zpw T F_8 C_x7 C_4,PySem.W.mg_of X G a_8,k_8,fun s us KX hl=>(by
  have h1:us.length=2:=by simpa using hl
  match us,h1 with
  | [u0,u1],_=>exact BindsTo.of_defaults (T:=dT_8) (items:=#[.int 1 dt_8]) rfl (KX _ _ t_8) rfl rfl rfl),.cons ?K .nil⟩
 have C_x9:a7_ l.prog w K mg base:=h_9.cal X G (fun F=>Zew T F) ?ae;have C_10:a8_ l.prog w K mg base:=h_10.cal X G (fun F=>Zho T F C_2) fun _ _ _ _ _ _=>ln2 ?l;have C_11:a10_ l.prog w K mg base:=h_11.cal X G (fun F=>Ze3 T F C_x9 C_10) fun _ _ _ _ _ _=>ln2 ?l;have C_12:a13_ l.prog w K mg base:=h_12.cal X G (fun F=>Zpr T F D_8) ?ae;have C_13:a11_ l.prog w K mg base:=h_13.cal X G (fun F=>Zii T F C_6) fun _ _ _ _ _ _=>ln2 ?l;have C_14:a12_ l.prog w K mg base:=h_14.cal X G (fun F=>Ziu T F C_6 C_11 C_13) ?ae;have C_15:a17_ l.prog w K mg base:=h_15.cal X G (fun F=>Zdg T F C_14) ?ae;have C_16:a15_ l.prog w K mg base:=h_16.cal X G (fun F=>Zed T F C_5 C_10) fun _ _ _ _ _ _=>ln2 ?l;have C_17:a19_ l.prog w K mg base:=h_17.cal X G (fun F=>Zjp T F) ?ae;have C_18:a18_ l.prog w K mg base:=h_18.cal X G (fun F=>Zhb T F) ?ae;have C_19:a14_ l.prog w K mg base:=h_19.cal X G (fun F=>Zi2 T F C_12) fun _ _ _ _ _ _=>ln2 ?l;have C_x20:a20_ l.prog w K mg base:=h_20.cal X G (fun F=>Zhk T F C_19) fun _ _ _ _ _ _=>ln3 fun _ _ _=>rfl;have C_x21:a16_ l.prog w K mg base:=h_20.cal X G (fun F=>Zhp T F C_19) fun _ _ _ _ _ _=>ln3 fun _ _ _=>rfl;have C_21:a47_ l.prog w K mg base:=h_21.cal X G (fun F=>Zgc T F C_16 C_x21 C_15 C_18 C_17) fun _ _ _ _ _ _=>ln2 ?l;have C_22:a46_ l.prog w K mg base:=h_22.cal X G (fun F=>Znd T F C_x20 C_15 C_18 C_17) fun _ _ _ _ _ _=>ln2 ?l;have C_23:a21_ l.prog w K mg base:=h_23.cal X G (fun F=>Zdv T F) fun _ _ _ _ _ _=>ln2 ?l;have C_24:a45_ l.prog w K mg base:=h_24.cal X G (fun F=>Zf3 T F C_23) fun _ _ _ _ _ _=>ln2 ?l;have C_25:a22_ l.prog w K mg base:=h_25.cal X G (fun F=>Ze1 T F) fun _ _ _ _ _ _=>ln2 ?l;have C_26:a25_ l.prog w K mg base:=h_26.cal X G (fun F=>Zgb T F C_25) fun _ _ _ _ _ _=>ln2 ?l;have C_27:a23_ l.prog w K mg base:=h_27.cal X G (fun F=>Zin T F) fun _ _ _ _ _ _=>ln2 ?l
 have C_28:a24_ l.prog w K mg base:=h_28.cal X G (fun F=>Zjd T F C_27) fun _ _ _ _ _ _=>ln2 ?l;have C_29:a28_ l.prog w K mg base:=h_29.cal X G (fun F=>Zis T F C_27) fun _ _ _ _ _ _=>ln2 ?l;have C_30:a30_ l.prog w K mg base:=h_30.cal X G (fun F=>Zgp T F C_28) ?ae;have C_31:a27_ l.prog w K mg base:=h_31.cal X G (fun F=>Zdb T F C_25 C_27) ?ae;have C_32:a26_ l.prog w K mg base:=h_32.cal X G (fun F=>Ze2 T F) fun _ _ _ _ _ _=>ln0 rfl;have C_33:a40_ l.prog w K mg base:=h_33.cal X G (fun F=>Zgt T F C_25 C_26 C_32) fun _ _ _ _ _ _=>ln2 ?l;have C_34:a36_ l.prog w K mg base:=h_34.cal X G (fun F=>Zjj T F C_31) fun _ _ _ _ _ _=>ln2 ?l;have C_35:a29_ l.prog w K mg base:=h_35.cal X G (fun F=>Ze0 T F C_27) fun _ _ _ _ _ _=>ln2 ?l;have C_36:a31_ l.prog w K mg base:=h_36.cal X G (fun F=>Zex T F C_29 C_35 C_30) fun _ _ _ _ _ _=>ln3 fun _ _ _=>rfl;have C_37:a32_ l.prog w K mg base:=h_37.cal X G (fun F=>Zez T F C_28 C_29) fun _ _ _ _ _ _=>ln2 ?l;have C_38:a34_ l.prog w K mg base:=h_38.cal X G (fun F=>Zdd T F C_36 C_37) fun _ _ _ _ _ _=>ln2 ?l;have C_39:a33_ l.prog w K mg base:=h_39.cal X G (fun F=>Zeu T F C_28 C_27 C_29 C_35) fun _ _ _ _ _ _=>ln2 ?l;have C_40:a35_ l.prog w K mg base:=h_40.cal X G (fun F=>Zie T F) fun _ _ _ _ _ _=>ln2 ?l;have C_41:a43_ l.prog w K mg base:=h_41.cal X G (fun F=>Zh8 T F) fun _ _ _ _ _ _=>ln2 ?l;have C_42:a38_ l.prog w K mg base:=h_42.cal X G (fun F=>Zi6 T F C_25) fun _ _ _ _ _ _=>ln2 ?l;have C_43:a39_ l.prog w K mg base:=h_43.cal X G (fun F=>Zco T F C_39 C_38 C_40) fun _ _ _ _ _ _=>ln2 ?l;have C_44:a37_ l.prog w K mg base:=h_44.cal X G (fun F=>Zcl T F C_25 C_31 C_34) ?ae;have C_45:a44_ l.prog w K mg base:=h_45.cal X G (fun F=>Zb1 T F C_44 C_25 C_42 C_43 C_33 C_34) ?ae
 have C_46:a42_ l.prog w K mg base:=h_46.cal X G (fun F=>Zhy T F C_25) fun _ _ _ _ _ _=>ln2 ?l;have C_47:a41_ l.prog w K mg base:=h_47.cal X G (fun F=>Ze4 T F C_28) fun _ _ _ _ _ _=>ln2 ?l;exact Zvb T F_law C_28 C_31 C_47 C_46 C_41 C_45 C_24 C_22 C_21
theorem walk {l:PySem.W.OpenLaw} {q:Program} {loose:List Str} {XP:(Str→?C)→Heap→Prop} {YP:World→Heap→Prop} {d:DefRec} {K:Params→PySem.W.Frag} (hn:l.most=some 63) (hdf:d.params.defaults=[])
 (hY:∀ (w:World) (h:Heap),YP w h→(K w.params).In h)
 (F:∀ (w:World) (mg:Str→?C) (fa:Addr) (h:Heap),(K w.params).In h→h.Ns mainGlobals mg→mg d.name=some (.ref fa) →
   ∃ fd:FuncData,(∀ (s:Shared) (u:Value),BindsTo s fd ⟨[u],[]⟩ [("_law_script",u)])∧∀ base:Heap,(K w.params).In base→base.Ns mainGlobals mg→FnOk l.prog w (K w.params) mg base CX0 10 fa fd ["_law_script"] (Zlb (K w.params))) (him:importsNone q=true:=by decide +kernel) :
 PySem.W.WalkO q loose XP YP l.row.toRowW d [] (fun f vs=>PySem.call f vs) :=
 L2.Zrv (n:=63) (k:=10) (x := "_law_script") (CX:=fun _=>CX0) (sp:=fun w=>Zlb (K w.params)) hn ?e hdf ⟨rfl,?k,?k,rfl⟩ hY F (fun _ _ a ns hl _ hS=>⟨a,ns,rfl,hS,hl,fun _=>rfl⟩) (fun _ _ _ _ _ z=>z) him
end My

namespace My
open PySem PySem.W PyProof.Rows L2
set_option maxRecDepth 1000000
set_option maxHeartbeats 0
noncomputable def gE (P:Params) (n:Str) (t:Tok) (v:Value):DictEntry:=⟨PySem.PyData.keyHash P n,.str n t,v⟩
def gR (P:Params) (n:Str) (t:Tok) (a:Addr):DictEntry:=gE P n t (.ref a)
def fO (n:Str) (i:Nat) (m:Str) (mt:Tok) (c:Addr) (dv:Value):Obj:={ cls:=.type "function",data:=.func (PySem.W.fnOf n n (Xa (top i)) (Yv (top i)) (Zf (top i)) dv .none .none (.str m mt) none (.ref c) .none) }
def cO (n:Str) (a:Tok) (l k:Int) (r s:Addr) (u v:Value) (t:Nat):Obj:={ cls:=.type "code",data:=.fields (Array.mk [.str n a,.str n (a+1),.str "/claim/cut.py" (a+2),.int l 0,.int k 0,.int 0 0,.int 0 0,.int 3 0,.ref r,.bool true,.int 181 0,.ref (r+1),.none,u,v,.ref s,.int t 0,.int l 0,.str "/claim/cut.py" (t+1)]) }
def dR (n:Str) (i:Nat) (m:Str) (mt a:Tok) (l k:Int) (r:Addr) (t:Nat):Frag:=[(r+6,fO n i m mt (r+5) .none),(r+5,cO n a l k r (r+4) (.ref (r+2)) (.ref (r+3)) t)]
def dN (n:Str) (i:Nat) (m:Str) (mt a:Tok) (l k:Int) (r:Addr) (t:Nat):Frag:=[(r+4,fO n i m mt (r+3) .none),(r+3,cO n a l k r (r+2) .none .none t)]
def Zud (s:Stmt):Pos:=match s with|.FunctionDef _ _ _ _ _ _ _ _ _ p=>p|_=>⟨0,0,0,0⟩
def m0:Str := "platerest.divisors"
def m1:Str := "platerest.quotients"
def m2:Str := "platerest.plates"
def m3:Str := "platerest.ways"
def m4:Str := "platerest.strains"
def m5:Str := "platerest.frames"
def m6:Str := "law_platerest_k51_loads_and_joins"
noncomputable def kK (P:Params):Frag:=(3,{ cls:=.type "dict",data:=(.dict #[gE P "__name__" 165 (.str "law_platerest_k51_loads_and_joins" 475),
gE P "__doc__" 166 (.none),
gE P "__package__" 167 (.none),
gE P "__loader__" 168 (.builtin "__main__.__loader__#opaque"),
gE P "__spec__" 169 (.none),
gR P "__annotations__" 170 6,
gR P "__builtins__" 171 4,
gE P "__file__" 173 (.str "/claim/cut.py" 172),
gE P "__cached__" 174 (.none),
gR P "PlateError" 206 24,
gR P "NoLoads" 222 37,
gR P "NoFrame" 238 49,
gE P "GREAT_BITS" 242 (.int 4000 241),
gE P "FEW_BITS" 244 (.int 200 243),
gR P "plain_divisor" 252 58,
gR P "few_steps" 267 65,
gR P "mixed_by" 282 72,
gR P "shrinking" 302 79,
gR P "divisor" 311 86,
gR P "is_whole" 320 93,
gR P "multiple" 329 100,
gR P "reduced" 338 107,
gR P "is_fraction" 347 114,
gR P "are_fractions" 353 119,
gR P "levelled" 359 124,
gR P "mixed" 366 130,
gR P "are_rising" 374 135,
gR P "is_one_of" 384 142,
gR P "are_some_of" 390 147,
gR P "added" 399 154,
gE P "MOST_WAYS" 403 (.int 60 402),
gR P "is_table" 409 159,
gR P "is_frame" 419 166,
gR P "look_at_frame" 426 173,
gR P "are_loads_of" 432 178,
gR P "table_of" 438 183,
gR P "rights_of" 445 190,
gR P "together" 451 195,
gR P "frame_by" 457 200,
gR P "with_loads" 465 207,
gR P "joined" 474 214,
gR P "_law_cell_at" 484 221,
gR P "_law_state" 493 228,
gR P "_law_choice" 503 235,
gR P "_law_order" 513 242,
gR P "_law_low" 523 249,
gR P "_law_add" 531 256,
gR P "_law_mul" 539 263,
gR P "_law_total" 548 270,
gR P "_law_fraction" 557 277,
gR P "_law_shapes" 571 284,
gR P "_law_plate" 577 289,
gR P "_law_row" 583 294,
gR P "_law_slopes" 589 299,
gR P "_law_strain" 606 306,
gR P "_law_stress" 619 313,
gR P "_law_stresses" 629 320,
gR P "_law_pushes" 650 327,
gR P "_law_unit" 656 332,
gR P "_law_same" 664 339,
gR P "_law_lot" 670 344,
gR P "_law_lot_frame" 676 349,
gR P "_law_any_frame" 682 354,
gR P "_law_some_frame" 693 361,
gR P "_law_kept" 699 366,
gR P "_law_joined" 705 371,
gR P "law" 711 376] 67) }) :: (dR "plain_divisor" 7 m0 239 245 11 2 52 250 ++
dR "divisor" 11 m0 239 303 42 2 80 309 ++
dR "is_whole" 13 m1 312 314 49 1 87 318 ++
dR "multiple" 14 m1 312 321 51 1 94 327 ++
dR "reduced" 15 m1 312 330 56 2 101 336 ++
dR "is_fraction" 16 m1 312 339 61 1 108 345 ++
dN "are_fractions" 17 m1 312 348 68 2 115 351 ++
dN "levelled" 18 m1 312 354 72 1 120 357 ++
[(130,fO "mixed" 19 m1 312 129 (.ref 125)),(129,cO "mixed" 361 75 3 126 128 (.none) (.none) 364),(125,{ cls:=?M,data:=.seq #[.int 1 360] 0 })] ++
dN "are_rising" 21 m2 367 369 79 1 131 372 ++
dR "is_one_of" 23 m3 375 377 82 2 136 382 ++
dN "are_some_of" 24 m3 375 385 84 2 143 388 ++
dR "added" 26 m4 391 393 89 1 148 397 ++
dN "is_table" 29 m5 400 404 93 2 155 407 ++
dR "is_frame" 30 m5 400 410 99 1 160 417 ++
dR "look_at_frame" 31 m5 400 420 106 1 167 424 ++
dN "are_loads_of" 32 m5 400 427 109 2 174 430 ++
dN "table_of" 33 m5 400 433 113 1 179 436 ++
dR "rights_of" 34 m5 400 439 116 1 184 443 ++
dN "together" 35 m5 400 446 118 2 191 449 ++
dN "frame_by" 36 m5 400 452 120 3 196 455 ++
dR "with_loads" 37 m5 400 458 123 2 201 463 ++
dR "joined" 38 m5 400 466 128 2 208 472 ++
dR "_law_cell_at" 40 m6 475 477 134 2 215 482 ++
dR "_law_state" 41 m6 475 485 138 2 222 491 ++
dR "_law_choice" 42 m6 475 494 141 2 229 501 ++
dR "_law_order" 43 m6 475 504 151 2 236 511 ++
dR "_law_low" 44 m6 475 514 156 2 243 521 ++
dR "_law_add" 45 m6 475 524 161 2 250 529 ++
dR "_law_mul" 46 m6 475 532 163 2 257 537 ++
dR "_law_total" 47 m6 475 540 165 1 264 546 ++
dR "_law_fraction" 48 m6 475 549 170 1 271 555 ++
dR "_law_shapes" 49 m6 475 558 176 0 278 569 ++
dN "_law_plate" 50 m6 475 572 186 2 285 575 ++
dN "_law_row" 51 m6 475 578 199 2 290 581 ++
dN "_law_slopes" 52 m6 475 584 201 2 295 587 ++
dR "_law_strain" 53 m6 475 590 210 3 300 604 ++
dR "_law_stress" 54 m6 475 607 218 2 307 617 ++
dR "_law_stresses" 55 m6 475 620 223 2 314 627 ++
dR "_law_pushes" 56 m6 475 630 228 2 321 648 ++
dN "_law_unit" 57 m6 475 651 239 2 328 654 ++
dR "_law_same" 58 m6 475 657 241 2 333 662 ++
dN "_law_lot" 59 m6 475 665 243 2 340 668 ++
dN "_law_lot_frame" 60 m6 475 671 246 2 345 674 ++
dN "_law_any_frame" 61 m6 475 677 260 1 350 680 ++
dR "_law_some_frame" 62 m6 475 683 266 1 355 691 ++
dN "_law_kept" 63 m6 475 694 272 2 362 697 ++
dN "_law_joined" 64 m6 475 700 275 2 367 703 ++
dN "law" 65 m6 475 706 285 1 372 709)
def kA:List Addr:=[3,58,57,86,85,93,92,100,99,107,106,114,113,119,118,124,123,130,129,125,135,134,142,141,147,146,154,153,159,158,166,165,173,172,178,177,183,182,190,189,195,194,200,199,207,206,214,213,221,220,228,227,235,234,242,241,249,248,256,255,263,262,270,269,277,276,284,283,289,288,294,293,299,298,306,305,313,312,320,319,327,326,332,331,339,338,344,343,349,348,354,353,361,360,366,365,371,370,376,375]
theorem kAs:∀ P,kA=(kK P).map (·.1):=fun _=>?q
theorem h3:∀ w os,(topK pw 4664 w os).map (fun s=>kA.map s.abs.heap.get?)=some ((kK w.params).map fun p=>some p.2):=fun w os=>by
  unfold topK topStub;rw [PySem.W.Fast.te4652649595001227023,PySem.W.Fast.te14364793385576792824,PySem.W.Fast.te17154629097778926822,PySem.W.Fast.te12822647523644345616]
  kernel_rfl
theorem left:LeftO pw qq ll (fun s=>xlAt qq [] s&&recOk (RowW.records (OpenRow.toRowW rr)) s) (Hook.obs (kHook kK kA kAs)) (Hook.val (kHook kK kA kAs)) 4664 :=
  Zit (T0:=bootT) (life:={}) (?q) (?q) (fun s=>?q) Zo8 Zo1 (Zhx (R:=topK pw 4664) h1 h2 h3)
theorem lk4 {P:Params} {b:Str} {i:Nat} {f:Addr} (c:Addr) (m:Str) (mt:Tok) (h:((kK P).lookup f,PySem.W.nsIn (kK P) mainGlobals b,PySem.W.codeIn (kK P) (.ref c) b,PySem.W.keepIn (kK P) (.ref f))=(some (fO b i m mt c .none),some (some (.ref f)),true,true)):Lk (kK P) b (top i) f:=Zwv (Prod.mk.inj (Prod.mk.inj h).2).1 (Prod.mk.inj h).1 (Prod.mk.inj (Prod.mk.inj (Prod.mk.inj h).2).2).1 (Prod.mk.inj (Prod.mk.inj (Prod.mk.inj h).2).2).2
theorem Zqo (P:Params):(kK P).lookup 130=some (fO "mixed" 19 m1 312 129 (.ref 125)):=?q
theorem Zpj (P:Params):PySem.W.nsIn (kK P) mainGlobals "mixed" = some (some (.ref 130)):=?q
theorem Zpd (P:Params):PySem.W.codeIn (kK P) (.ref 129) "mixed" = true:=?q
theorem Zp0 (P:Params):PySem.W.keepIn (kK P) (.ref 130)=true:=?q
theorem Zqc (P:Params):(kK P).lookup 125=some ⟨?M,none,.seq #[.int 1 360] 0,#[]⟩:=?q
theorem Zvt (P:Params):(kK P).lookup 376=some (fO "law" 65 m6 475 375 .none):=?q
theorem Zuv (P:Params):PySem.W.nsIn (kK P) mainGlobals "law" = some (some (.ref 376)):=?q
theorem Zvv (P:Params):PySem.W.codeIn (kK P) (.ref 375) "law" = true:=?q
theorem Zvp (P:Params):PySem.W.keepIn (kK P) (.ref 376)=true:=?q
def dL:DefRec:=⟨"law",Xa (top 65),Yv (top 65),Zf (top 65),Zud (top 65)⟩
theorem hdL:defOf qq (OpenRow.toRowW rr).name=some (dL,[]):=?q
theorem hpL:(OpenRow.toRowW rr).prog.theDef (OpenRow.toRowW rr).name=some (dL.params,dL.body,dL.scope):=?q
theorem hkL:kwWritten? dL.params.kwonlyargs dL.params.kw_defaults=some []:=?q
theorem okL:(chainsOk qq&&opensWell (OpenRow.toRowW rr).prog&&(frees (OpenRow.toRowW rr)&&(OpenRow.toRowW rr).within.isEmpty))=true:=?q
theorem dfL:dL.params.defaults=[]:=?q
theorem wkL:WalkO qq ll (XL qq []) (Hook.says (kHook kK kA kAs)) (OpenRow.toRowW rr) dL [] (fun f vs=>PySem.call f vs):=by
  refine My.walk (l:=PySem.Challenge.rw_platerest_k51_loads_and_joins) rfl dfL (fun w h Y=>PySem.W.kIn_of Y) ?F;intro w mg fa h KX G hmg;exact Zvn KX G hmg (lk4 (f:=58) 57 m0 239 (?q)) (lk4 (f:=86) 85 m0 239 (?q)) (lk4 (f:=93) 92 m1 312 (?q)) (lk4 (f:=100) 99 m1 312 (?q)) (lk4 (f:=107) 106 m1 312 (?q)) (lk4 (f:=114) 113 m1 312 (?q)) (lk4 (f:=119) 118 m1 312 (?q)) (lk4 (f:=124) 123 m1 312 (?q)) (Zpj _) (Zqo _) (Zpd _) (Zp0 _) (Zqc _) (lk4 (f:=135) 134 m2 367 (?q)) (lk4 (f:=142) 141 m3 375 (?q)) (lk4 (f:=147) 146 m3 375 (?q)) (lk4 (f:=154) 153 m4 391 (?q)) (lk4 (f:=159) 158 m5 400 (?q)) (lk4 (f:=166) 165 m5 400 (?q)) (lk4 (f:=173) 172 m5 400 (?q)) (lk4 (f:=178) 177 m5 400 (?q)) (lk4 (f:=183) 182 m5 400 (?q)) (lk4 (f:=190) 189 m5 400 (?q)) (lk4 (f:=195) 194 m5 400 (?q)) (lk4 (f:=200) 199 m5 400 (?q)) (lk4 (f:=207) 206 m5 400 (?q)) (lk4 (f:=214) 213 m5 400 (?q)) (lk4 (f:=221) 220 m6 475 (?q)) (lk4 (f:=228) 227 m6 475 (?q)) (lk4 (f:=235) 234 m6 475 (?q)) (lk4 (f:=242) 241 m6 475 (?q)) (lk4 (f:=249) 248 m6 475 (?q)) (lk4 (f:=256) 255 m6 475 (?q)) (lk4 (f:=263) 262 m6 475 (?q)) (lk4 (f:=270) 269 m6 475 (?q)) (lk4 (f:=277) 276 m6 475 (?q)) (lk4 (f:=284) 283 m6 475 (?q)) (lk4 (f:=289) 288 m6 475 (?q)) (lk4 (f:=294) 293 m6 475 (?q)) (lk4 (f:=299) 298 m6 475 (?q)) (lk4 (f:=306) 305 m6 475 (?q)) (lk4 (f:=313) 312 m6 475 (?q)) (lk4 (f:=320) 319 m6 475 (?q)) (lk4 (f:=327) 326 m6 475 (?q)) (lk4 (f:=332) 331 m6 475 (?q)) (lk4 (f:=339) 338 m6 475 (?q)) (lk4 (f:=344) 343 m6 475 (?q)) (lk4 (f:=349) 348 m6 475 (?q)) (lk4 (f:=354) 353 m6 475 (?q)) (lk4 (f:=361) 360 m6 475 (?q)) (lk4 (f:=366) 365 m6 475 (?q)) (lk4 (f:=371) 370 m6 475 (?q)) (Zuv _) (Zvt _) (Zvv _) (Zvp _) (?q) (?q) (?q) (?q) (?q) (?q) (?q) (?q) (?q) (?q) (?q) (?q) (?q) (?q) (?q) (?q) (?q) (?q) (tn_GREAT_BITS:=241) (?q) (tn_MOST_WAYS:=402) (?q)
end My
open PySem PySem.W PyProof.Rows
set_option maxRecDepth 1000000 in
set_option maxHeartbeats 0 in
theorem PySem.Challenge.cw_platerest_k51_loads_and_joins_holds : PySem.Challenge.rw_platerest_k51_loads_and_joins.Holds := by
  refine holds_law My.ws fun said=>?_;refine holds_open (q:=My.qq) (loose:=My.ll) (Xt:=fun s=>xlAt My.qq [] s&&recOk (RowW.records (OpenRow.toRowW My.rr)) s) (XP:=XL My.qq []) (Yf:=Hook.obs (kHook My.kK My.kA My.kAs)) (Ya:=Hook.val (kHook My.kK My.kA My.kAs)) (YP:=Hook.says (kHook My.kK My.kA My.kAs)) My.left (Hook.of (kHook My.kK My.kA My.kAs)) (Hook.keeps (kHook My.kK My.kA My.kAs)) (fun s e=>xl_of s (Bool.and_eq_true_iff.mp e).1) XL.keeps My.hdL My.hpL My.hkL (fun s e=>recFacts_of (Bool.and_eq_true_iff.mp e).2) rfl said My.okL ⟨rfl,rfl,rfl,rfl,rfl,?i⟩ ?hw My.wkL
  case hw=>w_witness2
