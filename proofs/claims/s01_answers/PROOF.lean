import PyProof.Rows.All
import Wide.All
import OpenK.AllK
import Wide.FinOn
import PyProof.EqAt
import PyProof.EqKinds
import PyProof.TupleCall
import KE.BitLaws
import Open.SpecLaws
import KE.OsHead
import KE.OsGo
import PyProof.Draws
import KE.KRevIter
import PyProof.FactsAll.NoneType_1
import PyProof.DictItems
import PyProof.Rows.TupDisplay
import KE.KDictList
import KE.KDictSum
import YhTime
import WqatdqSpec
import PySem.Challenge.RW_yardtimes_s01_answers
import KE.KSortTupG
import PyWqatdq
set_option Elab.async false
set_option linter.all false
set_option maxRecDepth 100000
set_option maxHeartbeats 2000000
set_option bootstrap.genMatcherCode false
set_option compiler.extract_closed false
inductive dB{t0 t1:Type}(p:t0->t1->Prop):Prop|mk:∀a b,p a b->dB p
inductive iY{t0 t1 t2:Type}(p:t0->t1->t2->Prop):Prop|mk:∀a b c,p a b c->iY p
inductive k9{t0 t1 t2 t3:Type}(p:t0->t1->t2->t3->Prop):Prop|mk:∀a b c d,p a b c d->k9 p
inductive Cj{t0 t1 t2 t3 t4:Type}(p:t0->t1->t2->t3->t4->Prop):Prop|mk:∀a b c d e,p a b c d e->Cj p
inductive HB{t0 t1 t2 t3 t4 t5:Type}(p:t0->t1->t2->t3->t4->t5->Prop):Prop|mk:∀a b c d e f,p a b c d e f->HB p
inductive tR{t0 t1 t2 t3 t4 t5 t6:Type}(p:t0->t1->t2->t3->t4->t5->t6->Prop):Prop|mk:∀a b c d e f g,p a b c d e f g->tR p
inductive SM{t0 t1 t2 t3 t4 t5 t6 t7:Type}(p:t0->t1->t2->t3->t4->t5->t6->t7->Prop):Prop|mk:∀a b c d e f g h,p a b c d e f g h->SM p
inductive SN{t0 t1 t2 t3 t4 t5 t6 t7 t8:Type}(p:t0->t1->t2->t3->t4->t5->t6->t7->t8->Prop):Prop|mk:∀a b c d e f g h i,p a b c d e f g h i->SN p
inductive SO{t0 t1 t2 t3 t4 t5 t6 t7 t8 t9:Type}(p:t0->t1->t2->t3->t4->t5->t6->t7->t8->t9->Prop):Prop|mk:∀a b c d e f g h i j,p a b c d e f g h i j->SO p
inductive SQ{t0 t1 t2 t3 t4 t5 t6 t7 t8 t9 qG:Type}(p:t0->t1->t2->t3->t4->t5->t6->t7->t8->t9->qG->Prop):Prop|mk:∀a b c d e f g h i j k,p a b c d e f g h i j k->SQ p
inductive SR{t0 t1 t2 t3 t4 t5 t6 t7 t8 t9 qG vL:Type}(p:t0->t1->t2->t3->t4->t5->t6->t7->t8->t9->qG->vL->Prop):Prop|mk:∀a b c d e f g h i j k l,p a b c d e f g h i j k l->SR p
inductive SS{t0 t1 t2 t3 t4 t5 t6 t7 t8 t9 qG vL Ck:Type}(p:t0->t1->t2->t3->t4->t5->t6->t7->t8->t9->qG->vL->Ck->Prop):Prop|mk:∀a b c d e f g h i j k l m,p a b c d e f g h i j k l m->SS p
inductive SU{t0 t1 t2 t3 t4 t5 t6 t7 t8 t9 qG vL Ck SV:Type}(p:t0->t1->t2->t3->t4->t5->t6->t7->t8->t9->qG->vL->Ck->SV->Prop):Prop|mk:∀a b c d e f g h i j k l m n,p a b c d e f g h i j k l m n->SU p
inductive fN(a0 a1 a2:Prop):Prop|mk:a0->a1->a2->fN a0 a1 a2
inductive gR(a0 a1 a2 a3:Prop):Prop|mk:a0->a1->a2->a3->gR a0 a1 a2 a3
inductive ma(a0 a1 a2 a3 a4:Prop):Prop|mk:a0->a1->a2->a3->a4->ma a0 a1 a2 a3 a4
inductive tS(a0 a1 a2 a3 a4 a5:Prop):Prop|mk:a0->a1->a2->a3->a4->a5->tS a0 a1 a2 a3 a4 a5
inductive vM(a0 a1 a2 a3 a4 a5 a6:Prop):Prop|mk:a0->a1->a2->a3->a4->a5->a6->vM a0 a1 a2 a3 a4 a5 a6
inductive zc(a0 a1 a2 a3 a4 a5 a6 a7:Prop):Prop|mk:a0->a1->a2->a3->a4->a5->a6->a7->zc a0 a1 a2 a3 a4 a5 a6 a7
inductive Cm(a0 a1 a2 a3 a4 a5 a6 a7 a8:Prop):Prop|mk:a0->a1->a2->a3->a4->a5->a6->a7->a8->Cm a0 a1 a2 a3 a4 a5 a6 a7 a8
inductive SW(a0 a1 a2 a3 a4 a5 a6 a7 a8 a9:Prop):Prop|mk:a0->a1->a2->a3->a4->a5->a6->a7->a8->a9->SW a0 a1 a2 a3 a4 a5 a6 a7 a8 a9
inductive SX(a0 a1 a2 a3 a4 a5 a6 a7 a8 a9 fO:Prop):Prop|mk:a0->a1->a2->a3->a4->a5->a6->a7->a8->a9->fO->SX a0 a1 a2 a3 a4 a5 a6 a7 a8 a9 fO
inductive Cn(a0 a1 a2 a3 a4 a5 a6 a7 a8 a9 fO gn:Prop):Prop|mk:a0->a1->a2->a3->a4->a5->a6->a7->a8->a9->fO->gn->Cn a0 a1 a2 a3 a4 a5 a6 a7 a8 a9 fO gn
inductive SY(a0 a1 a2 a3 a4 a5 a6 a7 a8 a9 fO gn gZ:Prop):Prop|mk:a0->a1->a2->a3->a4->a5->a6->a7->a8->a9->fO->gn->gZ->SY a0 a1 a2 a3 a4 a5 a6 a7 a8 a9 fO gn gZ
inductive S0(a0 a1 a2 a3 a4 a5 a6 a7 a8 a9 fO gn gZ iZ:Prop):Prop|mk:a0->a1->a2->a3->a4->a5->a6->a7->a8->a9->fO->gn->gZ->iZ->S0 a0 a1 a2 a3 a4 a5 a6 a7 a8 a9 fO gn gZ iZ
inductive S1(a0 a1 a2 a3 a4 a5 a6 a7 a8 a9 fO gn gZ iZ k_:Prop):Prop|mk:a0->a1->a2->a3->a4->a5->a6->a7->a8->a9->fO->gn->gZ->iZ->k_->S1 a0 a1 a2 a3 a4 a5 a6 a7 a8 a9 fO gn gZ iZ k_
inductive S3(a0 a1 a2 a3 a4 a5 a6 a7 a8 a9 fO gn gZ iZ k_ oO:Prop):Prop|mk:a0->a1->a2->a3->a4->a5->a6->a7->a8->a9->fO->gn->gZ->iZ->k_->oO->S3 a0 a1 a2 a3 a4 a5 a6 a7 a8 a9 fO gn gZ iZ k_ oO
inductive S4(a0 a1 a2 a3 a4 a5 a6 a7 a8 a9 fO gn gZ iZ k_ oO vN:Prop):Prop|mk:a0->a1->a2->a3->a4->a5->a6->a7->a8->a9->fO->gn->gZ->iZ->k_->oO->vN->S4 a0 a1 a2 a3 a4 a5 a6 a7 a8 a9 fO gn gZ iZ k_ oO vN
inductive S5(a0 a1 a2 a3 a4 a5 a6 a7 a8 a9 fO gn gZ iZ k_ oO vN HC:Prop):Prop|mk:a0->a1->a2->a3->a4->a5->a6->a7->a8->a9->fO->gn->gZ->iZ->k_->oO->vN->HC->S5 a0 a1 a2 a3 a4 a5 a6 a7 a8 a9 fO gn gZ iZ k_ oO vN HC
abbrev aa:=PySem.W.Frag
abbrev ae:=PySem.Shared
abbrev af:=PySem.Program
abbrev ah:=PySem.World
abbrev ai:=PySem.Around
abbrev ao:=PySem.Value
abbrev au:=@PySem.wpAny_bind
abbrev az:=@if_neg
abbrev aD:=@if_pos
abbrev aI:=@PySem.wpAny_pure
abbrev aO:=@Ne.symm
abbrev aT:=@List.length_map
abbrev aW:=@Nat.le_refl
abbrev be:=@List.mem_cons
abbrev bC:=@Option.some.inj
abbrev bG:=@List.length_cons
abbrev bI:=@PySem.Heap.get?_push_of_some
abbrev bK:=@PySem.Heap.lt_size
abbrev bL:=@Nat.zero_le
abbrev bP:=@PySem.sizeLine_eq
abbrev bU:=@List.mem_cons_of_mem
abbrev bZ:=@PySem.Paired.length
abbrev b7:=@decide_eq_false
abbrev b_:=@List.mem_map
abbrev cb:=@List.getElem?_map
abbrev cp:=@List.getElem?_eq_getElem
abbrev cq:=@decide_eq_true
abbrev cv:=@PySem.Heap.get?_push_size
abbrev cA:=@List.map_cons
abbrev cF:=@Nat.le_trans
abbrev cT:=@List.mem_cons_self
abbrev cX:=@List.length_append
abbrev dq:=@List.getElem?_eq_some_iff
abbrev dA:=@List.mem_singleton
abbrev dP:=@Nat.ne_of_lt
abbrev dQ:=@List.length_take
abbrev dR:=@List.length_nil
abbrev dS:=@PyProof.Rows.take_snoc
abbrev d_:=@List.mem_of_getElem?
abbrev fk:=@Bool.false_ne_true
abbrev fo:=@Bool.and_eq_true
abbrev fq:=@List.take_of_length_le
abbrev ft:=@List.map_append
abbrev fz:=@List.map_map
abbrev fK:=@if_false
abbrev fL:=@List.not_mem_nil
abbrev fM:=@or_false
abbrev fV:=@PySem.wpAny_field
abbrev fW:=@PySem.PassesOwn.never
abbrev f9:=@List.flatMap_cons
abbrev gE:=@if_true
abbrev gN:=@Nat.le_of_lt
abbrev gO:=@List.mem_append
abbrev gP:=@congrArg
abbrev gQ:=@Bool.eq_false_iff
abbrev gY:=@PySem.wpAny_call_entry
abbrev ig:=@Nat.lt_of_lt_of_le
abbrev ij:=@PySem.Heap.size_push
abbrev ip:=@PySem.wpAny_newObj_type
abbrev iJ:=@List.size_toArray
abbrev iK:=@decide_eq_true_eq
abbrev iW:=@Bool.false_eq_true
abbrev iX:=@Int.ofNat_lt
abbrev jn:=@PySem.wpAny_holding
abbrev jo:=@PySem.mem_of_lookup
abbrev jq:=@Option.map_eq_some_iff
abbrev jr:=@List.mem_flatMap
abbrev jS:=@List.getElem?_set_ne
abbrev jT:=@PySem.F.plainAttrs_list
abbrev kR:=@PySem.wpAny_mono
abbrev kS:=@Nat.ne_of_gt
abbrev kT:=@PySem.Calls.spliced_cons
abbrev kU:=@List.append_nil
abbrev kW:=@Option.isSome_iff_exists
abbrev kX:=@PySem.Paired.snoc
abbrev kY:=@PySem.wpAny_setField_rec
abbrev kZ:=@List.foldl_cons
abbrev lZ:=@PySem.wpAny_truthy_bool
abbrev l5:=@PySem.wpAny_callSpecial?_slot
abbrev l6:=@List.any_cons
abbrev l7:=@List.all_eq_true
abbrev l8:=@PySem.wpAny_specialOf
abbrev l9:=@PySem.wpAny_seqItems
abbrev l_:=@List.getD_eq_getElem?_getD
abbrev mW:=@Nat.lt_irrefl
abbrev mX:=@PyProof.Rows.callWith_type1
abbrev mY:=@PySem.F.slot_dict_get
abbrev mZ:=@PySem.wpAny_of_eq
abbrev m9:=@List.map_congr_left
abbrev m_:=@Bool.true_and
abbrev oH:=@Bool.eq_iff_iff
abbrev oJ:=@PySem.Calls.spliced_nil
abbrev oK:=@beq_eq_false_iff_ne
abbrev oM:=@PySem.wpAny_rule
abbrev oN:=@List.nodup_append
abbrev qo:=@List.mem_append_right
abbrev qp:=@List.nodup_cons
abbrev qt:=@List.length_drop
abbrev qu:=@Array.length_toList
abbrev qw:=@List.find?_cons
abbrev qx:=@List.nodup_nil
abbrev qy:=@PySem.call_meetsIn
abbrev qz:=@PySem.wpAny_dictEntries
abbrev qA:=@PySem.wpAny_attempt
abbrev qB:=@PySem.Heap.SameBut.update
abbrev qC:=@PySem.wpAny_isInstance
abbrev qD:=@PySem.wpAny_letGo
abbrev qE:=@List.flatMap_append
abbrev qF:=@List.drop_drop
abbrev tF:=@List.mem_filter
abbrev tG:=@List.filterMap_cons
abbrev tH:=@beq_iff_eq
abbrev tI:=@List.getElem?_append_left
abbrev tJ:=@Prod.ext
abbrev tK:=@List.length_set
abbrev tL:=@PySem.Calls.callWith_builtin
abbrev tM:=@PySem.wpAny_dictEpoch
abbrev tN:=@List.append_assoc
abbrev tO:=@Nat.lt_of_le_of_lt
abbrev tP:=@PySem.F.plain_max_loop
abbrev tQ:=@decide_eq_decide
abbrev vp:=@PySem.wpAny_passesOwn
abbrev vq:=@Int.toNat_natCast
abbrev vt:=@PySem.typeIs_str
abbrev vv:=@PySem.Heap.get?_update_self
abbrev vx:=@PySem.Heap.get?_update_other
abbrev vy:=@PySem.Calls.evalArgs_plain
abbrev vz:=@PySem.call_meets
abbrev vA:=@List.map_nil
abbrev vB:=@List.all_map
abbrev vC:=@Bool.or_eq_true
abbrev vD:=@Option.map_some
abbrev vE:=@PySem.F.entry_dict_get
abbrev vF:=@List.drop_zero
abbrev vG:=@Nat.min_eq_left
abbrev vH:=@List.getElem?_cons_succ
abbrev vI:=@PySem.F.slot_list_append
abbrev vJ:=@PySem.F.type_list_append
abbrev vK:=@Nat.le_succ_of_le
abbrev yU:=@List.getElem?_set_self
abbrev yV:=@PySem.wpAny_Call_Name_kw
abbrev yW:=@List.any_map
abbrev yX:=@Option.isSome_map
abbrev yY:=@PySem.wpAny_Call_method
abbrev yZ:=@PySem.F.slot_dict_keyiterator_next
abbrev y8:=@Bool.not_true
abbrev y9:=@List.flatMap_map
abbrev y_:=@List.filter_append
abbrev za:=@List.pairwise_cons
abbrev zb:=@List.take_length
abbrev BO:=@List.mem_append_left
abbrev BP:=@PySem.wpAny_pyIter_tuple
abbrev BQ:=@List.mem_filterMap
abbrev BR:=@List.any_eq_false
abbrev BS:=@List.getElem?_append_right
abbrev BU:=@List.all_cons
abbrev BV:=@List.lookup_cons
abbrev BW:=@Bool.false_or
abbrev BX:=@PySem.tupleKind_room_in1
abbrev BY:=@PySem.F.plainAttrs_dict
abbrev BZ:=@PySem.wpAny_setField
abbrev B0:=@List.nil_append
abbrev B2:=@PySem.isSubtype_type
abbrev B3:=@List.filterMap_append
abbrev B4:=@PySem.wpAny_tryCatch
abbrev B5:=@PySem.plainId_quiet
abbrev B6:=@PySem.wpAny_forIn_list
abbrev B7:=@PySem.F.slot_dict_itemiterator_next
abbrev B8:=@PySem.size_of_entries
abbrev B9:=@Nat.add_zero
abbrev B_:=@List.any_eq_true
abbrev Ca:=@Nat.zero_add
abbrev Cb:=@of_decide_eq_true
abbrev Cc:=@List.getD_cons_succ
abbrev Cd:=@PySem.F.slot_list_extend
abbrev Ce:=@PySem.F.type_list_extend
abbrev Cf:=@List.flatMap_nil
abbrev Cg:=@List.length_filter_le
abbrev Ci:=@Nat.le_of_ble_eq_true
abbrev GQ:=@List.of_mem_zip
abbrev GR:=@Nat.min_le_right
abbrev GU:=@List.filterMap_map
abbrev GV:=@List.forIn_cons
abbrev GW:=@Nat.le_of_succ_le
abbrev GX:=@Nat.lt_succ_of_lt
abbrev GY:=@List.cons_append
abbrev GZ:=@PySem.F.args_dict_get_3
abbrev G0:=@PySem.F.type_dict_get
abbrev G1:=@PySem.wpAny_pyIter_slot
abbrev G2:=@PySem.wpAny_typeNameOfWhole_keyiter
abbrev G3:=@PySem.wpAny_typeNameOf_keyiter
abbrev G4:=@Array.getElem?_eq_some_iff
abbrev G5:=@Array.getElem?_eq_getElem
abbrev G6:=@PySem.Obj.data_mapFields
abbrev G7:=@PySem.wpAny_pyIter_enum
abbrev G8:=@List.take_succ_cons
abbrev G9:=@List.length_pos_iff
abbrev G_:=@PySem.F.slot_tuple_iterator_next
abbrev Ha:=@PySem.AutoSeq1.wpAny_loadPart'
abbrev Hc:=@PySem.Around.under_plainId
abbrev Hd:=@PySem.F.slot_tuple_hash
abbrev He:=@PySem.eqIsQuiet_byValue
abbrev Hf:=@PySem.F.slot_NoneType_hash
abbrev Hg:=@PySem.wpAny_typeNameOfWhole_itemiter
abbrev Hh:=@PySem.wpAny_typeNameOf_itemiter
abbrev Hi:=@List.getLastD_cons
abbrev Hj:=@List.mem_iff_getElem?
abbrev Hk:=@List.map_eq_nil_iff
abbrev Hl:=@List.findIdx?_eq_some_iff_getElem
abbrev Hm:=@List.filter_cons
abbrev Hn:=@List.filter_sublist
abbrev Ho:=@forall_eq_or_imp
abbrev Hq:=@List.getD_cons_zero
abbrev Hr:=@List.getElem_mem
abbrev Hs:=@List.length_reverse
abbrev Ht:=@Nat.mul_le_mul_right
abbrev Hu:=@List.findSome?_eq_none_iff
abbrev Hw:=@List.contains_eq_mem
abbrev Hx:=@PySem.W.mapOf_K
abbrev Hy:=@Option.bind_some
abbrev Hz:=@Int.toNat_of_nonneg
abbrev HA:=@beq_false_of_ne
abbrev Sv:=@PySem.W.methodCall_KW
abbrev Sw:=@List.getElem?_take_of_lt
abbrev Sx:=@PySem.F.slot_tuple_add
abbrev Sy:=@PySem.F.entry_tuple_add
abbrev Sz:=@PySem.F.args_tuple_add_2
abbrev SD:=@PyProof.Rows.slot_tuple_getitem
abbrev SE:=@List.range_succ_eq_map
abbrev SF:=@PySem.F.args_dict_get_2
abbrev SG:=@Array.getElem?_eq_none
abbrev SH:=@List.getElem?_eq_none_iff
abbrev SI:=@List.exists_of_findSome?_eq_some
abbrev SJ:=@Option.bind_eq_some_iff
namespace L2
open PySem PySem.Spec PyProof.Rows
def dM:1<=sizeLine:=by decide
def iq:2<=sizeLine:=by decide
abbrev Key:=Sum Int Str
def qH:Key->ao->Bool
 | .inl k,v=>Value.isInt k v
 | .inr x,v=>Value.isStrOf x v
def HD(w:ah):Key->Int
 | .inl k=>hashInt k
 | .inr x=>hashStr w x
theorem nc:∀{k:Key} {v:ao},qH k v=true->(∃i t,k=Sum.inl i/\v=Value.int i t)\/(∃x t,k=Sum.inr x/\v=Value.str x t)
 | .inl i,v,h=>by obtain⟨t,e⟩:=Value.isInt_shape (k:=i) (v:=v) h;exact .inl ⟨i,t,rfl,e⟩
 | .inr x,v,h=>by obtain⟨t,e⟩:=Value.isStrOf_shape (x:=x) (v:=v) h;exact .inr ⟨x,t,rfl,e⟩
def S6(i:Int)(t:Tok):qH (.inl i) (.int i t)=true:=by simp[qH,Value.isInt]
def S7(x:Str)(t:Tok):qH (.inr x) (.str x t)=true:=by simp[qH,Value.isStrOf]
def S8(a b:Int):decide ((Sum.inl a:Key)=Sum.inl b)=(a==b):=by lia
def S9(a b:Str):decide ((Sum.inr a:Key)=Sum.inr b)=decide (a=b):=by simp[*]
def S_(a:Int)(b:Str):decide ((Sum.inl a:Key)=Sum.inr b)=false:=b7 (λq=>nomatch q)
def Ta(a:Str)(b:Int):decide ((Sum.inr a:Key)=Sum.inl b)=false:=b7 (λq=>nomatch q)
def fA(prog:af)(w:ah):PySem.KeyKind prog w Key where
 is:=qH
 hash:=HD w
 inj:=λv a b ha hb=>by
  rcases nc ha with⟨i,t,rfl,rfl⟩|⟨x,t,rfl,rfl⟩
  ·rcases nc hb with⟨j,u,rfl,e⟩|⟨y,u,rfl,e⟩
   ·simp_all
   exact nomatch e
  rcases nc hb with⟨j,u,rfl,e⟩|⟨y,u,rfl,e⟩
  ·exact nomatch e
  simp_all
 byValue:=λk v h=>by rcases nc h with⟨i,t,rfl,rfl⟩|⟨x,t,rfl,rfl⟩<;>rfl
 pyHash:=λhv h=>by
  rcases nc hv with⟨i,t,rfl,rfl⟩|⟨x,t,rfl,rfl⟩
  ·exact wpAny_pyHash_int h
  exact wpAny_pyHash_str h
 eqBool:=λhu hv h=>by
  rcases nc hu with⟨i,t,rfl,rfl⟩|⟨x,t,rfl,rfl⟩
  ·rcases nc hv with⟨j,u,rfl,rfl⟩|⟨y,u,rfl,rfl⟩
   ·rw[S8]at h;exact wpAny_eqBool_int h
   rw[S_]at h;exact SeqAt.EqAt.int_str i t y u _ _ _ _ h
  rcases nc hv with⟨j,u,rfl,rfl⟩|⟨y,u,rfl,rfl⟩
  ·rw[Ta]at h;exact SeqAt.EqAt.str_int x t j u _ _ _ _ h
  rw[S9]at h;exact wpAny_eqBool_str h
 «strs»:=λk x t v h=>by
  rcases nc h with⟨i,u,rfl,e⟩|⟨y,u,rfl,e⟩
  ·exact nomatch e
  injection e with e1 _;subst e1;cases v<;>rfl
def Tb(prog:af)(w:ah)(i:Int)(t:Tok):(fA prog w).is (.inl i) (.int i t)=true:=S6 i t
def Tc(prog:af)(w:ah)(x:Str)(t:Tok):(fA prog w).is (.inr x) (.str x t)=true:=S7 x t
inductive V where
 |aQ|bl (b:Bool)|int (i:Int)|str (x:Str)|gF (b:Array UInt8)|vO (b:UInt64)|ref (a:Addr)|ty (n:String)
 deriving DecidableEq
def RelV:V->ao->Prop
 | .aQ,u=>u=Value.none
 | .bl b,u=>u=Value.bool b
 | .int i,u=>∃t,u=Value.int i t
 | .str x,u=>∃t,u=Value.str x t
 | .gF b,u=>∃t,u=Value.bytes b t
 | .vO b,u=>∃t,u=Value.float b t
 | .ref a,u=>u=Value.ref a
 | .ty n,u=>u=Value.type n
abbrev aY:List V->List ao->Prop:=Paired RelV
theorem aY.length{xs:List V}{us:List ao}(r:aY xs us):xs.length=us.length:=bZ r
theorem aY.get:∀{xs:List V} {us:List ao} {i:Nat} {x:V},aY xs us->xs[i]?=some x->∃u,us[i]?=some u/\RelV x u
 |_,_,_,_,.nil,e=>by simp at e
 |_,_,0,_,.cons r _,e=>by simp at e;subst e;exact⟨_,rfl,r⟩
 |_,_,i+1,x,.cons _ t,e=>by obtain⟨u,h1,h2⟩:=aY.get (i:=i) (x:=x) t (by simpa using e);exact⟨u,by assumption,h2⟩
theorem aY.set(r:RelV x u):∀{xs:List V} {us:List ao} (i:Nat),aY xs us->aY (xs.set i x) (us.set i u)
 |_,_,_,.nil=>.nil
 |_,_,0,.cons _ t=>.cons r t
 |_,_,i+1,.cons q t=>.cons q (aY.set r i t)
theorem aY.append:∀{xs ys:List V} {us ws:List ao},aY xs us->aY ys ws->aY (xs++ys) (us++ws)
 |_,_,_,_,.nil,s=>s
 |_,_,_,_,.cons r t,s=>.cons r (aY.append t s)
theorem aY.take:∀{xs:List V} {us:List ao} (n:Nat),aY xs us->aY (xs.take n) (us.take n)
 |_,_,0,_=>.nil
 |_,_,_+1,.nil=>.nil
 |_,_,n+1,.cons r t=>.cons r (aY.take n t)
theorem aY.drop:∀{xs:List V} {us:List ao} (n:Nat),aY xs us->aY (xs.drop n) (us.drop n)
 |_,_,0,r=>r
 |_,_,_+1,.nil=>.nil
 |_,_,n+1,.cons _ t=>aY.drop n t
def aY.none_of:∀{xs:List V} {us:List ao} {i:Nat},aY xs us->xs[i]?=none->us[i]?=none:=λ{xs us i} r e=>by have h1:=r.length;simp_all
def gp:Option V->Option ao->Prop
 |some v,some u=>RelV v u
 |none,none=>True
 |_,_=>False
def KV{κ:Type}:List (κ×V)->List (κ×ao)->Prop:=Paired λ(p:κ×V) (q:κ×ao)=>p.1=q.1/\RelV p.2 q.2
def kV:Key->V
 | .inl i=>.int i
 | .inr x=>.str x
inductive HO where
 |lst (xs:List V)
 |tup (xs:List V)
 |dK (kvs:List (Key×V))|dT (kvs:List (List Key×V))
 |set (S:Int->Bool) (n:Nat)
 |ins (C dx:Addr) (fs:List (Str×V))
 |own (x:Addr)
 |xd (fs:List (Str×V))
 |met (f x:Addr)
 |Co (lo hi:Int)
 |cB (o:Obj) (u:HO)
 |qI (ps:Array ao)
 |ext (φ:Heap->Prop)
abbrev Hp:=Addr->Option HO
def upd(H:Hp)(a:Addr)(o:HO):Hp:=λb=>if b=a then some o else H b
def aA:upd H a o a=some o:=by unfold upd;rw[aD rfl]
def ay{H:Hp}{a b:Addr}{o:HO}(h:b≠a):upd H a o b=H b:=by unfold upd;rw[az h]
def e8:upd (upd H a o) a u=upd H a u:=by funext b;unfold upd;simp_all
def e9{H:Hp}{a b:Addr}{o u:HO}(h:H a=some o)(h':H b=some u)(d:o≠u):a≠b:=by lia
def bz{H:Hp}{a b:Addr}{o:HO}(h:H a=some o)(h':H b=none):a≠b:=by lia
section
variable(P:af)(w:ah)
def cP(H:Hp)(h:Heap)(a:Addr):HO->Prop
 | .lst xs=>xs.length<=sizeLine/\∃(its:List ao) (n:Nat),aY xs its/\h.get? a=some {cls:=.type "list",data:=.seq its.toArray n}
 | .tup xs=>xs.length<=sizeLine/\∃its:List ao,aY xs its/\IsTup h a its.toArray
 | .dK kvs=>kvs.length<=sizeLine/\(a==sysModules)=false/\∃vs,KV kvs vs/\h.DictOf (fA P w) a vs
 | .dT kvs=>kvs.length<=sizeLine/\(a==sysModules)=false/\∃xs:List (List Key×Addr×ao),
   Paired (λ(p:List Key×V) (q:List Key×Addr×ao)=>p.1=q.1/\H q.2.1=some (.tup (p.1.map kV))/\RelV p.2 q.2.2) kvs xs/\
   ∃o es ep,h.get? a=some o/\o.ExactDict/\o.data= .dict es ep/\es.toList=xs.map (entryOfKey (tupleKind (fA P w)))/\(xs.map (·.1)).Nodup
 | .set S n=>h.SetOf (intKind P w) a S n
 | .ins C dx fs=>H dx=some (.own a)/\fs.length<=1000/\dx≠a/\h.get? a=some (PySem.W.instObj C dx)/\
   ∃mA,h.Ns1 dx mA/\(∀f,gp (fs.lookup f) (mA f))/\PySem.Within mA (fs.map (·.1))
 | .own _=>∃o,h.get? a=some o
 | .xd fs=>∃mA,h.Ns1 a mA/\∀f,gp (fs.lookup f) (mA f)
 | .Co lo hi=>∃t u v,h.get? a=some {cls:=.type "range",data:=.fields #[.int lo t,.int hi u,.int 1 v]}
 | .cB o u=>h.get? a=some o/\cP H h a u
 | .qI ps=>h.get? a=some {cls:=.none,data:=.fields ps}
 | .met f x=>h.get? a=some (PySem.W.methodObj (.ref f) (.ref x))
 | .ext φ=>φ h/\(∃o,h.get? a=some o)/\∀h1 h2:Heap,φ h1->(∀o,h1.get? a=some o->h2.get? a=some o)->φ h2
def cQ(H:Hp)(h:Heap):Prop:=∀a o,H a=some o->cP P w H h a o
end
theorem cP.lt(x:cP P w H h a o):a<h.objs.size:=by
 cases o with
 |lst xs=>obtain⟨_,_,_,_,e⟩:=x;exact bK e
 |tup xs=>obtain⟨_,_,_,p⟩:=x;exact p.lt
 |dK kvs=>obtain⟨_,_,_,_,o,_,_,e,_⟩:=x;exact bK e
 |dT kvs=>obtain⟨_,_,_,_,o,_,_,e,_⟩:=x;exact bK e
 |set S n=>obtain⟨o,_,_,_,e,_⟩:=x;exact bK e
 |ins C dx fs=>obtain⟨_,_,_,e,_⟩:=x;exact bK e
 |own y=>obtain⟨_,e⟩:=x;exact bK e
 |xd fs=>obtain⟨_,⟨_,_,_,e,_⟩,_⟩:=x;exact bK e
 |Co lo hi=>obtain⟨_,_,_,e⟩:=x;exact bK e
 |cB ob u=>obtain⟨e,_⟩:=x;exact bK e
 |qI ps=>exact bK (show h.get? a=some _ from x)
 |met f y=>exact bK (show h.get? a=some _ from x)
 |ext φ=>obtain⟨_,⟨_,e⟩,_⟩:=x;exact bK e
theorem Paired.cj{α β:Type}{F G:α->β->Prop}:∀{l₁:List α} {l₂:List β},Paired F l₁ l₂->(∀a b,F a b->G a b)->Paired G l₁ l₂
 |_,_,.nil,_=>.nil
 |_,_,.cons r t,f=>.cons (f _ _ r) (Paired.cj t f)
def cP.dG(x:cP P w H h a o)(k:∀b u,(b=a\/H b=some (.own a))->h.get? b=some u->h'.get? b=some u)
  (ho:∀b,H b=some (.own a)->H' b=some (.own a))(ht:∀b xs,H b=some (.tup xs)->H' b=some (.tup xs)):cP P w H' h' a o:=by
 induction o with
 |lst xs=>obtain⟨z,its,n,r,e⟩:=x;exact⟨z,its,n,r,k _ _ (.inl rfl) e⟩
 |tup xs=>obtain⟨z,its,r,ob,e,c⟩:=x;exact⟨z,its,r,ob,k _ _ (.inl rfl) e,c⟩
 |dK kvs=>obtain⟨z,y,vs,r,ob,es,ep,e,c⟩:=x;exact⟨z,y,vs,r,ob,es,ep,k _ _ (.inl rfl) e,c⟩
 |dT kvs=>obtain⟨z,y,xs,r,ob,es,ep,e,c⟩:=x;exact⟨z,y,xs,Paired.cj r λp q z=>⟨z.1,ht _ _ z.2.1,z.2.2⟩,ob,es,ep,k _ _ (.inl rfl) e,c⟩
 |set S n=>obtain⟨ob,es,ep,t,e,c⟩:=x;exact⟨ob,es,ep,t,k _ _ (.inl rfl) e,c⟩
 |ins C dx fs=>obtain⟨d,z,ne,e,mA,⟨od,es,ep,e2,c⟩,r⟩:=x;exact⟨ho _ d,z,ne,k _ _ (.inl rfl) e,mA,⟨od,es,ep,k _ _ (.inr d) e2,c⟩,r⟩
 |own y=>obtain⟨ob,e⟩:=x;exact⟨ob,k _ _ (.inl rfl) e⟩
 |xd fs=>obtain⟨mA,⟨od,es,ep,e,c⟩,r⟩:=x;exact⟨mA,⟨od,es,ep,k _ _ (.inl rfl) e,c⟩,r⟩
 |Co lo hi=>obtain⟨t,u,v,e⟩:=x;exact⟨t,u,v,k _ _ (.inl rfl) e⟩
 |cB ob u ih=>obtain⟨e,q⟩:=x;exact⟨k _ _ (.inl rfl) e,ih q⟩
 |qI ps=>have e:h.get? a=some {cls:=.none,data:=.fields ps}:=x;show h'.get? a=some {cls:=.none,data:=.fields ps};exact k a _ (.inl rfl) e
 |met f y=>have e:h.get? a=some (PySem.W.methodObj (.ref f) (.ref y)):=x;show h'.get? a=some (PySem.W.methodObj (.ref f) (.ref y));exact k a _ (.inl rfl) e
 |ext φ=>obtain⟨p,⟨o,e⟩,st⟩:=x;exact⟨st _ _ p λo q=>k _ _ (.inl rfl) q,⟨o,k _ _ (.inl rfl) e⟩,st⟩
theorem cQ.lt(x:cQ P w H h)(e:H a=some o):a<h.objs.size:=(x a o e).lt
def cQ.fresh(x:cQ P w H h)(e:h.objs.size<=a):H a=none:=by
 cases q:H a with
 |none=>rfl
 |some u=>exact absurd (ig (x.lt q) e) (mW _)
def cQ.kept(x:cQ P w H h)(k:∀b u,h.get? b=some u->h'.get? b=some u):cQ P w H h':=λa o e=>
 (x a o e).dG (λb u _ q=>k b u q) (λ_ q=>q) λ_ _ q=>q
def cQ.laid(x:cQ P w H h)(k:∀b u,h.get? b=some u->h'.get? b=some u)(hp:h.objs.size<=a)(new:cP P w (upd H a o) h' a o):cQ P w (upd H a o) h':=λb u e=>by
 have hn:=x.fresh hp;by_cases hb:b=a
 ·subst hb;rw[aA]at e;cases e;exact new
 rw[ay hb]at e;exact(x b u e).dG (λc v _ q=>k c v q) (λc q=>by rw[ay (bz q hn)];exact q) λc xs q=>by rw[ay (bz q hn)];exact q
def Rd(H:Hp)(a:Addr)(u:HO):Prop:=H a=some u\/∃o,H a=some (.cB o u)
def Rd.ok{P:af}{w:ah}{H:Hp}{h:Heap}{a:Addr}{u:HO}(r:Rd H a u)(x:cQ P w H h):cP P w H h a u:=by
 rcases r with r|⟨o,r⟩
 ·exact x a u r
 obtain⟨_,q⟩:=x a _ r;exact q
def oP:Option HO->Prop
 |some (.lst _)=>True
 |some (.dK _)=>True
 |some (.dT _)=>True
 |some (.set _ _)=>True
 |some (.ins _ _ _)=>True
 |some (.ext _)=>True
 |_=>False
def cQ.write(ok:cQ P w H h)(mu:oP (H x))(he:e=x\/H e=some (.own x))(k:∀b u,b≠e->h.get? b=some u->h'.get? b=some u)(vP:∃u,h'.get? e=some u)
  (new:cP P w (upd H x o') h' x o'):cQ P w (upd H x o') h':=λb u q=>by
 have Td:∀c y,H c=some (.own y)->c≠x:=λc y r z=>by subst z;rw[r]at mu;exact mu
 have Tf:∀c xs,H c=some (.tup xs)->c≠x:=λc xs r z=>by subst z;rw[r]at mu;exact mu
 by_cases hb:b=x
 ·subst hb;rw[aA]at q;cases q;exact new
 rw[ay hb]at q;by_cases HE:b=e
 ·have q':H b=some (.own x):=by lia
  rw[q]at q';cases q';obtain⟨v,hv⟩:=vP;exact⟨v,by rw[HE];exact hv⟩
 refine(ok b u q).dG (λc v hc r=>k c v ?_ r) (λc r=>by rw[ay (Td c b r)];exact r) λc xs r=>by rw[ay (Tf c xs r)];exact r
 rcases hc with rfl|hc
 ·exact HE
 rintro rfl;simp_all
structure Un(fs ex:List Addr)(H H':Hp)(h h':Heap):Prop where
 keep:∀b o,h.get? b=some o->H b=none->b∉fs->b∉ex->h'.get? b=some o
 slot:∀b o,h.get? b=some o->H b=none->b∈fs->b∉ex->∃sl,h'.get? b=some {o with slots:=sl}
 free:∀b o,h.get? b=some o->H b=none->b∉ex->H' b=none
 there:∀b o,h.get? b=some o->b∉ex->∃o',h'.get? b=some o'
 i0:∀b xs,H b=some (.tup xs)->H' b=some (.tup xs)
 lg:∀b o u,H b=some (.cB o u)->H' b=some (.cB o u)
 ng:∀b ps,H b=some (.qI ps)->∃more,H' b=some (.qI (ps++more))
def Un.any(u:Un fs ex H H1 h h1){b:Addr}{ob:Obj}(q:h.get? b=some ob)(n:H b=none)(hx:b∉ex):∃sl,h1.get? b=some {ob with slots:=sl}:=by
 by_cases hb:b∈fs
 ·exact u.slot b ob q n hb hx
 exact⟨ob.slots,u.keep b ob q n hb hx⟩
def Un.kept(k:∀b u,h.get? b=some u->h'.get? b=some u):Un fs ex H H h h':=
 ⟨λb ob q _ _ _=>k b ob q,λb ob q _ _ _=>⟨ob.slots,k b ob q⟩,λ_ _ _ n _=>n,λb ob q _=>⟨ob,k b ob q⟩,λ_ _ q=>q,λ_ _ _ q=>q,λ_ ps q=>⟨#[],by assumption⟩⟩
def Un.refl:Un fs ex H H h h:=Un.kept λ_ _ q=>q
def Un.laid(k:∀b u,h.get? b=some u->h'.get? b=some u)(hp:h.objs.size<=a)(hn:H a=none):Un fs ex H (upd H a o) h h' where
 keep:=λb u q _ _ _=>k b u q
 slot:=λb u q _ _ _=>⟨u.slots,k b u q⟩
 free:=λb u q n _=>by rw[ay (dP (ig (bK q) hp))];exact n
 there:=λb u q _=>⟨u,k b u q⟩
 i0:=λb xs q=>by rw[ay (bz q hn)];exact q
 lg:=λb u xs q=>by rw[ay (bz q hn)];exact q
 ng:=λb ps q=>⟨#[],by rw[ay (bz q hn),q];simp⟩
def Un.write(mu:oP (H x))(he:e=x\/H e=some (.own x))(k:∀b u,b≠e->h.get? b=some u->h'.get? b=some u)(vP:∃u,h'.get? e=some u):Un fs ex H (upd H x o) h h':=by
 have hx:∀b,H b=none->b≠x:=λb n z=>by subst z;rw[n]at mu;exact mu
 have hb:∀b,H b=none->b≠e:=λb n z=>by simp_all
 have hm:∀b u,H b=some u->¬oP (some u)->b≠x:=λb u q nm z=>by subst z;simp_all
 refine⟨λb u q n _ _=>k b u (hb b n) q,λb u q n _ _=>⟨u.slots,k b u (hb b n) q⟩,λb u q n _=>by rw[ay (hx b n)];exact n,λb u q _=>?_,
  λb xs q=>by rw[ay (hm b _ q λz=>z)];exact q,λb u xs q=>by rw[ay (hm b _ q λz=>z)];exact q,λb ps q=>⟨#[],by rw[ay (hm b _ q λz=>z),q];simp⟩⟩
 grind
def zd(h:Heap)(H:Hp):List Addr:=(List.range h.objs.size).filter λa=>(H a).isSome
def nh(h:Heap)(H:Hp):Heap:=PySem.W.hideAll h (zd h H)
def Tg(h:Heap)(H:Hp):(nh h H).objs.size=h.objs.size:=PySem.W.hideAll_size _ _
def Th(e:h.get? b=some o)(n:H b=none):(nh h H).get? b=some o:=
 PySem.W.hideAll_get _ e λhm=>by have q:(H b).isSome=true:=(tF.mp hm).2;simp_all
def Ti(e:(nh h H).get? b=some o):h.get? b=some o/\H b=none:=by
 have e':h.get? b=some o:=PySem.W.of_hideAll (zd h H) e;refine⟨e',?_⟩;cases q:H b with
 |none=>rfl
 |some x=>have hm:b∈zd h H:=tF.mpr ⟨List.mem_range.mpr (bK e'),by simp[q]⟩;have z:(nh h H).get? b=none:=PySem.W.hideAll_none (zd h H) hm;simp_all
structure Mod(K:aa)(mg:Str->Option ao)(base:Heap):Prop where
 vQ:K.In base
 glob:base.Ns mainGlobals mg
 blt:∃mb,base.Ns builtinsNs mb/\∀x:Str,x≠"__name__"->mb x=bootBuiltins x
 nolimit:base.NoLimit
structure Cx where
 prog:af
 w:ah
 K:aa
 mg:Str->Option ao
 base:Heap
 A:ai
 N:List Str
 gq:ae
 qJ:Hp
 env:Env
 outer:List Env
 stack:List Env
 ex:List Addr
 fn:Str->Bool
 calm:Bool
 pn:List (Addr×Obj)
 xe:ao->ae->Prop
def lh(l:List Env):List Addr:=l.filterMap (·.frame)
abbrev Cx.fs(X:Cx):List Addr:=lh X.outer
def tT(sc:Scope)(x:Str):Prop:=sc.names.lookup x=some .local\/sc.names.lookup x=some .cell\/sc.names.lookup x=some .free
def Loc(sc:Scope)(x:Str):Prop:=sc.names.lookup x=some .local\/sc.names.lookup x=some .cell
def Look(env:Env)(h:Heap)(m:Str->Option ao)(x:Str)(u:ao):Prop:=
 (env.kindOf x=some .local/\m x=some u)\/((env.kindOf x=some .cell\/env.kindOf x=some .free)/\∃c,env.cells.lookup x=some c/\h.IsCell c (some u))
structure Cx.Ok(X:Cx):Prop where
 mod:Mod X.K X.mg X.base
 kind:X.env.scope.kind= .function
 glob:X.env.globals=mainGlobals
 blt:X.env.builtins=builtinsNs
 above:X.gq.heap.objs.size<=X.env.locals
 inj:∀x y c,X.env.cells.lookup x=some c->X.env.cells.lookup y=some c->x=y
 has:∀x,(X.env.kindOf x=some .cell\/X.env.kindOf x=some .free)->∃c,X.env.cells.lookup x=some c
 vR:∀x c,X.fn x=true->X.env.cells.lookup x=some c->X.gq.heap.objs.size<=c
 hd:X.calm=true->X.A.handled=none
 frames:X.A.frames=some X.stack
 ze:X.stack=X.outer\/(X.stack=X.env::X.outer/\X.env.frame=some X.env.locals)
 zf:∀b∈X.ex,b≠X.env.locals/\∀x c,X.env.cells.lookup x=some c->c≠b
 bs:∀b o,X.base.get? b=some o->X.gq.heap.get? b=some o/\X.qJ b=none
 mf:X.base.objs.size<=X.gq.heap.objs.size
 vS:∀b o,X.base.get? b=some o->b∉X.ex
 vT:∀b∈X.ex,b∉X.fs
 jU:X.gq.heap.FunFrames X.base X.outer
 qK:∀b∈X.fs,X.qJ b=none
structure Inv(X:Cx)(pins:List (Addr×Obj))(σ:List (Option V))(H:Hp)(s:ae):Prop where
 ok:X.Ok
 os:s.os=X.gq.os
 bare:AllBare s.gens
 base:Un X.fs X.ex X.qJ H X.gq.heap s.heap
 loc:∃m,s.heap.Ns X.env.locals m/\∀(i:Nat) (x:Str) (v:V),X.N[i]?=some x->σ[i]?=some (some v)->tT X.env.scope x->∃u,RelV v u/\Look X.env s.heap m x u
 cell:∀x c,X.env.cells.lookup x=some c->∃v,s.heap.IsCell c v
 free:H X.env.locals=none
 jt:∀x c,X.env.cells.lookup x=some c->H c=none
 pin:∀p∈X.pn++pins,s.heap.get? p.1=some p.2/\H p.1=none/\p.1≠X.env.locals/\p.1∉X.fs/\∀v,p.2.data≠ .cell v
 aK:cQ X.prog X.w H s.heap
 len:σ.length=X.N.length
section
variable{X:Cx}{pins:List (Addr×Obj)}{σ:List (Option V)}{H H':Hp}{s:ae}{h':Heap}
theorem Cx.Ok.Tj(ok:X.Ok)(e:X.base.get? b=some o):b∉X.fs:=λhb=>by have:=(ok.jU.mem hb).1;lia
theorem Inv.bs(I:Inv X pins σ H s):∀b o,X.base.get? b=some o->s.heap.get? b=some o/\H b=none:=λb o e=>
 ⟨I.base.keep b o (I.ok.bs b o e).1 (I.ok.bs b o e).2 (I.ok.Tj e) (I.ok.vS b o e),I.base.free b o (I.ok.bs b o e).1 (I.ok.bs b o e).2 (I.ok.vS b o e)⟩
def Inv.bk(I:Inv X pins σ H s):∀b o,X.base.get? b=some o->s.heap.get? b=some o:=λb o e=>(I.bs b o e).1
theorem Inv.mod(I:Inv X pins σ H s):Mod X.K X.mg X.base:=I.ok.mod
def Inv.gr(I:Inv X pins σ H s):X.K.In s.heap:=I.ok.mod.vQ.keeps I.bk
def Inv.fr(I:Inv X pins σ H s):∃m,Fr X.base X.env.locals s.heap m:=
 let⟨m,hn,_⟩:=I.loc
 ⟨m,hn,I.bk,cF I.ok.mf I.ok.above⟩
theorem Inv.lt(I:Inv X pins σ H s):X.env.locals<s.heap.objs.size:=let⟨_,hn,_⟩:=I.loc;hn.lt
def Inv.sz(I:Inv X pins σ H s):X.gq.heap.objs.size<=s.heap.objs.size:=cF I.ok.above (gN I.lt)
theorem Inv.Tn(I:Inv X pins σ H s)(h:s.heap.objs.size<=a):a∉X.fs:=λhb=>by obtain⟨_,o,ho,_⟩:=I.ok.jU.mem hb;exact absurd (ig (bK ho) (cF I.sz h)) (mW _)
theorem Inv.qL(I:Inv X pins σ H s):∀x c,X.env.cells.lookup x=some c->c≠X.env.locals:=λx c e z=>by obtain⟨v,o,ho,hd⟩:=I.cell x c e;obtain⟨m,⟨o',es,ep,g8,gu,_⟩,_⟩:=I.loc;simp_all
theorem Inv.jU(I:Inv X pins σ H s):s.heap.FunFrames X.base X.outer:=by
 have all:∀(l:List Env),(∀b∈lh l,b∈X.fs)->X.gq.heap.FunFrames X.base l->s.heap.FunFrames X.base l:=by
  intro l;induction l with
  |nil=>intro _ _;trivial
  |cons env r ih=>intro hs hl;obtain⟨hk,⟨L,o,hf,hn,ho,hd⟩,hr⟩:=hl;have hL:L∈X.fs:=hs L (by unfold lh;simp[*]);obtain⟨sl,e⟩:=I.base.slot L o ho (I.ok.qK L hL) hL λz=>I.ok.vT L z hL;exact⟨hk,⟨L,_,hf,hn,e,hd⟩,ih (λb hb=>hs b (by unfold lh;rw[tG,hf];exact bU _ hb)) hr⟩
 exact all X.outer (λ_ hb=>hb) I.ok.jU
theorem Inv.stack(I:Inv X pins σ H s):s.heap.FunFrames X.base X.stack:=by
 rcases I.ok.ze with e|⟨e,hf⟩
 ·rw[e];exact I.jU
 rw[e];obtain⟨m,hn,_⟩:=I.loc;refine .cons (by rw[I.ok.kind];decide) hf hn ?_ I.jU;exact Heap.get?_none_of_le (cF I.ok.mf I.ok.above)
theorem Inv.Cp(I:Inv X pins σ H s):∀b∈lh X.stack,b∈X.env.locals::X.fs:=λb hb=>by
 rcases I.ok.ze with e|⟨e,hf⟩
 ·simp_all
 rw[e]at hb;unfold lh at hb;rw[tG,hf]at hb;exact hb
theorem Inv.HF(I:Inv X pins σ H s):∀b∈lh X.stack,H b=none:=λb hb=>by
 rcases be.mp (I.Cp b hb)with e|hb
 ·rw[e];exact I.free
 obtain⟨_,o,ho,_⟩:=I.ok.jU.mem hb;exact I.base.free b o ho (I.ok.qK b hb) λz=>I.ok.vT b z hb
def Inv.step{g':Array GenState}{t':Nat}{d':Drawn}{ch:List Addr}(I:Inv X pins σ H s)
  (mh:∀b∈ch,(b∈X.ex\/X.gq.heap.objs.size<=b)/\b≠X.env.locals/\(∀x c,X.env.cells.lookup x=some c->c≠b)/\∀p∈X.pn++pins,p.1≠b)
  (keep:∀b o,b≠X.env.locals->b∉X.fs->b∉ch->s.heap.get? b=some o->H b=none->h'.get? b=some o)
  (slot:∀b o,b≠X.env.locals->b∈X.fs->b∉ch->s.heap.get? b=some o->H b=none->∃sl,h'.get? b=some {o with slots:=sl})(free:∀b o,b∉ch->s.heap.get? b=some o->H b=none->H' b=none)
  (there:∀b o,b∉ch->s.heap.get? b=some o->∃o',h'.get? b=some o')
  (i0:∀b xs,H b=some (.tup xs)->H' b=some (.tup xs))(lg:∀b o u,H b=some (.cB o u)->H' b=some (.cB o u))(ng:∀b ps,H b=some (.qI ps)->∃more,H' b=some (.qI (ps++more)))
  (ns:∀m,s.heap.Ns X.env.locals m->h'.Ns X.env.locals m)(aK:cQ X.prog X.w H' h')(hg:AllBare g'):
  Inv X pins σ H' {s with heap:=h',gens:=g',drawn:=d',toks:=t'}:=by
 have HG:∀b o,X.gq.heap.get? b=some o->b≠X.env.locals:=λb o e=>dP (ig (bK e) I.ok.above);have zg:∀b o,X.gq.heap.get? b=some o->b∉X.ex->b∉ch:=λb o e hx hb=>by
  rcases(mh b hb).1 with z|z
  ·exact hx z
  exact absurd (ig (bK e) z) (mW _)
 have cellK:∀x c,X.env.cells.lookup x=some c->∀v,s.heap.IsCell c v->h'.IsCell c v:=λx c e v ⟨o,ho,hd⟩=>by
  have vU:c∉ch:=λz=>(mh c z).2.2.1 x c e rfl;by_cases hc:c∈X.fs
  ·obtain⟨sl,q⟩:=slot c o (I.qL x c e) hc vU ho (I.jt x c e);exact⟨_,q,hd⟩
  exact⟨o,keep c o (I.qL x c e) hc vU ho (I.jt x c e),hd⟩
 refine⟨I.ok,I.os,hg,⟨λb o e n hb hx=>?_,λb o e n hb hx=>?_,λb o e n hx=>?_,λb o e hx=>?_,λb xs e=>i0 b xs (I.base.i0 b xs e),λb o xs e=>lg b o xs (I.base.lg b o xs e),λb ps e=>?_⟩,?_,λx c e=>?_,?_,λx c e=>?_,λp hp=>?_,aK,I.len⟩
 ·exact keep b o (HG b o e) hb (zg b o e hx) (I.base.keep b o e n hb hx) (I.base.free b o e n hx)
 ·obtain⟨sl,e1⟩:=I.base.slot b o e n hb hx;obtain⟨To,e2⟩:=slot b _ (HG b o e) hb (zg b o e hx) e1 (I.base.free b o e n hx);exact⟨To,e2⟩
 ·obtain⟨o',e1⟩:=I.base.there b o e hx;exact free b o' (zg b o e hx) e1 (I.base.free b o e n hx)
 ·obtain⟨o',e1⟩:=I.base.there b o e hx;exact there b o' (zg b o e hx) e1
 ·obtain⟨m1,e1⟩:=I.base.ng b ps e;obtain⟨m2,e2⟩:=ng b _ e1;exact⟨m1++m2,by simp[*]⟩
 ·obtain⟨m,hn,hl⟩:=I.loc
  refine⟨m,ns m hn,λi x v e1 e2 e3=>?_⟩;obtain⟨u,r,l⟩:=hl i x v e1 e2 e3;refine⟨u,r,?_⟩;rcases l with l|⟨k,c,e,z⟩
  ·exact .inl l
  exact .inr ⟨k,c,e,cellK x c e _ z⟩
 ·obtain⟨v,z⟩:=I.cell x c e;exact⟨v,cellK x c e v z⟩
 ·obtain⟨m,⟨o,_,_,ho,_⟩,_⟩:=I.loc;exact free _ o (λz=>(mh _ z).2.1 rfl) ho I.free
 ·obtain⟨v,o,ho,hd⟩:=I.cell x c e;exact free c o (λz=>(mh c z).2.2.1 x c e rfl) ho (I.jt x c e)
 obtain⟨e,n,ne,nf,d⟩:=I.pin p hp;have vU:p.1∉ch:=λz=>(mh p.1 z).2.2.2 p hp rfl
 exact⟨keep p.1 p.2 ne nf vU e n,free p.1 p.2 vU e n,ne,nf,d⟩
def Inv.un{t':Nat}(I:Inv X pins σ H s)(u:Un X.fs [] H H' s.heap h')(aK:cQ X.prog X.w H' h'):Inv X pins σ H' {s with heap:=h',toks:=t'}:=by obtain⟨m,⟨o,es,ep,ho,r⟩,_⟩:=id I.loc;obtain⟨sl,hL⟩:=u.any ho I.free (by simp);exact I.step (g':=s.gens) (d':=s.drawn) (ch:=[]) (λ_ z=>nomatch z) (λb o _ hb _ e n=>u.keep b o e n hb (by simp)) (λb o _ hb _ e n=>u.slot b o e n hb (by simp)) (λb o _ e n=>u.free b o e n (by simp)) (λb o _ e=>u.there b o e (by simp)) u.i0 u.lg u.ng (λm' hm=>by obtain⟨o',jV,oQ,g8,r'⟩:=hm;rw[ho]at g8;cases g8;exact⟨_,jV,oQ,hL,r'⟩) aK I.bare
def Inv.call{g':Array GenState}{t':Nat}{d':Drawn}{ch:List Addr}(I:Inv X pins σ H s)(u:Un (lh X.stack) ch H H' s.heap h')(aK:cQ X.prog X.w H' h')(hg:AllBare g')
  (mh:∀b∈ch,(b∈X.ex\/X.gq.heap.objs.size<=b)/\b≠X.env.locals/\(∀x c,X.env.cells.lookup x=some c->c≠b)/\∀p∈X.pn++pins,p.1≠b):
  Inv X pins σ H' {s with heap:=h',gens:=g',drawn:=d',toks:=t'}:=by
 obtain⟨m,⟨o,es,ep,ho,r⟩,_⟩:=id I.loc;obtain⟨sl,hL⟩:=u.any ho I.free λz=>(mh _ z).2.1 rfl
 exact I.step (ch:=ch) mh (λb o hL hb hc e n=>u.keep b o e n (λz=>(be.mp (I.Cp b z)).elim hL hb) hc) (λb o _ _ hc e n=>u.any e n hc) (λb o hc e n=>u.free b o e n hc) (λb o hc e=>u.there b o e hc) u.i0 u.lg u.ng (λm' hm=>by obtain⟨o',jV,oQ,g8,r'⟩:=hm;rw[ho]at g8;cases g8;exact⟨_,jV,oQ,hL,r'⟩) aK hg
theorem Inv.turned{t':Nat}{it:Addr}(I:Inv X pins σ H s)(k:∀b o,b≠it->s.heap.get? b=some o->h'.get? b=some o)(hn:H it=none)(hL:it≠X.env.locals)
  (h1:it∈X.ex\/X.gq.heap.objs.size<=it)(h2:∀x c,X.env.cells.lookup x=some c->c≠it)(h3:∀p∈X.pn++pins,p.1≠it):Inv X pins σ H {s with heap:=h',toks:=t'}:=by
 have oR:∀b u,H b=some u->b≠it:=λb u e z=>by simp_all
 refine I.step (g':=s.gens) (d':=s.drawn) (ch:=[it]) (λb hb=>?_) (λb o _ _ hc e _=>k b o (λz=>hc (by simp[z])) e) (λb o _ _ hc e _=>⟨o.slots,k b o (λz=>hc (by simp[z])) e⟩) (λ_ _ _ _ n=>n)
  (λb o hc e=>⟨o,k b o (λz=>hc (by simp[z])) e⟩) (λ_ _ e=>e) (λ_ _ _ e=>e) (λb ps e=>⟨#[],by assumption⟩) (λm hm=>?_) (λb u e=>?_) I.bare
 ·have e:b=it:=by simpa using hb
  subst e;exact⟨h1,hL,h2,h3⟩
 ·obtain⟨o,es,ep,ho,r⟩:=hm;exact⟨o,es,ep,k _ o (aO hL) ho,r⟩
 refine(I.aK b u e).dG (λc v hc q=>k c v ?_ q) (λ_ q=>q) λ_ _ q=>q;rcases hc with z|z
 ·rw[z];exact oR b u e
 exact oR c _ z
theorem Inv.tok(I:Inv X pins σ H s)(t:Nat):Inv X pins σ H {s with toks:=t}:=I.un (h':=s.heap) (t':=t) Un.refl I.aK
theorem Inv.kept{t':Nat}(I:Inv X pins σ H s)(k:∀b u,s.heap.get? b=some u->h'.get? b=some u):Inv X pins σ H {s with heap:=h',toks:=t'}:=I.un (Un.kept k) (I.aK.kept k)
theorem Inv.laid{a:Addr}{o:HO}{t':Nat}(I:Inv X pins σ H s)(k:∀b u,s.heap.get? b=some u->h'.get? b=some u)(hp:s.heap.objs.size<=a)(new:cP X.prog X.w (upd H a o) h' a o):
  Inv X pins σ (upd H a o) {s with heap:=h',toks:=t'}:=I.un (Un.laid k hp (I.aK.fresh hp)) (I.aK.laid k hp new)
theorem Inv.write(I:Inv X pins σ H s)(mu:oP (H x))(he:e=x\/H e=some (.own x))(k:∀b u,b≠e->s.heap.get? b=some u->h'.get? b=some u)(vP:∃u,h'.get? e=some u)
  (new:cP X.prog X.w (upd H x o) h' x o):Inv X pins σ (upd H x o) {s with heap:=h',toks:=t'}:=I.un (Un.write mu he k vP) (I.aK.write mu he k vP new)
def Inv.weak{σ':List (Option V)}(I:Inv X pins σ H s)(hl:σ'.length=σ.length)(w:∀(i:Nat) v,σ'[i]?=some (some v)->σ[i]?=some (some v)):Inv X pins σ' H s:=
 ⟨I.ok,I.os,I.bare,I.base,let⟨m,hn,qM⟩:=I.loc;⟨m,hn,λi x v e1 e2 e3=>qM i x v e1 (w i v e2) e3⟩,I.cell,I.free,I.jt,I.pin,I.aK,hl.trans I.len⟩
def Inv.HH(I:Inv X pins σ H s)(h:∀p∈Tp,s.heap.get? p.1=some p.2/\H p.1=none/\p.1≠X.env.locals/\p.1∉X.fs/\∀v,p.2.data≠ .cell v):Inv X Tp σ H s:=
 ⟨I.ok,I.os,I.bare,I.base,I.loc,I.cell,I.free,I.jt,λp hp=>(gO.mp hp).elim (λz=>I.pin p (BO _ z)) (h p),I.aK,I.len⟩
theorem Cq{N:List Str}(hN:N.Nodup){i j:Nat}{x:Str}(a:N[i]?=some x)(b:N[j]?=some x):i=j:=by obtain⟨h1,e1⟩:=dq.mp a;obtain⟨h2,e2⟩:=dq.mp b;exact(List.getElem_inj hN).mp (e1.trans e2.symm)
theorem HI{M:Model}{A:ai}{E:ao->ae->Prop}{i:Nat}{x:Str}{v:V}{u:ao}{Q:Unit->ae->Prop}(I:Inv X pins σ H s)(hN:X.N.Nodup)(hi:X.N[i]?=some x)(hx:Loc X.env.scope x)(r:RelV v u)
  (h:∀s',Inv X pins (σ.set i (some v)) H s'->(∃a,Heap.SameBut a s.heap s'.heap/\(a=X.env.locals\/X.env.cells.lookup x=some a))->Q () s')(hf:X.fn x=true\/X.env.scope.names.lookup x=some .local:=by first|exact .inl rfl|exact .inr rfl|assumption):wpAny M A (storeName X.env x u) Q E s:=by
 obtain⟨m,hn,hl⟩:=id I.loc;have Tq:(X.env.scope.kind== .class||(X.env.scope.kind== .module&&X.env.locals !=X.env.globals))=false:=by rw[I.ok.kind];rfl
 have HJ:i<σ.length:=by rw[I.len];exact(dq.mp hi).1
 have qL:=I.qL;have tracked:∀{a:Addr} {h':Heap},(∃o,s.heap.get? a=some o/\H a=none)->Heap.SameBut a s.heap h'->cQ X.prog X.w H h':=λ{a h'} ha hs b ob e=>by
  obtain⟨_,_,zh⟩:=ha;refine(I.aK b ob e).dG (λc w' hc q=>(hs.2 c ?_).trans q) (λ_ q=>q) λ_ _ q=>q
  rintro rfl;simp_all
 rcases hx with hk|hk
 ·refine wpAny_storeName_local hk hn (λh' vV hs=>?_) Tq
  obtain⟨oL,_,_,Tr,_⟩:=id hn;refine h _ ⟨I.ok,I.os,I.bare,⟨λb o e n hb hx=>?_,λb o e n hb hx=>?_,I.base.free,λb o e hx=>?_,I.base.i0,I.base.lg,I.base.ng⟩,⟨_,vV,λj y v' e1 e2 e3=>?_⟩,λy c e=>?_,I.free,I.jt,λp hp=>?_,tracked ⟨oL,Tr,I.free⟩ hs,by simpa using I.len⟩ ⟨_,hs,.inl rfl⟩
  ·exact(hs.2 b (dP (ig (bK e) I.ok.above))).trans (I.base.keep b o e n hb hx)
  ·obtain⟨sl,e1⟩:=I.base.slot b o e n hb hx;exact⟨sl,(hs.2 b (dP (ig (bK e) I.ok.above))).trans e1⟩
  ·obtain⟨o',e1⟩:=I.base.there b o e hx;exact⟨o',(hs.2 b (dP (ig (bK e) I.ok.above))).trans e1⟩
  ·by_cases hj:j=i
   ·subst hj;rw[hi]at e1;cases e1;rw[yU HJ]at e2;cases e2;exact⟨u,r,.inl ⟨hk,by simp⟩⟩
   rw[jS (aO hj)]at e2;obtain⟨u',r',q⟩:=hl j y v' e1 e2 e3;refine⟨u',r',?_⟩;rcases q with⟨k,e⟩|⟨k,c,e,z⟩
   ·refine .inl ⟨k,?_⟩;have:y≠x:=λe=>hj (Cq hN e1 (e▸hi));simp[this,e]
   exact .inr ⟨k,c,e,z.sameBut hs (qL y c e)⟩
  ·obtain⟨w',z⟩:=I.cell y c e;exact⟨w',z.sameBut hs (qL y c e)⟩
  obtain⟨e,n,ne,nf,d⟩:=I.pin p hp;exact⟨(hs.2 p.1 ne).trans e,n,ne,nf,d⟩
 have Cr:X.fn x=true:=by simp_all
 obtain⟨c,hc⟩:=I.ok.has x (.inl hk);obtain⟨w',z⟩:=I.cell x c hc;refine wpAny_storeName_cell I.ok.kind hk hc z (λh' tU hs=>?_);obtain⟨oc,Ts,akf⟩:=id z;refine h {s with heap:=h'} ⟨I.ok,I.os,I.bare,⟨λb o e n hb hx=>?_,λb o e n hb hx=>?_,I.base.free,λb o e hx=>?_,I.base.i0,I.base.lg,I.base.ng⟩,⟨m,hn.sameBut hs (aO (qL x c hc)),λj y v' e1 e2 e3=>?_⟩,λy c' e=>?_,I.free,I.jt,λp hp=>?_,tracked ⟨oc,Ts,I.jt x c hc⟩ hs,by simpa using I.len⟩ ⟨c,hs,.inr hc⟩
 ·exact(hs.2 b (dP (ig (bK e) (I.ok.vR x c Cr hc)))).trans (I.base.keep b o e n hb hx)
 ·obtain⟨sl,e1⟩:=I.base.slot b o e n hb hx;exact⟨sl,(hs.2 b (dP (ig (bK e) (I.ok.vR x c Cr hc)))).trans e1⟩
 ·obtain⟨o',e1⟩:=I.base.there b o e hx;exact⟨o',(hs.2 b (dP (ig (bK e) (I.ok.vR x c Cr hc)))).trans e1⟩
 ·by_cases hj:j=i
  ·subst hj;rw[hi]at e1;cases e1;rw[yU HJ]at e2;cases e2;exact⟨u,r,.inr ⟨.inl hk,c,hc,tU⟩⟩
  rw[jS (aO hj)]at e2;obtain⟨u',r',q⟩:=hl j y v' e1 e2 e3;refine⟨u',r',?_⟩;rcases q with q|⟨k,c',e,z'⟩
  ·exact .inl q
  refine .inr ⟨k,c',e,z'.sameBut hs ?_⟩;rintro rfl;exact hj (Cq hN e1 (I.ok.inj _ _ _ e hc▸hi))
 ·by_cases zi:c'=c
  ·subst zi;exact⟨_,tU⟩
  obtain⟨w2,z2⟩:=I.cell y c' e;exact⟨w2,z2.sameBut hs zi⟩
 obtain⟨e,n,ne,nf,d⟩:=I.pin p hp;refine⟨(hs.2 p.1 ?_).trans e,n,ne,nf,d⟩;grind
def Ct{M:Model}{A:ai}{E:ao->ae->Prop}{i:Nat}{x:Str}{v:V}{u:ao}{Q:Unit->ae->Prop}(I:Inv X pins σ H s)(hN:X.N.Nodup)(hi:X.N[i]?=some x)(hx:Loc X.env.scope x)(r:RelV v u)
  (h:∀s',Inv X pins (σ.set i (some v)) H s'->Q () s')(hf:X.fn x=true\/X.env.scope.names.lookup x=some .local:=by first|exact .inl rfl|exact .inr rfl|assumption):wpAny M A (storeName X.env x u) Q E s:=
 HI I hN hi hx r (λs' I' _=>h s' I') hf
theorem Inv.Tu{s':ae}{ch:List Addr}(I:Inv X pins σ H s)(ho:s'.os=s.os)(u:Un (lh X.stack) ch H H' s.heap s'.heap)(aK:cQ X.prog X.w H' s'.heap)(hg:AllBare s'.gens)
  (mh:∀b∈ch,(b∈X.ex\/X.gq.heap.objs.size<=b)/\b≠X.env.locals/\(∀x c,X.env.cells.lookup x=some c->c≠b)/\∀p∈X.pn++pins,p.1≠b):Inv X pins σ H' s':=by
 obtain⟨h',g',d',t',o'⟩:=s';have e:o'=s.os:=ho;subst e;exact I.call (g':=g') (t':=t') (d':=d') u aK hg mh
end
abbrev XK:=ao->Option Addr->Hp->Prop
abbrev St:=List (Option V)
abbrev VK:=V->Hp->Prop
abbrev TE:=St->Hp->VK->Prop
abbrev TT:=St->Hp->(Bool->Hp->Prop)->Prop
abbrev TA:=St->Hp->(List V->Hp->Prop)->Prop
structure Ends where
 nx:St->Hp->Prop
 rt:VK
 bk:St->Hp->Prop:=λ_ _=>False
 ct:St->Hp->Prop:=λ_ _=>False
abbrev TS:=Ends->St->Hp->Prop
def EP(X:Cx)(pins:List (Addr×Obj))(σ:St)(Q:VK)(u:ao)(s':ae):Prop:=∃v H',Inv X pins σ H' s'/\RelV v u/\Q v H'
def TP(X:Cx)(pins:List (Addr×Obj))(σ:St)(Q:Bool->Hp->Prop)(b:Bool)(s':ae):Prop:=∃H',Inv X pins σ H' s'/\Q b H'
def AP(X:Cx)(pins:List (Addr×Obj))(σ:St)(Q:List V->Hp->Prop)(us:List ao)(s':ae):Prop:=∃vs H',Inv X pins σ H' s'/\aY vs us/\Q vs H'
def SP(X:Cx)(pins:List (Addr×Obj))(D:Ends)(f:Flow)(s':ae):Prop:=
 match f with
 | .next=>∃σ' H',Inv X pins σ' H' s'/\D.nx σ' H'
 | .brk=>∃σ' H',Inv X pins σ' H' s'/\D.bk σ' H'
 | .cont=>∃σ' H',Inv X pins σ' H' s'/\D.ct σ' H'
 | .ret u=>∃v σ' H',Inv X pins σ' H' s'/\RelV v u/\D.rt v H'
def PE(X:Cx)(e:Expr)(t:TE):Prop:=
 ∀(pins:List (Addr×Obj)) (s:ae) (σ:St) (H:Hp) (Q:VK),Inv X pins σ H s->t σ H Q->wpAny (model X.prog X.w) X.A (eval e X.env) (EP X pins σ Q) X.xe s
def PT(X:Cx)(e:Expr)(t:TT):Prop:=
 ∀(pins:List (Addr×Obj)) (s:ae) (σ:St) (H:Hp) (Q:Bool->Hp->Prop),Inv X pins σ H s->t σ H Q->wpAny (model X.prog X.w) X.A (isTrue e X.env (eval e X.env)) (TP X pins σ Q) X.xe s
def PW(X:Cx)(e:Expr)(t:TT):Prop:=
 ∀(whole:Sem ao) (pins:List (Addr×Obj)) (s:ae) (σ:St) (H:Hp) (Q:Bool->Hp->Prop),Inv X pins σ H s->t σ H Q->wpAny (model X.prog X.w) X.A (isTrue e X.env whole) (TP X pins σ Q) X.xe s
def PW.pt{X:Cx}{e:Expr}{t:TT}(h:PW X e t):PT X e t:=h _
def PA(X:Cx)(es:List Expr)(t:TA):Prop:=
 ∀(pos:Pos) (pins:List (Addr×Obj)) (s:ae) (σ:St) (H:Hp) (Q:List V->Hp->Prop),Inv X pins σ H s->t σ H Q->wpAny (model X.prog X.w) X.A (spliced (backTo pos (starEach es X.env))) (AP X pins σ Q) X.xe s
def PS(X:Cx)(st:Stmt)(t:TS):Prop:=
 ∀(pins:List (Addr×Obj)) (s:ae) (σ:St) (H:Hp) (D:Ends),Inv X pins σ H s->t D σ H->wpAny (model X.prog X.w) X.A (exec st X.env) (SP X pins D) X.xe s
def iL(X:Cx)(st:List Stmt)(t:TS):Prop:=
 ∀(pins:List (Addr×Obj)) (s:ae) (σ:St) (H:Hp) (D:Ends),Inv X pins σ H s->t D σ H->wpAny (model X.prog X.w) X.A (execs st X.env) (SP X pins D) X.xe s
def aM{α:Type}{t:Sem α}{Q Q':α->ae->Prop}{M:Model}{A:ai}{E:ao->ae->Prop}{s:ae}(h:wpAny M A t Q E s)(hQ:∀a s,Q a s->Q' a s):wpAny M A t Q' E s:=kR h hQ λ_ _ x=>x
def bin{a b:Expr}{ta tb:TE}(ha:PE X a ta)(hb:PE X b tb){pins:List (Addr×Obj)}{s:ae}{σ:St}{H:Hp}{R:V->V->Hp->Prop}(I:Inv X pins σ H s)(h:ta σ H λx H1=>tb σ H1 λy H2=>R x y H2)
  {α:Type}{Q:α->ae->Prop}{f:ao->ao->Sem α}
  (hf:∀v u s2 x y H2,Inv X pins σ H2 s2->RelV x v->RelV y u->R x y H2->wpAny (model X.prog X.w) X.A (f v u) Q X.xe s2):
  wpAny (model X.prog X.w) X.A (eval a X.env) (λv s₁=>wpAny (model X.prog X.w) X.A (eval b X.env) (λu s₂=>wpAny (model X.prog X.w) X.A (f v u) Q X.xe s₂) X.xe s₁) X.xe s:=by
 refine aM (ha pins s σ H _ I h) λv s1 ⟨x,H1,I1,r1,q1⟩=>?_;refine aM (hb pins s1 σ H1 _ I1 q1) λu s2 ⟨y,H2,I2,r2,q2⟩=>?_;exact hf v u s2 x y H2 I2 r1 r2 q2
inductive HK(i:Nat)(σ:L2.St)(H:Hp)(Q:VK):Prop
 |mk:∀v,σ[i]?=some (some v)->Q v H->HK i σ H Q
def HL(i:Nat):TE:=λσ H Q=>HK i σ H Q
def tC(v:V):TE:=λ_ H Q=>Q v H
def Tv(hN:X.N[i]?=some x)(hv:tT X.env.scope x)(hd:(x==("__debug__":Str))=false:=by decide)(mi:(x==("__classdict__":Str))=false:=by decide):PE X (.Name x pos) (HL i):=by
 intro pins s σ H Q I h;obtain⟨v,e,h⟩:=h;obtain⟨m,hn,hl⟩:=I.loc;obtain⟨u,r,l⟩:=hl i x v hN e hv;have fin:EP X pins σ Q u s:=⟨v,H,I,r,h⟩;rcases l with⟨hk,hm⟩|⟨hk,c,hc,zj⟩
 ·exact wpAny_Name (wpAny_loadName_local I.ok.kind hk hn hm fin) hd
 rcases hk with hk|hk
 ·exact wpAny_Name (wpAny_loadName_cell I.ok.kind hk hc zj fin) hd
 exact wpAny_Name (wpAny_loadName_free I.ok.kind hk hc zj fin mi) hd
def aP{i j pos}:PE X (.Constant (.int i) j pos) (tC (.int i)):=λ_ _ _ H _ I h=>wpAny_Constant_int ⟨.int i,H,I.tok _,⟨_,rfl⟩,h⟩
def oS{b j pos}:PE X (.Constant (.bool b) j pos) (tC (.bl b)):=λ_ _ _ H _ I h=>Constant_bool ⟨.bl b,H,I,rfl,h⟩
def eF{j pos}:PE X (.Constant .none j pos) (tC .aQ):=λ_ _ _ H _ I h=>Constant_none ⟨.aQ,H,I,rfl,h⟩
def iM{x j pos}:PE X (.Constant (.str x) j pos) (tC (.str x)):=λ_ _ _ H _ I h=>Calls.Constant_str ⟨.str x,H,I.tok _,⟨_,rfl⟩,h⟩
def Gl(X:Cx)(x:Str):Prop:=X.env.kindOf x=some .globalImplicit
def zk{E:ao->ae->Prop}{pins:List (Addr×Obj)}{s:ae}{σ:St}{H:Hp}{x:Str}{u:ao}{pos:Pos}{Q:ao->ae->Prop}(I:Inv X pins σ H s)(hg:Gl X x)(hm:X.mg x=some u)(h:Q u s)
  (hd:(x==("__debug__":Str))=false:=by decide):wpAny (model X.prog X.w) X.A (eval (.Name x pos) X.env) Q E s:=
 Calls.Name_function_global I.ok.kind hg (Calls.loadGlobal_global (by rw[I.ok.glob];exact I.mod.glob.keeps I.bk) hm h) hd
def ju{E:ao->ae->Prop}{pins:List (Addr×Obj)}{s:ae}{σ:St}{H:Hp}{x:Str}{u:ao}{pos:Pos}{Q:ao->ae->Prop}(I:Inv X pins σ H s)(hg:Gl X x)(hm:X.mg x=none)(hv:bootBuiltins x=some u)(h:Q u s)
  (hn:x≠"__name__":=by decide)(hd:(x==("__debug__":Str))=false:=by decide):wpAny (model X.prog X.w) X.A (eval (.Name x pos) X.env) Q E s:=by
 obtain⟨mb,h1,h2⟩:=I.mod.blt;exact Calls.Name_function_global I.ok.kind hg (Calls.loadGlobal_builtin (by rw[I.ok.glob];exact I.mod.glob.keeps I.bk) hm (by rw[I.ok.blt];exact h1.keeps I.bk) ((h2 x hn).trans hv) h) hd
def tV(hg:Gl X x)(hm:X.mg x=some u)(r:RelV v u)(hd:(x==("__debug__":Str))=false:=by decide):PE X (.Name x pos) (tC v):=
 λ_ _ _ H _ I h=>zk I hg hm ⟨v,H,I,r,h⟩ hd
def PC(X:Cx)(op:CmpOp)(a b:Expr)(t:TE):Prop:=
 ∀(pins:List (Addr×Obj)) (s:ae) (σ:St) (H:Hp) (Q:VK),Inv X pins σ H s->t σ H Q->
  wpAny (model X.prog X.w) X.A (eval a X.env) (λv s₁=>wpAny (model X.prog X.w) X.A (eval b X.env) (λu s₂=>wpAny (model X.prog X.w) X.A (compareOp op v u) (EP X pins σ Q) X.xe s₂) X.xe s₁) X.xe s
inductive HM(Q:Bool->Hp->Prop)(x:V)(H1:Hp):Prop
 |mk:∀c,x= .bl c->Q c H1->HM Q x H1
def tB(t:TE):TT:=λσ H Q=>t σ H λx H1=>HM Q x H1
def vW(h:PC X op a b t)(h1:behindInMarks op b=false:=by first|exact nobehind _ (by decide) (by decide)|rfl):PE X (.Compare a [op] [b] pos) t:=λpins s σ H Q I hw=>wpAny_Compare1 (h pins s σ H Q I hw) h1
def tW{op:CmpOp}{t:TE}(h:PC X op a b t)(h1:behindInMarks op b=false:=by first|exact nobehind _ (by decide) (by decide)|rfl):PT X (.Compare a [op] [b] pos) (tB t):=by intro pins s σ H Q I hw;refine wpAny_isTrue_Compare1 (aM (h pins s σ H _ I hw) λv s1 h1=>aM h1 λu s2 h2=>aM h2 λc s3 ⟨x,H1,I1,r1,q1⟩=>?_) h1;obtain⟨d,rfl,q⟩:=q1;cases r1;exact lZ ⟨H1,I1,q⟩
def gv{e:Expr}{t:TE}(h:PE X e t)(he:∀whole,isTrue e X.env whole=(do let v<-whole;standAt e.pos;holding [v] (truthy v)):=by intro _;rfl):PT X e (tB t):=by intro pins s σ H Q I hw;refine isTrue_plain (aM (h pins s σ H _ I hw) λv s1 ⟨x,H1,I1,r1,q1⟩=>?_) (he _);obtain⟨d,rfl,q⟩:=q1;cases r1;exact lZ ⟨H1,I1,q⟩
def Tw(t u:TT):TT:=λσ H Q=>t σ H λc H1=>if c=true then u σ H1 Q else Q false H1
def Tx(t u:TT):TT:=λσ H Q=>t σ H λc H1=>if c=true then Q true H1 else u σ H1 Q
def Tz(t:TT):TT:=λσ H Q=>t σ H λc H1=>Q (!c) H1
def pw_and1(ha:PT X a tA):PW X (.BoolOp .And [a] pos) tA:=by
 intro wh pins s σ H Q I h;refine isTrue_and (aM (ha pins s σ H Q I h) λc s1 e=>?_);cases c with
 |true=>exact isTrue_and_nil e
 |false=>exact e
def pw_or1(ha:PT X a tA):PW X (.BoolOp .Or [a] pos) tA:=by
 intro wh pins s σ H Q I h;refine isTrue_or (aM (ha pins s σ H Q I h) λc s1 e=>?_);cases c with
 |false=>exact isTrue_or_nil e
 |true=>exact e
def pw_and(ha:PT X a tA)(hb:PW X (.BoolOp .And (b::rest) pos) tB'):PW X (.BoolOp .And (a::b::rest) pos) (Tw tA tB'):=by
 intro wh pins s σ H Q I h;refine isTrue_and (aM (ha pins s σ H _ I h) λc s1 ⟨H1,I1,q1⟩=>?_);cases c with
 |true=>exact hb wh pins s1 σ H1 Q I1 q1
 |false=>assumption
def pw_or(ha:PT X a tA)(hb:PW X (.BoolOp .Or (b::rest) pos) tB'):PW X (.BoolOp .Or (a::b::rest) pos) (Tx tA tB'):=by
 intro wh pins s σ H Q I h;refine isTrue_or (aM (ha pins s σ H _ I h) λc s1 ⟨H1,I1,q1⟩=>?_);cases c with
 |true=>assumption
 |false=>exact hb wh pins s1 σ H1 Q I1 q1
def ni(ha:PT X a tA):PT X (.UnaryOp .Not a pos) (Tz tA):=by intro pins s σ H Q I h;exact isTrue_not (ha pins s σ H (λc H1=>Q (!c) H1) I h)
inductive HN(tb:TE)(σ:L2.St)(Q:VK)(x:V)(H1:Hp):Prop
 |mk:∀c,x= .bl c->(if c=true then tb σ H1 Q else Q (.bl false) H1)->HN tb σ Q x H1
def TB(ta tb:TE):TE:=λσ H Q=>ta σ H λx H1=>HN tb σ Q x H1
inductive HP(tb:TE)(σ:L2.St)(Q:VK)(x:V)(H1:Hp):Prop
 |mk:∀c,x= .bl c->(if c=true then Q (.bl true) H1 else tb σ H1 Q)->HP tb σ Q x H1
def Cu(ta tb:TE):TE:=λσ H Q=>ta σ H λx H1=>HP tb σ Q x H1
def iN{op}(h:PE X a t):PE X (.BoolOp op [a] pos) t:=λpins s σ H Q I hw=>BoolOp_one (h pins s σ H Q I hw)
def jW(ha:PE X a ta)(hb:PE X (.BoolOp .And (b::rest) pos) tb):PE X (.BoolOp .And (a::b::rest) pos) (TB ta tb):=by
 intro pins s σ H Q I h;refine BoolOp_and (aM (ha pins s σ H _ I h) λv s1 ⟨x,H1,I1,r1,q1⟩=>?_);obtain⟨c,rfl,q1⟩:=q1;cases r1;refine lZ ?_;cases c with
 |true=>exact hb pins s1 σ H1 Q I1 q1
 |false=>exact⟨.bl false,H1,I1,rfl,q1⟩
def vX(ha:PE X a ta)(hb:PE X (.BoolOp .Or (b::rest) pos) tb):PE X (.BoolOp .Or (a::b::rest) pos) (Cu ta tb):=by
 intro pins s σ H Q I h;refine BoolOp_or (aM (ha pins s σ H _ I h) λv s1 ⟨x,H1,I1,r1,q1⟩=>?_);obtain⟨c,rfl,q1⟩:=q1;cases r1;refine lZ ?_;cases c with
 |false=>exact hb pins s1 σ H1 Q I1 q1
 |true=>exact⟨.bl true,H1,I1,rfl,q1⟩
def aB(K:aa)(H:Hp)(a:Addr)(xs:List V):Prop:=
 Rd H a (.lst xs)\/
  ∃(o:Obj) (its:Array ao) (n:Nat),K.lookup a=some o/\o.cls= .type "list"/\o.dict=none/\o.data= .seq its n/\its.size<=sizeLine/\aY xs its.toList
def aX(K:aa)(H:Hp)(a:Addr)(xs:List V):Prop:=
 Rd H a (.tup xs)\/
  ∃(o:Obj) (its:Array ao) (n:Nat),K.lookup a=some o/\o.cls= .type "tuple"/\o.data= .seq its n/\its.size<=sizeLine/\aY xs its.toList
def TC:ao->Option V
 | .none=>some .aQ
 | .bool b=>some (.bl b)
 | .int i _=>some (.int i)
 | .str x _=>some (.str x)
 | .bytes b _=>some (.gF b)
 | .float b _=>some (.vO b)
 | .ref a=>some (.ref a)
 | .type n=>some (.ty n)
 |_=>none
def RelV.abs(r:RelV x u):TC u=some x:=by
 cases x with
 |aQ=>cases r;rfl
 |bl _=>cases r;rfl
 |int _=>obtain⟨t,rfl⟩:=r;rfl
 |str _=>obtain⟨t,rfl⟩:=r;rfl
 |gF _=>obtain⟨t,rfl⟩:=r;rfl
 |vO _=>obtain⟨t,rfl⟩:=r;rfl
 |ref _=>cases r;rfl
 |ty _=>cases r;rfl
theorem RelV.inj{x y:V}{u:ao}(r:RelV x u)(q:RelV y u):x=y:=bC (r.abs.symm.trans q.abs)
theorem aY.inj:∀{xs ys:List V} {us:List ao},aY xs us->aY ys us->xs=ys
 |_,_,_,.nil,.nil=>rfl
 |_,_,_,.cons r t,.cons r' t'=>by rw[r.inj r',aY.inj t t']
def aB.of{K:aa}(h:H a=some (.lst xs)):aB K H a xs:=.inl (.inl h)
def aX.of{K:aa}(h:H a=some (.tup xs)):aX K H a xs:=.inl (.inl h)
def Inv.list(I:Inv X pins σ H s)(h:aB X.K H a xs):∃its:List ao,aY xs its/\PlainL s.heap a its.toArray/\xs.length<=sizeLine:=by
 rcases h with h|⟨o,its,n,hk,hc,hd,hs,hz,r⟩
 ·obtain⟨z,its,n,r,e⟩:=h.ok I.aK;exact⟨its,r,⟨_,n,e,rfl,rfl,rfl⟩,z⟩
 refine⟨its.toList,r,⟨o,n,I.gr a o hk,hc,hd,by assumption⟩,?_⟩;have e:=r.length;simp[*]
def Inv.tuple(I:Inv X pins σ H s)(h:aX X.K H a xs):∃its:List ao,aY xs its/\IsTup s.heap a its.toArray/\xs.length<=sizeLine:=by
 rcases h with h|⟨o,its,n,hk,hc,hs,hz,r⟩
 ·obtain⟨z,its,r,p⟩:=h.ok I.aK;exact⟨its,r,p,z⟩
 refine⟨its.toList,r,⟨o,I.gr a o hk,hc,n,by assumption⟩,?_⟩;have e:=r.length;simp[*]
def Inv.vY(I:Inv X pins σ H s)(h:aB X.K H a xs)(h':aB X.K H a ys):xs=ys:=by
 obtain⟨its,r,⟨o,n,e,_,_,d⟩,_⟩:=I.list h;obtain⟨its',r',⟨o',n',e',_,_,d'⟩,_⟩:=I.list h';rw[e]at e';cases e';rw[d]at d';injection d' with d1 _;have:its=its':=by simpa using gP Array.toList d1
 subst this;exact r.inj r'
def Inv.zm(I:Inv X pins σ H s)(h:aX X.K H a xs)(h':aX X.K H a ys):xs=ys:=by
 obtain⟨its,r,⟨o,e,_,n,d⟩,_⟩:=I.tuple h;obtain⟨its',r',⟨o',e',_,n',d'⟩,_⟩:=I.tuple h';rw[e]at e';cases e';rw[d]at d';injection d' with d1 _;have:its=its':=by simpa using gP Array.toList d1
 subst this;exact r.inj r'
abbrev Cx.mj(X:Cx)(E:ao->ae->Prop):Cx:={X with xe:=E}
abbrev Cx.bf(X:Cx):Cx:=X.mj λ_ _=>False
theorem Cx.Ok.mj{X:Cx}(ok:X.Ok)(E:ao->ae->Prop):(X.mj E).Ok:=
 ⟨ok.mod,ok.kind,ok.glob,ok.blt,ok.above,ok.inj,ok.has,ok.vR,ok.hd,ok.frames,ok.ze,ok.zf,ok.bs,ok.mf,ok.vS,ok.vT,ok.jU,ok.qK⟩
def Cx.Ok.oT{X:Cx}{E:ao->ae->Prop}(ok:(X.mj E).Ok):X.Ok:=
 ⟨ok.mod,ok.kind,ok.glob,ok.blt,ok.above,ok.inj,ok.has,ok.vR,ok.hd,ok.frames,ok.ze,ok.zf,ok.bs,ok.mf,ok.vS,ok.vT,ok.jU,ok.qK⟩
theorem Inv.mj(I:Inv X pins σ H s)(E:ao->ae->Prop):Inv (X.mj E) pins σ H s:=⟨I.ok.mj E,I.os,I.bare,I.base,I.loc,I.cell,I.free,I.jt,I.pin,I.aK,I.len⟩
theorem Inv.oT(I:Inv (X.mj E) pins σ H s):Inv X pins σ H s:=⟨I.ok.oT,I.os,I.bare,I.base,I.loc,I.cell,I.free,I.jt,I.pin,I.aK,I.len⟩
theorem SP.oT(h:SP (X.mj E) pins D f s'):SP X pins D f s':=by
 cases f with
 |next=>obtain⟨σ',H',I,q⟩:=h;exact⟨σ',H',I.oT,q⟩
 |brk=>obtain⟨σ',H',I,q⟩:=h;exact⟨σ',H',I.oT,q⟩
 |cont=>obtain⟨σ',H',I,q⟩:=h;exact⟨σ',H',I.oT,q⟩
 |ret u=>obtain⟨v,σ',H',I,r,q⟩:=h;exact⟨v,σ',H',I.oT,r,q⟩
theorem iL.bf{st:List Stmt}{t:TS}(h:iL X.bf st t):iL X st t:=λpins s σ H D I hw=>
 kR (h pins s σ H D (I.mj _) hw) (λ_ _ q=>q.oT) λ_ _ z=>False.elim z
section
variable{X:Cx}{st:Stmt}{rest:List Stmt}{t u:TS}{e:Expr}{te:TE}{pos:Pos}
def TF:TS:=λD σ H=>D.nx σ H
def bh(t u:TS):TS:=λD σ H=>t {D with nx:=u D} σ H
def bH:iL X [] TF:=λ_ _ σ H _ I h=>wpAny_execs_nil ⟨σ,H,I,h⟩
theorem aF(h1:PS X st t)(h2:iL X rest u):iL X (st::rest) (bh t u):=by
 intro pins s σ H D I h;refine wpAny_execs_cons (aM (h1 pins s σ H {D with nx:=u D} I h) λf s1 q=>?_);cases f with
 |next=>obtain⟨σ',H',I',q⟩:=q;exact h2 pins s1 σ' H' D I' q
 |ret v=>exact q
 |brk=>exact q
 |cont=>exact q
theorem aH(h1:PS X st t):iL X [st] t:=by
 intro pins s σ H D I h;refine wpAny_execs_cons (aM (h1 pins s σ H D I h) λf s1 q=>?_);cases f with
 |next=>exact wpAny_execs_nil q
 |ret v=>exact q
 |brk=>exact q
 |cont=>exact q
theorem Inv.quiet{pins:List (Addr×Obj)}{σ:St}{H:Hp}{s:ae}(I:Inv X pins σ H s):interactive X.env=false:=by simp[interactive,I.ok.kind]
def TH(te:TE):TS:=λD σ H=>te σ H λ_ H1=>D.nx σ H1
theorem i3(he:PE X e te)(hs:swapsWith e none pos.line X.env=pure false:=by rfl):PS X (.Expr e pos) (TH te):=by intro pins s σ H D I h;exact wpAny_Expr_any (aM (he pins s σ H _ I h) λv s1 ⟨x,H1,I1,r1,q1⟩=>⟨σ,H1,I1,q1⟩) I.quiet hs
def TJ(te:TE):TS:=λD σ H=>te σ H D.rt
theorem aS(he:PE X e te):PS X (.Return (some e) pos) (TJ te):=by intro pins s σ H D I h;exact wpAny_Return_some (aM (he pins s σ H _ I h) λv s1 ⟨x,H1,I1,r1,q1⟩=>⟨x,σ,H1,I1,r1,q1⟩)
def TK(c:TT)(t u:TS):TS:=λD σ H=>c σ H λb H1=>if b=true then t D σ H1 else u D σ H1
theorem bD{c:Expr}{a b:List Stmt}{tc:TT}(hc:PT X c tc)(ha:iL X a t)(hb:iL X b u):PS X (.If c a b pos) (TK tc t u):=by
 intro pins s σ H D I h;refine wpAny_If (aM (hc pins s σ H _ I h) λd s1 ⟨H1,I1,q1⟩=>?_);cases d with
 |true=>exact ha pins s1 σ H1 D I1 q1
 |false=>exact hb pins s1 σ H1 D I1 q1
def TM:TS:=λ_ _ _=>False
def TN:PS X st TM:=λ_ _ _ _ _ _ h=>h.elim
end
abbrev TG:=V->St->Hp->(St->Hp->Prop)->Prop
abbrev nj:=List V->St->Hp->(St->Hp->Prop)->Prop
def PG(X:Cx)(target:Expr)(t:TG):Prop:=
 ∀(pins:List (Addr×Obj)) (s:ae) (σ:St) (H:Hp) (v:V) (u:ao) (Q:St->Hp->Prop),Inv X pins σ H s->RelV v u->t v σ H Q->
  wpAny (model X.prog X.w) X.A (assign target X.env u) (λ_ s'=>∃σ' H',Inv X pins σ' H' s'/\Q σ' H') X.xe s
def vZ(X:Cx)(ts:List Expr)(t:nj):Prop:=
 ∀(pins:List (Addr×Obj)) (s:ae) (σ:St) (H:Hp) (vs:List V) (us:List ao) (Q:St->Hp->Prop),Inv X pins σ H s->aY vs us->t vs σ H Q->
  wpAny (model X.prog X.w) X.A (assignInOrder ((assignEach ts X.env).map (·.2)) us) (λ_ s'=>∃σ' H',Inv X pins σ' H' s'/\Q σ' H') X.xe s
abbrev Cv:=V->V->V->Hp->(Hp->Prop)->Prop
def HQ(X:Cx)(t:Cv):Prop:=
 ∀(pins:List (Addr×Obj)) (s:ae) (σ:St) (H:Hp) (o i v:V) (ov iv u:ao) (Q:Hp->Prop),Inv X pins σ H s->RelV o ov->RelV i iv->RelV v u->t o i v H Q->
  wpAny (model X.prog X.w) X.A (setItem ov iv u) (λ_ s'=>∃H',Inv X pins σ H' s'/\Q H') X.xe s
abbrev v9:=V->V->Hp->VK->Prop
def HR(X:Cx)(op:Operator)(t:v9):Prop:=
 ∀(pins:List (Addr×Obj)) (s:ae) (σ:St) (H:Hp) (x y:V) (v u:ao) (Q:VK),Inv X pins σ H s->RelV x v->RelV y u->t x y H Q->
  wpAny (model X.prog X.w) X.A (inplaceOp op v u) (EP X pins σ Q) X.xe s
def tX(i:Nat):TG:=λv σ H Q=>Q (σ.set i (some v)) H
def TQ(hN:X.N.Nodup)(hi:X.N[i]?=some x)(hx:Loc X.env.scope x)(hf:X.fn x=true\/X.env.scope.names.lookup x=some .local:=by first|exact .inl rfl|exact .inr rfl|assumption):PG X (.Name x pos) (tX i):=by intro pins s σ H v u Q I r h;exact wpAny_assign_Name (Ct I hN hi hx r (λs' I'=>⟨_,H,I',h⟩) hf)
def TR:nj:=λvs σ H Q=>vs=[]/\Q σ H
inductive HS(t:TG)(u:nj)(vs:List V)(σ:L2.St)(H:Hp)(Q:L2.St->Hp->Prop):Prop
 |mk:∀v r,vs=v::r->(t v σ H λσ' H'=>u r σ' H' Q)->HS t u vs σ H Q
def TU(t:TG)(u:nj):nj:=λvs σ H Q=>HS t u vs σ H Q
def mm:vZ X [] TR:=by intro pins s σ H vs us Q I r h;obtain⟨e,h⟩:=h;subst e;cases r;exact assignInOrder_nil ⟨σ,H,I,h⟩
def gw{e:Expr}{es:List Expr}{t:TG}{u:nj}(h1:PG X e t)(h2:vZ X es u)
  (hs:(assignEach (e::es) X.env).map (·.2)=assign e X.env::(assignEach es X.env).map (·.2):=by rfl):vZ X (e::es) (TU t u):=by
 intro pins s σ H vs us Q I r h;obtain⟨v,vr,e1,h⟩:=h;subst e1;cases r with
 |cons r rr=>rw[hs];refine assignInOrder_cons (aM (h1 pins s σ H _ _ _ I r h) λ_ s1 ⟨σ1,H1,I1,q1⟩=>?_);exact h2 pins s1 σ1 H1 _ _ Q I1 rr q1
inductive HU(K:aa)(n:Nat)(t:nj)(v:V)(σ:L2.St)(H:Hp)(Q:L2.St->Hp->Prop):Prop
 |mk:∀a xs,v= .ref a->aX K H a xs->xs.length=n->t xs σ H Q->HU K n t v σ H Q
def HV(K:aa)(n:Nat)(t:nj):TG:=λv σ H Q=>HU K n t v σ H Q
def nr(hc:X.calm=true)(h:vZ X es t)
  (hn:(assignEach es X.env).length=n:=by rfl)(b4:(assignEach es X.env).findIdx? (·.1)=none:=by rfl):PG X (.Tuple es k pos) (HV X.K n t):=by
 intro pins s σ H v u Q I r hw;obtain⟨a,xs,e1,hq,hl,hw⟩:=hw;subst e1;cases r;obtain⟨its,rv,ht,hz⟩:=I.tuple hq;refine assign_Tuple_tuple (I.ok.hd hc) ht (by simp[hn,<-hl,rv.length]) b4 λh' hx=>?_;have I1:Inv X pins σ H {s with heap:=h'}:=I.kept (t':=s.toks) λb o e=>hx b o (dP (bK e)) e;exact h pins _ σ H xs _ Q I1 (by simpa using rv) hw
def TV(to ti:TE)(t:Cv):TG:=λv σ H Q=>to σ H λo H1=>ti σ H1 λi H2=>t o i v H2 λH3=>Q σ H3
def zo{o i:Expr}{to ti:TE}{t:Cv}(ho:PE X o to)(hi:PE X i ti)(hs:HQ X t)
  (ha:∀v,assign (.Subscript o i pos) X.env v=(do
   let ov<-holding [v] (eval o X.env);let iv<-holding [v,ov] (eval i X.env)
   standAt pos
   holding [v,ov,iv] (setItem ov iv v)
   release [v,ov,iv] []):=by intro _;rfl):PG X (.Subscript o i pos) (TV to ti t):=by
 intro pins s σ H v u Q I r h;rw[ha];refine au (jn (aM (ho pins s σ H _ I h) λov s1 ⟨x,H1,I1,r1,q1⟩=>?_));refine au (jn (aM (hi pins s1 σ H1 _ I1 q1) λiv s2 ⟨y,H2,I2,r2,q2⟩=>?_));refine au (wpAny_standAt (au (jn (aM (hs pins s2 σ H2 x y v ov iv u _ I2 r1 r2 r q2) λ_ s3 ⟨H3,I3,q3⟩=>?_))));exact wpAny_release ⟨σ,H3,I3,q3⟩
def zp(te:TE)(g:TG):TS:=λD σ H=>te σ H λx H1=>g x σ H1 D.nx
def zq{tg e:Expr}{te:TE}{g:TG}(he:PE X e te)(hg:PG X tg g)(hs:swapsWithSole [tg] e pos.line X.env=pure false:=by rfl)(hw:swappedStores [tg] e X.env=pure none:=by rfl)
  (h1:(assignEach [tg] X.env).map (·.2)=[assign tg X.env]:=by rfl):PS X (.Assign [tg] e pos) (zp te g):=by
 intro pins s σ H D I h;refine wpAny_Assign_stores (aM (he pins s σ H _ I h) λv s1 ⟨x,H1,I1,r1,q1⟩=>?_) hs hw;rw[h1];exact aM (hg pins s1 σ H1 x v _ I1 r1 q1) λ_ s2 q=>q
def TX{i:Nat}{x:Str}{e:Expr}{te:TE}{pos':Pos}(hN:X.N.Nodup)(hi:X.N[i]?=some x)(hx:Loc X.env.scope x)(he:PE X e te)(hs:swapsWith e (some (.Name x pos')) pos.line X.env=pure false:=by rfl)(hf:X.fn x=true\/X.env.scope.names.lookup x=some .local:=by first|exact .inl rfl|exact .inr rfl|assumption):
  PS X (.Assign [.Name x pos'] e pos) (zp te (tX i)):=by
 intro pins s σ H D I h;refine wpAny_Assign_Name (aM (he pins s σ H _ I h) λv s1 ⟨y,H1,I1,r1,q1⟩=>?_) hs;exact Ct I1 hN hi hx r1 (λs2 I2=>⟨_,H1,I2,q1⟩) hf
inductive HW(i:Nat)(te:TE)(ti:v9)(D:Ends)(σ:L2.St)(H:Hp):Prop
 |mk:∀x,σ[i]?=some (some x)->(te σ H λy H1=>ti x y H1 λz H2=>D.nx (σ.set i (some z)) H2)->HW i te ti D σ H
def TY(i:Nat)(te:TE)(ti:v9):TS:=λD σ H=>HW i te ti D σ H
def HX{i:Nat}{x:Str}{e:Expr}{te:TE}{op:Operator}{ti:v9}{pos':Pos}(hN:X.N.Nodup)(hi:X.N[i]?=some x)(hx:Loc X.env.scope x)(he:PE X e te)(ho:HR X op ti)(hf:X.fn x=true\/X.env.scope.names.lookup x=some .local:=by first|exact .inl rfl|exact .inr rfl|assumption):
  PS X (.AugAssign (.Name x pos') op e pos) (TY i te ti):=by
 intro pins s σ H D I h;obtain⟨v,e1,h⟩:=h;obtain⟨m,hn,hl⟩:=I.loc;have TZ:tT X.env.scope x:=by rcases hx with k|k;exact .inl k;exact .inr (.inl k)
 obtain⟨u,r,l⟩:=hl i x v hi e1 TZ;refine wpAny_AugAssign_Name ?_;have go:wpAny (model X.prog X.w) X.A (eval e X.env) (λw s₂=>wpAny (model X.prog X.w) X.A (inplaceOp op u w) (λr s₃=>wpAny (model X.prog X.w) X.A (storeName X.env x r) (λ_=>SP X pins D .next) X.xe s₃) X.xe s₂) X.xe s:=by refine aM (he pins s σ H _ I h) λw s1 ⟨y,H1,I1,r1,q1⟩=>?_;refine aM (ho pins s1 σ H1 v y u w _ I1 r r1 q1) λz s2 ⟨zv,H2,I2,r2,q2⟩=>?_;exact Ct I2 hN hi hx r2 (λs3 I3=>⟨_,H2,I3,q2⟩) hf
 rcases l with⟨hk,hm⟩|⟨hk,c,hc,zj⟩
 ·exact wpAny_loadName_local I.ok.kind hk hn hm go
 rcases hk with hk|hk
 ·exact wpAny_loadName_cell I.ok.kind hk hc zj go
 rcases hx with k|k
 ·have:X.env.scope.names.lookup x=some .free:=hk;simp_all
 have:X.env.scope.names.lookup x=some .free:=hk;simp_all
inductive HY(f:Int->Int->Int)(x:V)(y:V)(H:Hp)(Q:VK):Prop
 |mk:∀i j,x= .int i->y= .int j->Q (.int (f i j)) H->HY f x y H Q
def T3(f:Int->Int->Int):v9:=λx y H Q=>HY f x y H Q
def HZ:HR X .Add (T3 λi j=>i+j):=by intro pins s σ H x y v u Q I r1 r2 h;obtain⟨i,j,e1,e2,q⟩:=h;subst e1;subst e2;obtain⟨t,rfl⟩:=r1;obtain⟨t',rfl⟩:=r2;exact iadd_int ⟨.int _,H,I.tok _,⟨_,rfl⟩,q⟩
def T4(c:TT)(tb:TS):TS:=λD σ H=>∃W:Nat->St->Hp->Prop,(∃m,W m σ H)/\∀m σ H,W m σ H->
 c σ H λb H1=>if b=true then∃N:St->Hp->Prop,(∀σ' H',N σ' H'->∃m',m'<m/\W m' σ' H')/\tb {D with nx:=N,ct:=N,bk:=D.nx} σ H1 else D.nx σ H1
def H_{c:Expr}{body:List Stmt}{tc:TT}{tb:TS}(hp:PassesOwn (model X.prog X.w) X.A X.env X.xe)(hc:PT X c tc)(hb:iL X body tb):PS X (.While c body [] pos) (T4 tc tb):=by
 intro pins s σ H D I h;obtain⟨W,⟨m0,w0⟩,turn⟩:=h;refine wpAny_While (codeAny_whileLoop (λn s'=>∃σ' H',Inv X pins σ' H' s'/\W n σ' H') ?_ m0 ⟨σ,H,I,w0⟩);rintro n s1 ⟨σ1,H1,I1,w1⟩;refine vp hp (aM (hc pins s1 σ1 H1 _ I1 (turn n σ1 H1 w1)) λb s2 ⟨H2,I2,q2⟩=>?_);cases b with
 |true=>
  obtain⟨N,hN,q2⟩:=q2;rw[aD rfl];refine vp hp (aM (hb pins s2 σ1 H2 _ I2 q2) λf s3 q3=>?_);cases f with
  |next=>obtain⟨σ3,H3,I3,n3⟩:=q3;obtain⟨m',hm,w3⟩:=hN σ3 H3 n3;exact⟨m',hm,σ3,H3,I3,w3⟩
  |cont=>obtain⟨σ3,H3,I3,n3⟩:=q3;obtain⟨m',hm,w3⟩:=hN σ3 H3 n3;exact⟨m',hm,σ3,H3,I3,w3⟩
  |brk=>exact q3
  |ret v=>exact q3
 |false=>rw[az fk];exact wpAny_execs_nil ⟨σ1,H2,I2,q2⟩
structure It where
 go:Nat->Hp->Prop
 i4:Nat->Hp->V->Hp->Prop
 stop:Nat->Hp->Prop
def jX(X:Cx)(pins:List (Addr×Obj))(H:Hp)(b:Addr):Prop:=
 H b=none/\b≠X.env.locals/\b∉X.fs/\(b∈X.ex\/X.gq.heap.objs.size<=b)/\(∀x c,X.env.cells.lookup x=some c->c≠b)/\∀p∈X.pn++pins,p.1≠b
def Inv.nu{X:Cx}{pins:List (Addr×Obj)}{σ:St}{H H':Hp}{s:ae}{b:Addr}(I:Inv X pins σ H s)(hb:s.heap.objs.size<=b)(hn:H' b=none):jX X pins H' b:=by
 refine⟨hn,kS (ig I.lt hb),I.Tn hb,.inr (cF I.sz hb),λx c e z=>?_,λp hp z=>?_⟩
 ·obtain⟨v,q⟩:=I.cell x c e;exact absurd (ig q.lt (by rw[z];exact hb)) (mW _)
 exact absurd (ig (bK (I.pin p hp).1) (by rw[z];exact hb)) (mW _)
structure Turn(P:af)(w:ah)(K:aa)(tg:Expr)(J:It)(fp:List Addr)(it:Addr)(tn:Nat->Heap->Prop):Prop where
 mem:it∈fp
 obj:∀i h,tn i h->∀b∈fp,∃o,h.get? b=some o/\∀v,o.data≠ .cell v
 keep:∀i h h',tn i h->(∀b∈fp,∀o,h.get? b=some o->h'.get? b=some o)->tn i h'
 item:∀(X:Cx),X.prog=P->X.w=w->X.K=K->X.calm=true->∀(i:Nat) (pins:List (Addr×Obj)) (s:ae) (σ:St) (H:Hp) (E:ao->ae->Prop),Inv X pins σ H s->(∀b∈fp,jX X pins H b)->tn i s.heap->J.go i H->
  wpAny (model P w) X.A (pyNext (.ref it)) (λr s1=>∃u,r=some u/\
   wpAny (model P w) X.A (letOwnedTupleGo tg (.ref it) u) (λ_ s2=>∃x H',Inv X pins σ H' s2/\RelV x u/\J.i4 i H x H'/\tn (i+1) s2.heap/\∀b∈fp,H' b=none) E s1) E s
 done:∀(X:Cx),X.prog=P->X.w=w->X.K=K->X.calm=true->∀(i:Nat) (pins:List (Addr×Obj)) (s:ae) (σ:St) (H:Hp) (E:ao->ae->Prop),Inv X pins σ H s->(∀b∈fp,jX X pins H b)->tn i s.heap->J.stop i H->
  wpAny (model P w) X.A (pyNext (.ref it)) (λr s1=>r=none/\Inv X pins σ H s1) E s
 self:∀(A:ai) (i:Nat) (s:ae) (Q:ao->ae->Prop) (E:ao->ae->Prop),tn i s.heap->Q (.ref it) s->wpAny (model P w) A (pyIter (.ref it)) Q E s
abbrev TI:=St->Hp->(It->Hp->Prop)->Prop
def zr(X:Cx)(pins:List (Addr×Obj))(σ:St)(tg:Expr)(R:It->Hp->Prop)(Cw:ao)(s2:ae):Prop:=
 ∃(it:Addr) (fp:List Addr) (tn:Nat->Heap->Prop) (J:It) (H':Hp),Cw= .ref it/\Inv X pins σ H' s2/\Turn X.prog X.w X.K tg J fp it tn/\tn 0 s2.heap/\(∀b∈fp,jX X pins H' b)/\R J H'
def PI(X:Cx)(tg iter:Expr)(wi:TI):Prop:=
 ∀(pins:List (Addr×Obj)) (s:ae) (σ:St) (H:Hp) (R:It->Hp->Prop),Inv X pins σ H s->wi σ H R->
  wpAny (model X.prog X.w) X.A (eval iter X.env) (λv s1=>wpAny (model X.prog X.w) X.A (pyIter v) (zr X pins σ tg R) X.xe s1) X.xe s
def tY(ho:s.heap.get? it=some o)(hc:o.cls= .type n)(hd:o.data= .fields vs)
  (hn:["enumerate","zip","dict_itemiterator","dict_reverseitemiterator","odict_iterator","itertools.zip_longest","itertools.pairwise"].contains n=false)(hQ:Q () s):wpAny M A (letOwnedTupleGo tg (.ref it) u) Q E s:=by
 unfold letOwnedTupleGo;cases tg<;>first
  |exact aI hQ
  |(cases u<;>first
    |exact aI hQ
    |(refine au (wpAny_load ho ?_)
      rw[hc,hd];show wpAny M A (if(["enumerate","zip","dict_itemiterator","dict_reverseitemiterator","odict_iterator","itertools.zip_longest","itertools.pairwise"].contains n&&vs[0]?==some (rawInt _))=true then _ else _) Q E s;rw[az (by intro h;rw[hn,Bool.false_and]at h;cases h)];exact aI hQ))
def oU(K:aa)(a:Addr):It:=
 ⟨λi H=>∃xs x,aB K H a xs/\xs[i]?=some x,λi H x H'=>H'=H/\∀xs,aB K H a xs->xs[i]?=some x,λi H=>∃xs,aB K H a xs/\xs.length<=i⟩
def v_(K:aa)(a:Addr):It:=
 ⟨λi H=>∃xs x,aX K H a xs/\xs[i]?=some x,λi H x H'=>H'=H/\∀xs,aX K H a xs->xs[i]?=some x,λi H=>∃xs,aX K H a xs/\xs.length<=i⟩
def qN(lo:Int)(n:Nat):It:=⟨λi _=>i<n,λi H x H'=>H'=H/\x= .int (lo+i),λi _=>n<=i⟩
def T5{P:af}{w:ah}{K:aa}{tg:Expr}(a it:Addr):Turn P w K tg (oU K a) [it] it (λi h=>h.IsListIter it a i)where
 mem:=by simp
 obj:=λi h st b hb=>by
  have e:b=it:=by simpa using hb
  subst e;obtain⟨o,e,c,d⟩:=st;exact⟨o,e,λv z=>by simp_all⟩
 keep:=λi h h' st k=>st.at λo e=>k it (by simp) o e
 item:=by intro X hP hw hK hc i pins s σ H E I hf st hg;subst hP hw hK;obtain⟨xs,x,hq,hx⟩:=hg;obtain⟨its,rv,p,hz⟩:=I.list hq;obtain⟨u,hu,ru⟩:=rv.get hx;obtain⟨f0,f1,f2,f3,f4,f5⟩:=hf it (by simp);refine wpAny_pyNext_list_item st p.isList (x:=u) (by simpa using hu) λh' fB sb=>?_;have I1:Inv X pins σ H {s with heap:=h'}:=I.turned (t':=s.toks) (λb o hb e=>(sb.2 b hb).trans e) f0 f1 f3 f4 f5;obtain⟨o,e,c,d⟩:=id fB;exact⟨u,rfl,tY (s:={s with heap:=h'}) e c d (by decide) ⟨x,H,I1,ru,⟨rfl,λys hy=>by rw[I.vY hy hq];exact hx⟩,fB,λb hb=>(hf b hb).1⟩⟩
 done:=by intro X hP hw hK hc i pins s σ H E I hf st hg;subst hP hw hK;obtain⟨xs,hq,hx⟩:=hg;obtain⟨its,rv,p,hz⟩:=I.list hq;obtain⟨f0,f1,f2,f3,f4,f5⟩:=hf it (by simp);have hl:=rv.length;exact wpAny_pyNext_list_end (I.ok.hd hc) st p.isList (by simp;simp_all) λh' eb=>⟨rfl,I.turned (t':=s.toks) (λb o hb e=>eb b o hb e) f0 f1 f3 f4 f5⟩
 self:=λ_ _ _ _ _ st h=>wpAny_pyIter_listiter st h
def T6{P:af}{w:ah}{K:aa}{tg:Expr}(a it:Addr):Turn P w K tg (v_ K a) [it] it (λi h=>h.IsTupleIter it a i)where
 mem:=by simp
 obj:=λi h st b hb=>by
  have e:b=it:=by simpa using hb
  subst e;obtain⟨o,e,c,d⟩:=st;exact⟨o,e,λv z=>by simp_all⟩
 keep:=λi h h' st k=>st.at λo e=>k it (by simp) o e
 item:=by intro X hP hw hK hc i pins s σ H E I hf st hg;subst hP hw hK;obtain⟨xs,x,hq,hx⟩:=hg;obtain⟨its,rv,p,hz⟩:=I.tuple hq;obtain⟨u,hu,ru⟩:=rv.get hx;obtain⟨f0,f1,f2,f3,f4,f5⟩:=hf it (by simp);refine wpAny_pyNext_tuple_item st (show s.heap.IsTuple a its.toArray from p) (x:=u) (by simpa using hu) λh' fB sb=>?_;have I1:Inv X pins σ H {s with heap:=h'}:=I.turned (t':=s.toks) (λb o hb e=>(sb.2 b hb).trans e) f0 f1 f3 f4 f5;obtain⟨o,e,c,d⟩:=id fB;exact⟨u,rfl,tY (s:={s with heap:=h'}) e c d (by decide) ⟨x,H,I1,ru,⟨rfl,λys hy=>by rw[I.zm hy hq];exact hx⟩,fB,λb hb=>(hf b hb).1⟩⟩
 done:=by intro X hP hw hK hc i pins s σ H E I hf st hg;subst hP hw hK;obtain⟨xs,hq,hx⟩:=hg;obtain⟨its,rv,p,hz⟩:=I.tuple hq;obtain⟨f0,f1,f2,f3,f4,f5⟩:=hf it (by simp);have hl:=rv.length;exact wpAny_pyNext_tuple_end (I.ok.hd hc) st (show s.heap.IsTuple a its.toArray from p) (by simp;simp_all) λh' eb=>⟨rfl,I.turned (t':=s.toks) (λb o hb e=>eb b o hb e) f0 f1 f3 f4 f5⟩
 self:=λ_ _ _ _ _ st h=>wpAny_pyIter_tupleiter st h
def T7{P:af}{w:ah}{K:aa}{tg:Expr}(it:Addr)(lo:Int)(n:Nat):Turn P w K tg (qN lo n) [it] it (λi h=>IsRangeIter h it (lo+(i:Nat)*1) ((n:Int) -(i:Nat)) 1)where
 mem:=by simp
 obj:=λi h st b hb=>by simp_all
 keep:=λi h h' st k=>k it (by simp) _ st
 item:=by intro X hP hw hK hc i pins s σ H E I hf st hg;subst hP hw hK;obtain⟨f0,f1,f2,f3,f4,f5⟩:=hf it (by simp);have W:=Walks.range (prog:=X.prog) (w:=X.w) (I.ok.hd hc) it lo 1 n;refine W.item i s _ _ hg st λv h' tk hv fB kk=>?_;obtain⟨t,rfl⟩:=hv;have I1:Inv X pins σ H {s with heap:=h',toks:=tk}:=I.turned (λb o hb e=>kk b o (by simpa using hb) e) f0 f1 f3 f4 f5;refine⟨_,rfl,tY (s:={s with heap:=h',toks:=tk}) (n:="range_iterator") fB rfl rfl (by decide) ⟨.int (lo+i),H,I1,⟨t,?_⟩,⟨rfl,rfl⟩,fB,λb hb=>(hf b hb).1⟩⟩;rw[Int.mul_one]
 done:=by intro X hP hw hK hc i pins s σ H E I hf st hg;subst hP hw hK;obtain⟨f0,f1,f2,f3,f4,f5⟩:=hf it (by simp);exact wpAny_pyNext_range_end (I.ok.hd hc) st (by have:n<=i:=hg;lia) λh' eb=>⟨rfl,I.turned (t':=s.toks) (λb o hb e=>eb b o hb e) f0 f1 f3 f4 f5⟩
 self:=λ_ _ _ _ _ st h=>wpAny_pyIter_rangeiter st h
inductive Ia(K:aa)(R:It->Hp->Prop)(x:V)(H1:Hp):Prop
 |mk:∀a,x= .ref a->(∃xs,aB K H1 a xs)->R (oU K a) H1->Ia K R x H1
def T8(K:aa)(tl:TE):TI:=λσ H R=>tl σ H λx H1=>Ia K R x H1
inductive Ib(K:aa)(R:It->Hp->Prop)(x:V)(H1:Hp):Prop
 |mk:∀a,x= .ref a->(∃xs,aX K H1 a xs)->R (v_ K a) H1->Ib K R x H1
def T9(K:aa)(tl:TE):TI:=λσ H R=>tl σ H λx H1=>Ib K R x H1
def g9{l:Expr}{tl:TE}(hl:PE X l tl):PI X tg l (T8 X.K tl):=by
 intro pins s σ H R I h;refine aM (hl pins s σ H _ I h) λv s1 ⟨x,H1,I1,r1,q1⟩=>?_;obtain⟨a,e,⟨xs,hq⟩,q⟩:=q1;subst e;cases r1;obtain⟨its,rv,p,hz⟩:=I1.list hq;refine wpAny_pyIter_list p.isList ?_;refine⟨s1.heap.objs.size,[s1.heap.objs.size],_,_,H1,rfl,I1.kept (t':=s1.toks) λb o e=>bI _ e,T5 a _,⟨_,cv _ rfl,rfl,rfl⟩,λb hb=>?_,q⟩;have e:b=s1.heap.objs.size:=by simpa using hb
 subst e;exact I1.nu (aW _) (I1.aK.fresh (aW _))
def T_{l:Expr}{tl:TE}(hl:PE X l tl):PI X tg l (T9 X.K tl):=by
 intro pins s σ H R I h;refine aM (hl pins s σ H _ I h) λv s1 ⟨x,H1,I1,r1,q1⟩=>?_;obtain⟨a,e,⟨xs,hq⟩,q⟩:=q1;subst e;cases r1;obtain⟨its,rv,p,hz⟩:=I1.tuple hq;refine BP (show s1.heap.IsTuple a its.toArray from p) ?_;refine⟨s1.heap.objs.size,[s1.heap.objs.size],_,_,H1,rfl,I1.kept (t':=s1.toks) λb o e=>bI _ e,T6 a _,⟨_,cv _ rfl,rfl,rfl⟩,λb hb=>?_,q⟩;have e:b=s1.heap.objs.size:=by simpa using hb
 subst e;exact I1.nu (aW _) (I1.aK.fresh (aW _))
def Ic{pins:List (Addr×Obj)}{σ:St}{H:Hp}{s:ae}{R:It->Hp->Prop}{E:ao->ae->Prop}{lo hi:Int}{t u v:Tok}{tk:Nat}(I:Inv X pins σ H s)(h1: -(2 ^ 62)<=lo)(h2:lo<2 ^ 62)(h3: -(2 ^ 62)<=hi)(h4:hi<2 ^ 62)
  (q:R (qN lo (hi - lo).toNat) H):wpAny (model X.prog X.w) X.A (pyIter (.ref s.heap.objs.size)) (zr X pins σ tg R) E {s with heap:=s.heap.push {cls:=.type "range",data:=.fields #[.int lo t,.int hi u,.int 1 v]},toks:=tk}:=by
 refine wpAny_pyIter_range (IsRange.new ..) (small_one h1 h2 h3 h4) ?_;have I1:Inv X pins σ H {s with heap:=s.heap.push {cls:=.type "range",data:=.fields #[.int lo t,.int hi u,.int 1 v]},toks:=tk}:=I.kept λb o e=>bI _ e;refine⟨(s.heap.push {cls:=.type "range",data:=.fields #[.int lo t,.int hi u,.int 1 v]}).objs.size,[(s.heap.push {cls:=.type "range",data:=.fields #[.int lo t,.int hi u,.int 1 v]}).objs.size],_,_,H,rfl,
  I1.kept (t':=tk) λb o e=>bI _ e,T7 _ lo (hi - lo).toNat,?_,λb hb=>?_,q⟩
 ·have e1:lo+((0:Nat):Int)*1=lo:=by simp
  have e2:(((hi - lo).toNat:Nat):Int) -((0:Nat):Int)=Builtin.Range.rangeSize lo hi 1:=by rw[rangeSize_one];split<;>grind
  show IsRangeIter _ _ (lo+((0:Nat):Int)*1) ((((hi - lo).toNat:Nat):Int) -((0:Nat):Int)) 1;rw[e1,e2];exact cv _ rfl
 have e:b=(s.heap.push {cls:=.type "range",data:=.fields #[.int lo t,.int hi u,.int 1 v]}).objs.size:=by simpa using hb
 subst e;exact I1.nu (aW _) (I1.aK.fresh (aW _))
inductive Ie(R:It->Hp->Prop)(vs:List V)(H1:Hp):Prop
 |mk:∀j:Int,vs=[.int j]->-(2 ^ 62)<=j->j<2 ^ 62->R (qN 0 j.toNat) H1->Ie R vs H1
def Ua(ta:TA):TI:=λσ H R=>ta σ H λvs H1=>Ie R vs H1
inductive Ig(R:It->Hp->Prop)(vs:List V)(H1:Hp):Prop
 |mk:∀i j:Int,vs=[.int i,.int j]->(-(2 ^ 62)<=i/\i<2 ^ 62/\ -(2 ^ 62)<=j/\j<2 ^ 62)->R (qN i (j - i).toNat) H1->Ig R vs H1
def Ub(ta:TA):TI:=λσ H R=>ta σ H λvs H1=>Ig R vs H1
def Uc{a:Expr}{ta:TA}{p pos:Pos}(hg:Gl X "range")(hm:X.mg "range"=none)(ha:PA X [a] ta)(hs:starEach [a] X.env=[(false,eval a X.env)]:=by rfl):PI X tg (.Call (.Name "range" p) [a] [] pos) (Ua ta):=by
 intro pins s σ H R I h;refine Call_ (ju I hg hm boot_range (mX (aM (ha pos pins s σ H _ I h) λus s1 ⟨vs,H1,I1,r1,q1⟩=>?_) hs rfl));obtain⟨j,e,q1,q2,q⟩:=q1;subst e;cases r1 with
 |cons r rr=>cases rr;obtain⟨t,rfl⟩:=r;exact call_range_1 (Ic I1 (by simp[*]) (by simp[*]) q1 q2 (by simpa using q))
def Ud{a b:Expr}{ta:TA}{p pos:Pos}(hg:Gl X "range")(hm:X.mg "range"=none)(ha:PA X [a,b] ta)(hs:starEach [a,b] X.env=[(false,eval a X.env),(false,eval b X.env)]:=by rfl)(cw:starEach [b] X.env=[(false,eval b X.env)]:=by rfl):
  PI X tg (.Call (.Name "range" p) [a,b] [] pos) (Ub ta):=by
 intro pins s σ H R I h;refine Call_ (ju I hg hm boot_range (mX (aM (ha pos pins s σ H _ I h) λus s1 ⟨vs,H1,I1,r1,q1⟩=>?_) (by rw[hs,cw]) (by rw[cw];rfl)));obtain⟨i,j,e,⟨q1,q2,q3,q4⟩,q⟩:=q1;subst e;cases r1 with
 |cons r rr=>
  cases rr with
  |cons r' rr=>cases rr;obtain⟨t,rfl⟩:=r;obtain⟨t',rfl⟩:=r';exact call_range_2 (Ic I1 q1 q2 q3 q4 q)
def Ue(wi:TI)(g:TG)(tb:TS):TS:=λD σ H=>wi σ H λJ H1=>∃W:Nat->Nat->St->Hp->Prop,(∃m,W 0 m σ H1)/\∀i m σ H,W i m σ H->
 (J.stop i H/\D.nx σ H)\/(J.go i H/\∃N:St->Hp->Prop,(∀σ' H',N σ' H'->∃m',m'<m/\W (i+1) m' σ' H')/\∀x H',J.i4 i H x H'->g x σ H' λσ2 H2=>tb {D with nx:=N,ct:=N,bk:=D.nx} σ2 H2)
def wa(fp:List Addr)(h:Heap):List (Addr×Obj):=fp.filterMap λb=>(h.get? b).map λo=>(b,o)
def Cy{fp:List Addr}{h:Heap}{b:Addr}{o:Obj}(hb:b∈fp)(e:h.get? b=some o):(b,o)∈wa fp h:=BQ.mpr ⟨b,hb,by rw[e];rfl⟩
def Ug(hp:p∈wa fp h):p.1∈fp/\h.get? p.1=some p.2:=by
 obtain⟨b,hb,e⟩:=BQ.mp hp;cases q:h.get? b with
 |none=>simp_all
 |some o=>rw[q]at e;have e':(b,o)=p:=bC e;subst e';exact⟨hb,q⟩
def Inv.pinned{pins:List (Addr×Obj)}{σ:St}{H:Hp}{s:ae}{fp:List Addr}(I:Inv X pins σ H s)(hf:∀b∈fp,jX X pins H b)(ho:∀b∈fp,∃o,s.heap.get? b=some o/\∀v,o.data≠ .cell v):Inv X (pins++wa fp s.heap) σ H s:=
 I.HH λp hp=>(gO.mp hp).elim (λz=>I.pin p (qo _ z)) λz=>by obtain⟨hb,e⟩:=Ug z;obtain⟨f0,f1,f2,_⟩:=hf p.1 hb;obtain⟨o,e',d⟩:=ho p.1 hb;rw[e]at e';cases e';exact⟨e,f0,f1,f2,d⟩
def Inv.zt{pins pl:List (Addr×Obj)}{σ:St}{H:Hp}{s:ae}(I:Inv X (pins++pl) σ H s):Inv X pins σ H s:=I.HH λp hp=>I.pin p (qo _ (BO _ hp))
def fX{iter:Expr}{body:List Stmt}{wi:TI}{g:TG}{tb:TS}{pos:Pos}(hp:PassesOwn (model X.prog X.w) X.A X.env X.xe)(hc:X.calm=true)(hi:PI X tg iter wi)(hg:PG X tg g)(hb:iL X body tb)
  (hs:∀x,foldedSetIterable iter X.env x=pure x:=by intro _;rfl):PS X (.For tg iter body [] pos) (Ue wi g tb):=by
 intro pins s σ H D I h;refine wpAny_For (aM (hi pins s σ H _ I h) λv s1 h1=>aM h1 λCw s2 h2=>?_) hs;obtain⟨it,fp,tn,J,H2,e,I2,T,qO,f2,W,⟨m0,w0⟩,turn⟩:=h2;subst e;have stat:∀{H':Hp},(∀b∈fp,H' b=none)->∀b∈fp,jX X pins H' b:=λhn b hb=>⟨hn b hb,(f2 b hb).2⟩;refine codeAny_forLoop_any (λn s'=>∃i σ' H',Inv X pins σ' H' s'/\tn i s'.heap/\(∀b∈fp,H' b=none)/\W i n σ' H') ?_ m0 ⟨0,σ,H2,I2,qO,λb hb=>(f2 b hb).1,w0⟩;rintro n s3 ⟨i,σ3,H3,I3,zu,b8,w3⟩;rcases turn i n σ3 H3 w3 with⟨stop,qn⟩|⟨go,N,hN,step⟩
 ·refine vp hp (aM (T.done X rfl rfl rfl hc i pins s3 σ3 H3 X.xe I3 (stat b8) zu stop) λr s4 ⟨hr,I4⟩=>?_);subst hr;exact wpAny_execs_nil ⟨σ3,H3,I4,qn⟩
 refine vp hp (aM (T.item X rfl rfl rfl hc i pins s3 σ3 H3 X.xe I3 (stat b8) zu go) λr s4 ⟨u,hr,h4⟩=>?_);subst hr;refine vp hp (aM h4 λ_ s5 h_=>?_);obtain⟨x,H5,I5,r5,y5,nv,fP⟩:=h_;have Uh:=I5.pinned (stat fP) (T.obj _ _ nv);refine vp hp (aM (hg _ s5 σ3 H5 x u _ Uh r5 (step x H5 y5)) λ_ s6 ⟨σ6,H6,I6,q6⟩=>?_);refine vp hp (aM (hb _ s6 σ6 H6 _ I6 q6) λf s7 q7=>?_);have again:∀{σ7:St} {H7:Hp},Inv X (pins++wa fp s5.heap) σ7 H7 s7->N σ7 H7->∃m,m<n/\∃i σ' H',Inv X pins σ' H' s7/\tn i s7.heap/\(∀b∈fp,H' b=none)/\W i m σ' H':=λ{σ7 H7} I7 n7=>by obtain⟨m',hm,w7⟩:=hN σ7 H7 n7;refine⟨m',hm,i+1,σ7,H7,I7.zt,T.keep _ _ _ nv λb hb o e=>(I7.pin (b,o) (qo _ (qo _ (Cy hb e)))).1,λb hb=>?_,w7⟩;obtain⟨o,e,d⟩:=T.obj _ _ nv b hb;exact(I7.pin (b,o) (qo _ (qo _ (Cy hb e)))).2.1
 cases f with
 |next=>obtain⟨σ7,H7,I7,n7⟩:=q7;exact again I7 n7
 |cont=>obtain⟨σ7,H7,I7,n7⟩:=q7;exact again I7 n7
 |brk=>obtain⟨σ7,H7,I7,q7⟩:=q7;exact⟨σ7,H7,I7.zt,q7⟩
 |ret v=>obtain⟨x7,σ7,H7,I7,r7,q7⟩:=q7;exact⟨x7,σ7,H7,I7.zt,r7,q7⟩
def oV{K:aa}{a:Addr}{xs:List V}{g:TG}{tb:TS}{D:Ends}{σ:St}{H:Hp}(Pv:Nat->St->Hp->Prop)(h0:Pv 0 σ H)(hl:∀i σ H,i<=xs.length->Pv i σ H->aB K H a xs)
  (hs:∀i x σ H,xs[i]?=some x->Pv i σ H->g x σ H λσ2 H2=>tb {D with nx:=Pv (i+1),ct:=Pv (i+1),bk:=D.nx} σ2 H2)(hd:∀σ H,Pv xs.length σ H->D.nx σ H):
  ∃W:Nat->Nat->St->Hp->Prop,(∃m,W 0 m σ H)/\∀i m σ H,W i m σ H->
   ((oU K a).stop i H/\D.nx σ H)\/((oU K a).go i H/\∃N:St->Hp->Prop,(∀σ' H',N σ' H'->∃m',m'<m/\W (i+1) m' σ' H')/\∀x H',(oU K a).i4 i H x H'->g x σ H' λσ2 H2=>tb {D with nx:=N,ct:=N,bk:=D.nx} σ2 H2):=by
 refine⟨λi m σ H=>m=xs.length - i/\i<=xs.length/\Pv i σ H,⟨xs.length,by simp,bL _,h0⟩,?_⟩;rintro i m σ H ⟨rfl,hi,p⟩;have q:=hl i σ H hi p;by_cases bq:i<xs.length
 ·refine .inr ⟨⟨xs,xs[i],q,by simp[bq]⟩,Pv (i+1),λσ' H' p'=>⟨xs.length -(i+1),by grind,rfl,bq,p'⟩,λx H' y=>?_⟩;obtain⟨e,y⟩:=y;subst e;exact hs i x σ _ (y xs q) p
 have e:i=xs.length:=by lia
 subst e;exact .inl ⟨⟨xs,q,aW _⟩,hd σ H p⟩
def Ih{lo:Int}{n:Nat}{g:TG}{tb:TS}{D:Ends}{σ:St}{H:Hp}(Pv:Nat->St->Hp->Prop)(h0:Pv 0 σ H)
  (hs:∀i σ H,i<n->Pv i σ H->g (.int (lo+i)) σ H λσ2 H2=>tb {D with nx:=Pv (i+1),ct:=Pv (i+1),bk:=D.nx} σ2 H2)(hd:∀σ H,Pv n σ H->D.nx σ H):
  ∃W:Nat->Nat->St->Hp->Prop,(∃m,W 0 m σ H)/\∀i m σ H,W i m σ H->
   ((qN lo n).stop i H/\D.nx σ H)\/((qN lo n).go i H/\∃N:St->Hp->Prop,(∀σ' H',N σ' H'->∃m',m'<m/\W (i+1) m' σ' H')/\∀x H',(qN lo n).i4 i H x H'->g x σ H' λσ2 H2=>tb {D with nx:=N,ct:=N,bk:=D.nx} σ2 H2):=by
 refine⟨λi m σ H=>m=n - i/\i<=n/\Pv i σ H,⟨n,by simp,bL _,h0⟩,?_⟩;rintro i m σ H ⟨rfl,hi,p⟩;by_cases bq:i<n
 ·refine .inr ⟨bq,Pv (i+1),λσ' H' p'=>⟨n -(i+1),by grind,rfl,bq,p'⟩,λx H' y=>?_⟩;obtain⟨e,y⟩:=y;subst e y;exact hs i σ _ bq p
 have e:i=n:=by lia
 subst e;exact .inl ⟨aW _,hd σ H p⟩
abbrev R2:=V->V->Hp->VK->Prop
def dN(X:Cx)(f:ao->ao->Sem ao)(r:R2):Prop:=
 ∀(pins:List (Addr×Obj)) (s:ae) (σ:St) (H:Hp) (x y:V) (v u:ao) (Q:VK),Inv X pins σ H s->RelV x v->RelV y u->r x y H Q->
  wpAny (model X.prog X.w) X.A (f v u) (EP X pins σ Q) X.xe s
def Cz(X:Cx)(f:ao->Sem ao)(r:V->Hp->VK->Prop):Prop:=
 ∀(pins:List (Addr×Obj)) (s:ae) (σ:St) (H:Hp) (x:V) (v:ao) (Q:VK),Inv X pins σ H s->RelV x v->r x H Q->
  wpAny (model X.prog X.w) X.A (f v) (EP X pins σ Q) X.xe s
def i5(X:Cx)(f:ao)(r:List V->Hp->VK->Prop):Prop:=
 ∀(pins:List (Addr×Obj)) (s:ae) (σ:St) (H:Hp) (xs:List V) (us:List ao) (Q:VK),Inv X pins σ H s->aY xs us->r xs H Q->
  wpAny (model X.prog X.w) X.A (call f us) (EP X pins σ Q) X.xe s
def Ui(X:Cx)(r:V->Hp->(Bool->Hp->Prop)->Prop):Prop:=
 ∀(pins:List (Addr×Obj)) (s:ae) (σ:St) (H:Hp) (x:V) (v:ao) (Q:Bool->Hp->Prop),Inv X pins σ H s->RelV x v->r x H Q->
  wpAny (model X.prog X.w) X.A (truthy v) (TP X pins σ Q) X.xe s
def zw(r:R2)(ta tb:TE):TE:=λσ H Q=>ta σ H λx H1=>tb σ H1 λy H2=>r x y H2 Q
def Uj(r:V->Hp->VK->Prop)(ta:TE):TE:=λσ H Q=>ta σ H λx H1=>r x H1 Q
inductive Ii(C:Int->Int->Prop)(g:Int->Int->V)(x:V)(y:V)(H:Hp)(Q:VK):Prop
 |mk:∀i j,x= .int i->y= .int j->C i j->Q (g i j) H->Ii C g x y H Q
def rI(C:Int->Int->Prop)(g:Int->Int->V):R2:=λx y H Q=>Ii C g x y H Q
inductive Ij(g:Int->Int->V)(x:V)(y:V)(H:Hp)(Q:VK):Prop
 |mk:∀i j,x= .int i->y= .int j->Q (g i j) H->Ij g x y H Q
def oW(g:Int->Int->V):R2:=λx y H Q=>Ij g x y H Q
inductive Il(g:Int->V)(x:V)(H:Hp)(Q:VK):Prop
 |mk:∀i,x= .int i->Q (g i) H->Il g x H Q
def rU(g:Int->V):V->Hp->VK->Prop:=λx H Q=>Il g x H Q
def CA(ha:PE X a ta)(hb:PE X b tb){pins:List (Addr×Obj)}{s:ae}{σ:St}{H:Hp}{R:V->V->Hp->Prop}(I:Inv X pins σ H s)
  (h:ta σ H λx H1=>tb σ H1 λy H2=>R x y H2){Q:ao->ae->Prop}{f:ao->ao->Sem ao}
  (hf:∀v u s2 x y H2,Inv X pins σ H2 s2->RelV x v->RelV y u->R x y H2->wpAny (model X.prog X.w) X.A (f v u) Q X.xe s2):
  wpAny (model X.prog X.w) X.A (eval a X.env) (λv s₁=>wpAny (model X.prog X.w) X.A (eval b X.env) (λu s₂=>wpAny (model X.prog X.w) X.A (f v u) Q X.xe s₂) X.xe s₁) X.xe s:=by
 refine aM (ha pins s σ H _ I h) λv s1 ⟨x,H1,I1,r1,q1⟩=>?_;refine aM (hb pins s1 σ H1 _ I1 q1) λu s2 ⟨y,H2,I2,r2,q2⟩=>?_;exact hf v u s2 x y H2 I2 r1 r2 q2
def dC{op:Operator}{r:R2}(ho:dN X (binaryOp op) r)(ha:PE X a ta)(hb:PE X b tb):PE X (.BinOp a op b pos) (zw r ta tb):=by intro pins s σ H Q I h;exact wpAny_BinOp (CA ha hb I h λv u s2 x y H2 I2 rx ry q=>ho pins s2 σ H2 x y v u Q I2 rx ry q)
def eh{op:UnaryOp}{r:V->Hp->VK->Prop}(ho:Cz X (unaryOp op) r)(ha:PE X a ta):PE X (.UnaryOp op a pos) (Uj r ta):=by intro pins s σ H Q I h;exact UnaryOp_ (aM (ha pins s σ H _ I h) λv s1 ⟨x,H1,I1,r1,q1⟩=>ho pins s1 σ H1 x v Q I1 r1 q1)
def Im{f:ao->ao->Sem ao}{C:Int->Int->Prop}{g:Int->Int->Int}
  (rule:∀(i j:Int) (t u:Tok) (s:ae) (Q:ao->ae->Prop) (E:ao->ae->Prop),C i j->Q (.int (g i j) s.toks) {s with toks:=s.toks+1}->wpAny (model X.prog X.w) X.A (f (.int i t) (.int j u)) Q E s):
  dN X f (rI C λi j=>.int (g i j)):=by
 intro pins s σ H x y v u Q I rx ry h;obtain⟨i,j,rfl,rfl,hc,q⟩:=h;obtain⟨t,rfl⟩:=rx;obtain⟨t',rfl⟩:=ry;exact rule i j t t' s _ _ hc ⟨.int (g i j),H,I.tok _,⟨_,rfl⟩,q⟩
def Io{f:ao->ao->Sem ao}{g:Int->Int->Int}
  (rule:∀(i j:Int) (t u:Tok) (s:ae) (Q:ao->ae->Prop) (E:ao->ae->Prop),Q (.int (g i j) s.toks) {s with toks:=s.toks+1}->wpAny (model X.prog X.w) X.A (f (.int i t) (.int j u)) Q E s):
  dN X f (oW λi j=>.int (g i j)):=by
 intro pins s σ H x y v u Q I rx ry h;obtain⟨i,j,rfl,rfl,q⟩:=h;obtain⟨t,rfl⟩:=rx;obtain⟨t',rfl⟩:=ry;exact rule i j t t' s _ _ ⟨.int (g i j),H,I.tok _,⟨_,rfl⟩,q⟩
def zx{f:ao->ao->Sem ao}{g:Int->Int->Bool}
  (rule:∀(i j:Int) (t u:Tok) (s:ae) (Q:ao->ae->Prop) (E:ao->ae->Prop),Q (.bool (g i j)) s->wpAny (model X.prog X.w) X.A (f (.int i t) (.int j u)) Q E s):
  dN X f (oW λi j=>.bl (g i j)):=by
 intro pins s σ H x y v u Q I rx ry h;obtain⟨i,j,rfl,rfl,q⟩:=h;obtain⟨t,rfl⟩:=rx;obtain⟨t',rfl⟩:=ry;exact rule i j t t' s _ _ ⟨.bl (g i j),H,I,rfl,q⟩
def CB(i j:Int):Prop:=(-(2 ^ 64)<i/\i<2 ^ 64)\/(-(2 ^ 64)<j/\j<2 ^ 64)
def CB.ok{i j:Int}(h:CB i j):IntMulOk i j:=by
 rcases h with⟨h1,h2⟩|⟨h1,h2⟩
 ·exact .of_left (intBits_le_64 h1 h2)
 exact .of_right (intBits_le_64 h1 h2)
def lj:dN X (binaryOp .Add) (oW λi j=>.int (i+j)):=Io λ_ _ _ _ _ _ _ q=>add_int q
def jY:dN X (binaryOp .Sub) (oW λi j=>.int (i - j)):=Io λ_ _ _ _ _ _ _ q=>sub_int q
def Ip:dN X (binaryOp .Mult) (rI CB λi j=>.int (i*j)):=Im λ_ _ _ _ _ _ _ hc q=>mul_int q hc.ok
def Uk:dN X (binaryOp .Mod) (rI (λ_ j=>0<j) λi j=>.int (i % j)):=Im λi j _ _ _ _ _ hc q=>by have h1:(0:Int)<j:=hc;exact mod_int' (by lia) (by rw[Int.fmod_eq_emod_of_nonneg i (by lia)];exact q)
def Ul{f:ao->Sem ao}{g:Int->Int}
  (rule:∀(i:Int) (t:Tok) (s:ae) (Q:ao->ae->Prop) (E:ao->ae->Prop),Q (.int (g i) s.toks) {s with toks:=s.toks+1}->wpAny (model X.prog X.w) X.A (f (.int i t)) Q E s):
  Cz X f (rU λi=>.int (g i)):=by
 intro pins s σ H x v Q I rx h;obtain⟨i,rfl,q⟩:=h;obtain⟨t,rfl⟩:=rx;exact rule i t s _ _ ⟨.int (g i),H,I.tok _,⟨_,rfl⟩,q⟩
def eA:Cz X (unaryOp .USub) (rU λi=>.int (-i)):=Ul λ_ _ _ _ _ q=>neg_int q
def Iq:V->V->Bool
 | .aQ,.aQ=>true| .aQ,.int _=>true| .int _,.aQ=>true| .aQ,.bl _=>true| .bl _,.aQ=>true| .aQ,.str _=>true| .str _,.aQ=>true
 | .int _,.int _=>true| .bl _,.bl _=>true| .str _,.str _=>true| .gF _,.gF _=>true
 | .int _,.str _=>true| .str _,.int _=>true| .bl _,.str _=>true| .str _,.bl _=>true
 |_,_=>false
def Um:R2:=λx y H Q=>Iq x y=true/\Q (.bl (decide (x=y))) H
def Uo:R2:=λx y H Q=>Iq x y=true/\Q (.bl (!decide (x=y))) H
def tZ:decide (V.int i=V.int j)=(i==j):=by rw[oH];simp
def Ir:decide (V.bl i=V.bl j)=(i==j):=by rw[oH];simp
def Iu:decide (V.str i=V.str j)=(i==j):=by rw[oH];simp
def Iv:decide (V.gF i=V.gF j)=(i.toList==j.toList):=by rw[oH];simp[*]
def dD(I:Inv X pins σ H s)(q:Q (.bl k) H)(e:k=k'):EP X pins σ Q (.bool k') s:=by subst e;exact⟨.bl k,H,I,rfl,q⟩
def e_:dN X (compareOp .Eq) Um:=by
 intro pins s σ H x y v u Q I rx ry h;obtain⟨hs,q⟩:=h;cases x with
 |aQ=>
  cases rx;cases y with
  |aQ=>cases ry;exact PySem.EqNone.eq_none_none (dD I q (by simp))
  |bl j=>cases ry;exact PySem.EqNone.eq_none_bool (dD I q (by simp))
  |int j=>obtain⟨t',rfl⟩:=ry;exact PySem.EqNone.eq_none_int (dD I q (by simp))
  |str j=>obtain⟨t',rfl⟩:=ry;exact PySem.EqNone.eq_none_str (dD I q (by simp))
  |_=>exact absurd (show false=true from hs) fk
 |bl i=>
  cases rx;cases y with
  |aQ=>cases ry;exact PySem.EqNone.eq_bool_none (dD I q (by simp))
  |bl j=>cases ry;exact eq_bool (dD I q Ir)
  |str j=>obtain⟨t',rfl⟩:=ry;exact PySem.EqMixed.eq_bool_str (dD I q (by simp))
  |_=>exact absurd (show false=true from hs) fk
 |int i=>
  obtain⟨t,rfl⟩:=rx;cases y with
  |aQ=>cases ry;exact PySem.EqNone.eq_int_none (dD I q (by simp))
  |int j=>obtain⟨t',rfl⟩:=ry;exact eq_int (dD I q tZ)
  |str j=>obtain⟨t',rfl⟩:=ry;exact PySem.EqMixed.eq_int_str (dD I q (by simp))
  |_=>exact absurd (show false=true from hs) fk
 |str i=>
  obtain⟨t,rfl⟩:=rx;cases y with
  |aQ=>cases ry;exact PySem.EqNone.eq_str_none (dD I q (by simp))
  |bl j=>cases ry;exact PySem.EqMixed.eq_str_bool (dD I q (by simp))
  |int j=>obtain⟨t',rfl⟩:=ry;exact PySem.EqMixed.eq_str_int (dD I q (by simp))
  |str j=>obtain⟨t',rfl⟩:=ry;exact eq_str (dD I q Iu)
  |_=>exact absurd (show false=true from hs) fk
 |gF i=>
  obtain⟨t,rfl⟩:=rx;cases y with
  |gF j=>obtain⟨t',rfl⟩:=ry;exact PySem.W.eq_bytes (dD I q Iv)
  |_=>exact absurd (show false=true from hs) fk
 |_=>cases y<;>exact absurd (show false=true from hs) fk
def zy:dN X (compareOp .NotEq) Uo:=by
 intro pins s σ H x y v u Q I rx ry h;obtain⟨hs,q⟩:=h;cases x with
 |aQ=>
  cases rx;cases y with
  |aQ=>cases ry;exact PySem.EqNone.ne_none_none (dD I q (by simp))
  |bl j=>cases ry;exact PySem.EqNone.ne_none_bool (dD I q (by simp))
  |int j=>obtain⟨t',rfl⟩:=ry;exact PySem.EqNone.ne_none_int (dD I q (by simp))
  |str j=>obtain⟨t',rfl⟩:=ry;exact PySem.EqNone.ne_none_str (dD I q (by simp))
  |_=>exact absurd (show false=true from hs) fk
 |bl i=>
  cases rx;cases y with
  |aQ=>cases ry;exact PySem.EqNone.ne_bool_none (dD I q (by simp))
  |bl j=>cases ry;exact ne_bool (dD I q (gP not Ir))
  |str j=>obtain⟨t',rfl⟩:=ry;exact PySem.EqMixed.ne_bool_str (dD I q (by simp))
  |_=>exact absurd (show false=true from hs) fk
 |int i=>
  obtain⟨t,rfl⟩:=rx;cases y with
  |aQ=>cases ry;exact PySem.EqNone.ne_int_none (dD I q (by simp))
  |int j=>obtain⟨t',rfl⟩:=ry;exact ne_int (dD I q (gP not tZ))
  |str j=>obtain⟨t',rfl⟩:=ry;exact PySem.EqMixed.ne_int_str (dD I q (by simp))
  |_=>exact absurd (show false=true from hs) fk
 |str i=>
  obtain⟨t,rfl⟩:=rx;cases y with
  |aQ=>cases ry;exact PySem.EqNone.ne_str_none (dD I q (by simp))
  |bl j=>cases ry;exact PySem.EqMixed.ne_str_bool (dD I q (by simp))
  |int j=>obtain⟨t',rfl⟩:=ry;exact PySem.EqMixed.ne_str_int (dD I q (by simp))
  |str j=>obtain⟨t',rfl⟩:=ry;exact ne_str (dD I q (gP not Iu))
  |_=>exact absurd (show false=true from hs) fk
 |gF i=>
  obtain⟨t,rfl⟩:=rx;cases y with
  |gF j=>obtain⟨t',rfl⟩:=ry;exact PySem.W.ne_bytes (dD I q (gP not Iv))
  |_=>exact absurd (show false=true from hs) fk
 |_=>cases y<;>exact absurd (show false=true from hs) fk
def zA:dN X (compareOp .Lt) (oW λi j=>.bl (decide (i<j))):=zx λ_ _ _ _ _ _ _ q=>lt_int q
def zB:dN X (compareOp .LtE) (oW λi j=>.bl (decide (i<=j))):=zx λ_ _ _ _ _ _ _ q=>le_int q
def jv:dN X (compareOp .Gt) (oW λi j=>.bl (decide (j<i))):=zx λ_ _ _ _ _ _ _ q=>gt_int q
def zC:dN X (compareOp .GtE) (oW λi j=>.bl (decide (j<=i))):=zx λ_ _ _ _ _ _ _ q=>ge_int q
def qP:dN X (compareOp .Is) (λx y H Q=>y= .aQ/\Q (.bl (decide (x= .aQ))) H):=by
 intro pins s σ H x y v u Q I rx ry h;obtain⟨rfl,q⟩:=h;cases ry;refine is_none_gen (dD I q ?_);cases x<;>first
  |(cases rx;rfl)
  |(obtain⟨t,rfl⟩:=rx;rfl)
def oX:dN X (compareOp .IsNot) (λx y H Q=>y= .aQ/\Q (.bl (!decide (x= .aQ))) H):=by
 intro pins s σ H x y v u Q I rx ry h;obtain⟨rfl,q⟩:=h;cases ry;refine isnot_none_gen (dD I q ?_);cases x<;>first
  |(cases rx;rfl)
  |(obtain⟨t,rfl⟩:=rx;rfl)
def g_(b:Expr)(h:op≠ .In:=by decide)(h2:op≠ .NotIn:=by decide):behindInMarks op b=false:=by
 have e1:(op==CmpOp.In)=false:=by simp[*]
 have e2:(op==CmpOp.NotIn)=false:=by simp[*]
 cases b<;>simp[behindInMarks,e1,e2]
def hG{op:CmpOp}{r:R2}(ho:dN X (compareOp op) r)(ha:PE X a ta)(hb:PE X b tb)(hm:behindInMarks op b=false):PE X (.Compare a [op] [b] pos) (zw r ta tb):=by intro pins s σ H Q I h;exact wpAny_Compare1 (CA ha hb I h λv u s2 x y H2 I2 rx ry q=>ho pins s2 σ H2 x y v u Q I2 rx ry q) hm
inductive Iw(Q:Bool->Hp->Prop)(x:V)(H':Hp):Prop
 |mk:∀k,x= .bl k->Q k H'->Iw Q x H'
def Iy(t:TE):TT:=λσ H Q=>t σ H λx H'=>Iw Q x H'
def bT{op:CmpOp}{r:R2}(ho:dN X (compareOp op) r)(ha:PE X a ta)(hb:PE X b tb)(hm:behindInMarks op b=false:=by exact g_ _):PT X (.Compare a [op] [b] pos) (Iy (zw r ta tb)):=by
 intro pins s σ H Q I h;refine wpAny_isTrue_Compare1 (aM (ha pins s σ H _ I h) λv s1 ⟨x,H1,I1,r1,q1⟩=>aM (hb pins s1 σ H1 _ I1 q1) λu s2 ⟨y,H2,I2,r2,q2⟩=>
  aM (ho pins s2 σ H2 x y v u _ I2 r1 r2 q2) λc s3 ⟨z,H3,I3,r3,k,e,q3⟩=>?_) hm
 subst e;cases r3;exact lZ ⟨H3,I3,q3⟩
inductive Iz(r':R2)(tc:TE)(σ:L2.St)(Q:VK)(y:V)(z:V)(H3:Hp):Prop
 |mk:∀k,z= .bl k->(if k=true then tc σ H3 λw' H4=>r' y w' H4 Q else Q (.bl false) H3)->Iz r' tc σ Q y z H3
def IA(r r':R2)(ta tb tc:TE):TE:=λσ H Q=>ta σ H λx H1=>tb σ H1 λy H2=>r x y H2 λz H3=>Iz r' tc σ Q y z H3
def CC{op qQ:CmpOp}{r r':R2}(ho:dN X (compareOp op) r)(g8:dN X (compareOp qQ) r')(ha:PE X a ta)(hb:PE X b tb)(hc:PE X c tc)
  (hm:lastMarks [op,qQ] [b,c]=false:=by with_unfolding_all rfl):PE X (.Compare a [op,qQ] [b,c] pos) (IA r r' ta tb tc):=by
 intro pins s σ H Q I h;refine Compare_chain (aM (ha pins s σ H _ I h) λv s1 ⟨x,H1,I1,r1,q1⟩=>chain_link (aM (hb pins s1 σ H1 _ I1 q1) λu s2 ⟨y,H2,I2,r2,q2⟩=>
  aM (ho pins s2 σ H2 x y v u _ I2 r1 r2 q2) λd s3 ⟨z,H3,I3,r3,k,e,q3⟩=>?_)) hm
 subst e;cases r3;refine lZ ?_;cases k with
 |false=>exact ite_ff ⟨.bl false,H3,I3,rfl,q3⟩
 |true=>exact ite_tt (chain_last (aM (hc pins s3 σ H3 _ I3 q3) λw' s4 ⟨z',H4,I4,r4,q4⟩=>g8 pins s4 σ H4 y z' u w' Q I4 r2 r4 q4))
def IB{op qQ:CmpOp}{r r':R2}(ho:dN X (compareOp op) r)(g8:dN X (compareOp qQ) r')(ha:PE X a ta)(hb:PE X b tb)(hc:PE X c tc)
  (hm:lastMarks [op,qQ] [b,c]=false:=by with_unfolding_all rfl):PT X (.Compare a [op,qQ] [b,c] pos) (Iy (IA r r' ta tb tc)):=by
 intro pins s σ H Q I h;refine isTrue_chain (aM (ha pins s σ H _ I h) λv s1 ⟨x,H1,I1,r1,q1⟩=>test_link (aM (hb pins s1 σ H1 _ I1 q1) λu s2 ⟨y,H2,I2,r2,q2⟩=>
  aM (ho pins s2 σ H2 x y v u _ I2 r1 r2 q2) λd s3 ⟨z,H3,I3,r3,k,e,q3⟩=>?_)) hm
 subst e;cases r3;refine lZ ?_;cases k with
 |false=>obtain⟨k',e',q'⟩:=q3;cases e';exact ite_ff ⟨H3,I3,q'⟩
 |true=>refine ite_tt (test_last (aM (hc pins s3 σ H3 _ I3 q3) λw' s4 ⟨z',H4,I4,r4,q4⟩=>aM (g8 pins s4 σ H4 y z' u w' _ I4 r2 r4 q4) λd' s5 h_=>?_));obtain⟨z2,H5,I5,r5,k2,e2,q5⟩:=h_;subst e2;cases r5;exact lZ ⟨H5,I5,q5⟩
def IC(K:aa)(x:V)(H:Hp)(k:Bool):Prop:=
 match x with
 | .aQ=>k=false
 | .bl b=>k=b
 | .int i=>k=(i !=0)
 | .str y=>y.length<=sizeLine/\k=((y.length:Int)!=0)
 | .gF y=>y.size<=sizeLine/\k=((y.size:Int)!=0)
 | .ref p=>(∃xs,aB K H p xs/\k=!xs.isEmpty)\/(∃xs,aX K H p xs/\k=!xs.isEmpty)\/∃kvs,H p=some (.dK kvs)/\k=!kvs.isEmpty
 |_=>False
def Up{κ:Type}{kvs:List (κ×V)}{vs:List (κ×ao)}(r:KV kvs vs):(!vs.isEmpty)=!kvs.isEmpty:=by cases r<;>rfl
def ID{xs:List V}{its:List ao}(r:aY xs its):(!its.toArray.isEmpty)=!xs.isEmpty:=by cases r<;>simp
def nz:(sizeLine:Nat)<2 ^ 63:=by rw[bP];decide
def Uq:Ui X (λx H Q=>∃k,IC X.K x H k/\Q k H):=by
 intro pins s σ H x v Q I rx h;obtain⟨k,e,q⟩:=h;have hl:=nz;have hs:sizeLine=16777216:=bP;cases x with
 |aQ=>cases rx;have e':k=false:=e;subst e';exact truthy_none ⟨H,I,q⟩
 |bl b=>cases rx;have e':k=b:=e;subst e';exact lZ ⟨H,I,q⟩
 |int i=>obtain⟨t,rfl⟩:=rx;have e':k=(i !=0):=e;subst e';exact PySem.P.truthy_int ⟨H,I,q⟩
 |str y=>obtain⟨t,rfl⟩:=rx;obtain⟨hy,e'⟩:y.length<=sizeLine/\k=((y.length:Int)!=0):=e;subst e';exact PySem.P.truthy_str (by lia) ⟨H,I.tok _,q⟩
 |gF y=>obtain⟨t,rfl⟩:=rx;obtain⟨hy,e'⟩:y.size<=sizeLine/\k=((y.size:Int)!=0):=e;subst e';exact PySem.W.truthy_bytes (by lia) ⟨H,I.tok _,q⟩
 |ref p=>
  cases rx;have e':(∃xs,aB X.K H p xs/\k=!xs.isEmpty)\/(∃xs,aX X.K H p xs/\k=!xs.isEmpty)\/∃kvs,H p=some (.dK kvs)/\k=!kvs.isEmpty:=e;rcases e' with⟨xs,hx,e'⟩|⟨xs,hx,e'⟩|⟨kvs,hx,e'⟩
  ·subst e';obtain⟨its,r,pl,hz⟩:=I.list hx;have hlen:=r.length;exact wpAny_truthy_list pl.isList (by simp only[iJ];lia) ⟨H,I.tok _,by rw[ID r];exact q⟩
  ·subst e';obtain⟨its,r,pl,hz⟩:=I.tuple hx;have hlen:=r.length;exact truthy_tuple pl (by simp only[iJ];lia) ⟨H,I.tok _,by rw[ID r];exact q⟩
  subst e';obtain⟨hz,hS,vs,r,m⟩:kvs.length<=sizeLine/\(p==sysModules)=false/\∃vs,KV kvs vs/\s.heap.DictOf (fA X.prog X.w) p vs:=I.aK p _ hx;have hlen:kvs.length=vs.length:=bZ r;exact wpAny_truthy_dict hS m (by lia) ⟨H,I.tok _,by rw[Up r];exact q⟩
 |_=>exact(show False from e).elim
def IE(ha:PE X a ta)(he:∀whole,isTrue a X.env whole=(do let v<-whole;standAt a.pos;holding [v] (truthy v))):
  PT X a (λσ H Q=>ta σ H λx H'=>∃k,IC X.K x H' k/\Q k H'):=by
 intro pins s σ H Q I h;exact isTrue_plain (aM (ha pins s σ H _ I h) λv s1 ⟨x,H1,I1,r1,q1⟩=>Uq pins s1 σ H1 x v Q I1 r1 q1) (he _)
def vals1(r:aY [x] us):∃u,us=[u]/\RelV x u:=by
 cases r with
 |cons r1 r2=>cases r2;exact⟨_,rfl,r1⟩
def vals2(r:aY [x,y] us):∃u w',us=[u,w']/\RelV x u/\RelV y w':=by
 cases r with
 |cons r1 r2=>
  cases r2 with
  |cons r3 r4=>cases r4;exact⟨_,_,rfl,r1,r3⟩
def CD(hc:X.calm=true):i5 X (.builtin "max") (λxs H Q=>∃i j,xs=[.int i,.int j]/\Q (.int (if j>i then j else i)) H):=by
 intro pins s σ H xs us Q I r h;obtain⟨i,j,rfl,q⟩:=h;obtain⟨u,w',rfl,⟨t,rfl⟩,⟨t',rfl⟩⟩:=vals2 r;refine max_two_ints (I.ok.hd hc) λh' tk k=>⟨_,H,I.kept k,?_,q⟩;by_cases hj:j>i
 ·rw[aD hj,aD hj];exact⟨_,rfl⟩
 rw[az hj,az hj];exact⟨_,rfl⟩
def Ur:i5 X (.builtin "ord") (λxs H Q=>∃x,xs=[.str x]/\x.length=1/\Q (.int (x.cps.getD 0 0:Nat)) H):=by intro pins s σ H xs us Q I r h;obtain⟨x,rfl,hz,q⟩:=h;obtain⟨u,rfl,t,rfl⟩:=vals1 r;exact ord_of_one hz ⟨.int _,H,I.tok _,⟨_,rfl⟩,q⟩
structure qR(h:Heap)(x dx C:Addr)(mA:Str->Option ao):Prop where
 obj:h.get? x=some (PySem.W.instObj C dx)
 ns:h.Ns1 dx mA
 ne:dx≠x
def Us{h:Heap}{dx:Addr}{mA:Str->Option ao}(n:h.Ns1 dx mA):∃od,h.get? dx=some od/\∀name,PySem.W.lookIn name od=some (mA name):=by
 obtain⟨o,es,ep,ho,hd,hk,_,hm⟩:=n;refine⟨o,ho,λname=>?_⟩;have e:=hm name;unfold nsFind findBy at e;rw[<-Array.find?_toList]at e;unfold PySem.W.lookIn;rw[hd];dsimp only;split
 ·simp_all
 rename_i q;rw[q]at e;have a:es.toList.any (·.refKey)=false:=by rw[BR];intro y hy;obtain⟨z,t,ir⟩:=hk y (Array.mem_toList_iff.mp hy);simp[DictEntry.refKey,ir]
 simp_all
def qR.look(I:qR h x dx C mA):∃od,PySem.W.InstAt h x (PySem.W.instObj C dx) C (some od)/\∀name,PySem.W.lookIn name od=some (mA name):=
 let⟨od,ho,hl⟩:=Us I.ns
 ⟨od,⟨I.obj,rfl,rfl,ho⟩,hl⟩
section
variable{prog:af}{w:ah}{A:ai}{E:ao->ae->Prop}{s:ae}{K:aa}{x dx C f:Addr}{mA:Str->Option ao}{name:Str}{v:ao}
theorem get_map(X:K.In s.heap)(I:qR s.heap x dx C mA)(hg:PySem.W.plainGet K C name=true)(hh:PySem.W.hasDictIn K C=true)
  (ha:PySem.W.findIn K (.ref C) name=some none)(hv:mA name=some v)(zD:PySem.W.handedIn v=true)(h:Q v {s with toks:=s.toks+1}):
  wpAny (model prog w) A (getAttr (.ref x) name expr) Q E s:=by
 obtain⟨od,J,hl⟩:=I.look;exact PySem.W.get_value X J (PySem.W.plainGet_of hg).1 (PySem.W.findObj_own hh ha rfl (by rw[hl,hv])) zD h
theorem Ut(X:K.In s.heap)(I:qR s.heap x dx C mA)(hg:PySem.W.plainGet K C name=true)
  (hf:PySem.W.findIn K (.ref C) name=some (some (.ref f)))(ht:PySem.W.isFn K (.ref f)=true)(hv:mA name=none)(h:Q (.ref f,[.ref x]) s):
  wpAny (model prog w) A (getMethod (.ref x) name pl) Q E s:=by
 obtain⟨od,J,hl⟩:=I.look;exact PySem.W.method_fn X J (PySem.W.plainGet_of hg).1 (PySem.W.plainGet_of hg).2 hf (tH.mp ht) (by show(PySem.W.lookIn name od).map (·.isSome)=some false;simp[*]) h
theorem Uu(X:K.In s.heap)(I:qR s.heap x dx C mA)
  (hs:PySem.W.findIn K (.ref C) "__setattr__"=some (some (.builtin "object.__setattr__")))(hp:PySem.W.plainOver K C=true)(ht:PySem.W.takerIn K C name=some none)(hh:PySem.W.hasDictIn K C=true)
  (hw:PySem.Within mA ns)(hsz:ns.length<=sizeLine)
  (h:∀h',qR h' x dx C (λy=>if y=name then some v else mA y)->Heap.SameBut dx s.heap h'->Q () {s with heap:=h',toks:=s.toks+2}):
  wpAny (model prog w) A (setAttr (.ref x) name v) Q E s:=by
 obtain⟨od,J,hl⟩:=I.look;refine PySem.W.set_plain X J hs (PySem.W.osa_open (s:={s with toks:=s.toks+1}) (r:=none) X J hp ht λb=>?_);obtain⟨cd,hc,gu⟩:=PySem.W.any_some hh;have hx:s.heap.get? x=some ⟨.ref C,some dx,.plain,#[]⟩:=I.obj;refine au (aI (au (au (wpAny_loadPart hx (au (PySem.W.Looks.here (s:={s with toks:=s.toks+1}) (PySem.W.looks_clsIn X hc) ?_))))));rw[gu];refine aI (a:=some dx) (au (aI (au ?_)));refine wpAny_nsSet1 (s:={s with toks:=s.toks+1}) I.ns λh' IF cw=>?_
 obtain⟨oD,esD,epD,Uv,Uw,Ux⟩:=IF.count (PySem.Within.cons name v hw);refine au (wpAny_lookBehind Uv (by rw[Uw];exact pastItsLine_dict (cF Ux (by simp[*]))) ?_);exact aI (h _ ⟨(cw.2 _ (aO I.ne)).trans I.obj,IF,I.ne⟩ cw)
theorem Uy(X:K.In s.heap)(hm:PySem.W.makesIn K C=true)
  (hi:PySem.W.findIn K (.ref C) "__init__"=some (some (.ref f)))(hf:PySem.W.typeIn K (.ref f)=some (.type "function"))
  (h:codeAny (model prog w) (A.under (.builtin "type.__call__" ⟨.ref C::vs,kw⟩)) (.call (.ref f) ⟨.ref (s.heap.objs.size+1)::vs,kw⟩) (PySem.W.InitBack (s.heap.objs.size+1) R)
   {s with heap:=(s.heap.push PySem.W.emptyDict).push (PySem.W.instObj C s.heap.objs.size)}):
  codeAny (model prog w) A (.call (.ref C) ⟨vs,kw⟩) R s:=by
 obtain⟨hh,g,d,t,os⟩:=s;exact PySem.W.make_core (PySem.W.makes_of X hm) (PySem.W.looks_findIn X hi) (λself=>PySem.W.bind_fn X self hf) (.inl rfl) h
end
def bV(f:Str)(v:V):List (Str×V)->List (Str×V)
 |[]=>[(f,v)]
 |(g,x)::r=>if g=f then(g,v)::r else(g,x)::bV f v r
theorem IG(f g:Str)(v:V):∀fs:List (Str×V),(bV f v fs).lookup g=if g=f then some v else fs.lookup g
 |[]=>by show List.lookup g [(f,v)]=_;grind
 |(k,x)::r=>by have ih:=IG f g v r;rw[show bV f v ((k,x)::r)=(if k=f then(k,v)::r else(k,x)::bV f v r) from rfl];grind
theorem CF(f:Str)(v:V):∀fs:List (Str×V),f∈(bV f v fs).map (·.1)/\∀g,g∈fs.map (·.1)->g∈(bV f v fs).map (·.1)
 |[]=>⟨by simp[bV],λg h=>by simp at h⟩
 |(k,x)::r=>by obtain⟨i1,i2⟩:=CF f v r;rw[show bV f v ((k,x)::r)=(if k=f then(k,v)::r else(k,x)::bV f v r) from rfl];grind
theorem IH(f:Str)(v:V):∀fs:List (Str×V),(bV f v fs).length<=fs.length+1
 |[]=>by simp[bV]
 |(k,x)::r=>by
  have ih:=IH f v r;rw[show bV f v ((k,x)::r)=(if k=f then(k,v)::r else(k,x)::bV f v r) from rfl];by_cases hk:k=f
  ·simp[*]
  simp[*]
def gp.some_of(r:gp (some v) o):∃u,o=some u/\RelV v u:=by
 cases o with
 |none=>exact(show False from r).elim
 |some u=>exact⟨u,rfl,r⟩
def gp.none_of(r:gp none o):o=none:=by
 cases o with
 |none=>rfl
 |some u=>exact(show False from r).elim
def Uz(r:RelV v u):PySem.W.handedIn u=true:=by
 cases v with
 |aQ=>cases(show u=Value.none from r);rfl
 |bl b=>cases(show u=Value.bool b from r);rfl
 |int i=>obtain⟨t,e⟩:=(show∃t,u=Value.int i t from r);cases e;rfl
 |str x=>obtain⟨t,e⟩:=(show∃t,u=Value.str x t from r);cases e;rfl
 |gF b=>obtain⟨t,e⟩:=(show∃t,u=Value.bytes b t from r);cases e;rfl
 |vO b=>obtain⟨t,e⟩:=(show∃t,u=Value.float b t from r);cases e;rfl
 |ref a=>cases(show u=Value.ref a from r);rfl
 |ty n=>cases(show u=Value.type n from r);rfl
def CG(aK:cQ P w H h)(e:H a=some (.ins C dx fs)):∃mA,qR h a dx C mA/\(∀f,gp (fs.lookup f) (mA f))/\PySem.Within mA (fs.map (·.1))/\fs.length<=1000/\H dx=some (.own a):=by obtain⟨d,z,ne,ob,mA,n,r,q⟩:=(show cP P w H h a (.ins C dx fs) from aK a _ e);exact⟨mA,⟨ob,n,ne⟩,r,q,z,d⟩
structure gG(K:aa)(C:Addr):Prop where
 pg:PySem.W.plainGet K C Str.empty=true
 hd:PySem.W.hasDictIn K C=true
 po:PySem.W.plainOver K C=true
 sa:PySem.W.findIn K (.ref C) "__setattr__"=some (some (.builtin "object.__setattr__"))
def gG.get{K:aa}{C:Addr}(c:gG K C)(f:Str):PySem.W.plainGet K C f=true:=c.pg
def cU(K:aa)(C:Addr)(f:Str):Prop:=PySem.W.findIn K (.ref C) f=some none
def cU.UA{K:aa}{C:Addr}{f:Str}(n:cU K C f):PySem.W.takerIn K C f=some none:=by unfold PySem.W.takerIn;rw[show PySem.W.findIn K (.ref C) f=some none from n];rfl
structure t_(K:aa)(C:Addr)(m:Str)(f:Addr):Prop where
 at_:PySem.W.findIn K (.ref C) m=some (some (.ref f))
 fn:PySem.W.isFn K (.ref f)=true
 kp:PySem.W.keepIn K (.ref f)=true
def UB{b:Bool}{Q:ao->ae->Prop}(I:Inv X pins σ H s)(e:H a=some (.ins C dx fs))(c:gG X.K C)(n:cU X.K C f)(l:fs.lookup f=some v)
  (h:∀u s',Inv X pins σ H s'->RelV v u->Q u s'):wpAny (model X.prog X.w) A (getAttr (.ref a) f b) Q E s:=by
 obtain⟨mA,O,r,_,_,_⟩:=CG I.aK e;obtain⟨u,hu,ru⟩:=gp.some_of (v:=v) (o:=mA f) (by rw[<-l];exact r f);exact get_map I.gr O (c.get f) c.hd n hu (Uz ru) (h u _ (I.tok _) ru)
def CH{m:Str}{g:Addr}{pl:Sem Bool}{Q:ao×List ao->ae->Prop}(I:Inv X pins σ H s)(e:H a=some (.ins C dx fs))(c:gG X.K C)(k:t_ X.K C m g)(l:fs.lookup m=none)
  (h:Q (.ref g,[.ref a]) s):wpAny (model X.prog X.w) A (getMethod (.ref a) m pl) Q E s:=by
 obtain⟨mA,O,r,_,_,_⟩:=CG I.aK e;have hn:mA m=none:=gp.none_of (by rw[<-l];exact r m);exact Ut I.gr O (c.get m) k.at_ k.fn hn h
def UC{y:V}{u:ao}{Q:Unit->ae->Prop}(I:Inv X pins σ H s)(e:H a=some (.ins C dx fs))(c:gG X.K C)(n:cU X.K C f)(hl:fs.length<1000)(ry:RelV y u)
  (h:∀s',Inv X pins σ (upd H a (.ins C dx (bV f y fs))) s'->Q () s'):wpAny (model X.prog X.w) A (setAttr (.ref a) f u) Q E s:=by
 obtain⟨mA,O,r,wi,_,ho⟩:=CG I.aK e;have hz:(fs.map (·.1)).length<=sizeLine:=by rw[aT,bP];lia
 refine Uu I.gr O c.sa c.po n.UA c.hd wi hz λh' O' sb=>h _ ?_;have hd:∃o,h'.get? dx=some o:=let⟨o,_,_,e',_⟩:=O'.ns;⟨o,e'⟩;refine I.write (x:=a) (e:=dx) (by rw[e];exact True.intro) (.inr ho) (λb q hb z=>(sb.2 b hb).trans z) hd ?_;refine⟨by rw[ay O.ne];exact ho,?_,O.ne,O'.obj,_,O'.ns,λg=>?_,λg hg=>?_⟩
 ·have:=IH f y fs;exact cF ‹_› ‹_›
 ·show gp ((bV f y fs).lookup g) (if g=f then some u else mA g)
  rw[IG];by_cases q:g=f
  ·rw[aD q,aD q];exact ry
  simp[*]
 by_cases q:g=f
 ·rw[q];exact(CF f y fs).1
 refine(CF f y fs).2 g (wi g λz=>hg ?_);simp[*]
def Inv.made(I:Inv X pins σ H s):Inv X pins σ (upd (upd H s.heap.objs.size (.own (s.heap.objs.size+1))) (s.heap.objs.size+1) (.ins C s.heap.objs.size []))
  {s with heap:=(s.heap.push PySem.W.emptyDict).push (PySem.W.instObj C s.heap.objs.size)}:=by
 have e1:(s.heap.push PySem.W.emptyDict).get? s.heap.objs.size=some PySem.W.emptyDict:=cv s.heap rfl;have e2:((s.heap.push PySem.W.emptyDict).push (PySem.W.instObj C s.heap.objs.size)).get? (s.heap.objs.size+1)=some (PySem.W.instObj C s.heap.objs.size):=by have:=cv (s.heap.push PySem.W.emptyDict) (o:=PySem.W.instObj C s.heap.objs.size) rfl;rwa[ij]at this
 have e3:(s.heap.push PySem.W.emptyDict).Ns s.heap.objs.size (λ_=>none):=⟨PySem.W.emptyDict,#[],_,e1,rfl,(λe he=>absurd he (by simp)),λ_=>rfl⟩;have I1:=I.laid (a:=s.heap.objs.size) (o:=.own (s.heap.objs.size+1)) (h':=s.heap.push PySem.W.emptyDict) (t':=s.toks) (λb u q=>bI _ q) (aW _) ⟨_,e1⟩;refine I1.laid (a:=s.heap.objs.size+1) (o:=.ins C s.heap.objs.size []) (t':=s.toks) (λb u q=>bI _ q) (Nat.le_of_eq (ij _ _)) ?_;have ne:s.heap.objs.size≠s.heap.objs.size+1:=dP (Nat.lt_succ_self _);refine⟨by rw[ay ne,aA],bL _,ne,e2,λ_=>none,(Heap.Ns1.of_empty e3).at λo q=>bI _ q,λ_=>True.intro,λy hy=>absurd rfl hy⟩
def UD{prog:af}{w:ah}{env:Env}{e:Expr}{f:Str}{pos:Pos}{s:ae}{Q:ao->ae->Prop}(hb:attributeBase e f env (eval e env)=eval e env)
  (h:wpAny (model prog w) A (eval e env) (λo s₁=>wpAny (model prog w) A (getAttr o f true) Q E s₁) E s):wpAny (model prog w) A (eval (.Attribute e f pos) env) Q E s:=
 Attribute_any_ h (by rw[arm_eval_Attribute,hb])
inductive II(K:aa)(f:Str)(Q:VK)(x:V)(H1:Hp):Prop
 |mk:∀a C dx fs v,x= .ref a->H1 a=some (.ins C dx fs)->gG K C->cU K C f->fs.lookup f=some v->Q v H1->II K f Q x H1
def IJ(K:aa)(ta:TE)(f:Str):TE:=λσ H Q=>ta σ H λx H1=>II K f Q x H1
inductive IK(K:aa)(f:Str)(D:Ends)(σ:L2.St)(y:V)(x:V)(H2:Hp):Prop
 |mk:∀a C dx fs,x= .ref a->H2 a=some (.ins C dx fs)->gG K C->cU K C f->fs.length<1000->D.nx σ (upd H2 a (.ins C dx (bV f y fs)))->IK K f D σ y x H2
def UE(K:aa)(ta tv:TE)(f:Str):TS:=λD σ H=>tv σ H λy H1=>ta σ H1 λx H2=>IK K f D σ y x H2
def aV(he:PE X e ta)(hb:attributeBase e f X.env (eval e X.env)=eval e X.env):PE X (.Attribute e f pos) (IJ X.K ta f):=by intro pins s σ H Q I h;refine UD hb (aM (he pins s σ H _ I h) λu s1 h_=>?_);obtain⟨x,H1,I1,rx,a,C,dx,fs,v,ex,ea,c,n,l,q⟩:=h_;subst ex;obtain rfl:u=Value.ref a:=rx;exact UB I1 ea c n l λu' s2 I2 ru=>⟨v,H1,I2,ru,q⟩
def dH(ha:PE X o ta)(hv:PE X value tv)(hs:swapsWith value (some (.Attribute o f pos')) pos.line X.env=pure false):PS X (.Assign [.Attribute o f pos'] value pos) (UE X.K ta tv f):=by intro pins s σ H D I h;refine plainObj_wpAny_Assign_Attribute (aM (hv pins s σ H _ I h) λu s1 ⟨y,H1,I1,ry,q⟩=>aM (ha pins s1 σ H1 _ I1 q) λov s2 h_=>?_) hs;obtain⟨x,H2,I2,rx,a,C,dx,fs,ex,ea,c,n,l,q2⟩:=h_;subst ex;obtain rfl:ov=Value.ref a:=rx;exact UC I2 ea c n l ry λs3 I3=>⟨σ,_,I3,q2⟩
def aki{pl:Sem Bool}{m:Str}{apos:Pos}{args:List Expr}{pins:List (Addr×Obj)}{s:ae}{σ:St}{H:Hp}{Q:ao->ae->Prop}{te:TE}(he:PE X e te)(I:Inv X pins σ H s)
  (h:te σ H λx H1=>∃a C dx fs g,x= .ref a/\H1 a=some (.ins C dx fs)/\gG X.K C/\t_ X.K C m g/\fs.lookup m=none/\
   ∀s1,Inv X pins σ H1 s1->wpAny (model X.prog X.w) X.A (callWith pos (.ref g) [.ref a] (backTo pos (starEach args X.env)) (backToKw pos (keywordEach [] X.env))) Q X.xe s1)
  (ht:eval (.Call (.Attribute e m apos) args [] pos) X.env=(do
   let ov<-eval e X.env
   standAt apos.atName
   let(f,first)<-holding [ov] (getMethod ov m pl)
   callWith pos f first (backTo pos (starEach args X.env)) (backToKw pos (keywordEach [] X.env)))):
  wpAny (model X.prog X.w) X.A (eval (.Call (.Attribute e m apos) args [] pos) X.env) Q X.xe s:=by
 refine Sv (pl:=pl) (aM (he pins s σ H _ I h) λu s1 h_=>?_) ht;obtain⟨x,H1,I1,rx,a,C,dx,fs,g,ex,ea,c,k,l,q⟩:=h_;subst ex;obtain rfl:u=Value.ref a:=rx;exact CH I1 ea c k l (q s1 I1)
structure du(k:Nat)(A:ai):Prop where
 hd:A.handled=none
 dp:A.depth+3*k+5<recursionLimit
 un:A.units+16*k+200<cLine
def du.mono(r:du k A)(h:j<=k):du j A:=⟨r.hd,by have:=r.dp;lia,by have:=r.un;lia⟩
theorem du.deeper(r:du (k+1) A)(env:Env):du k (A.deeper env):=
 ⟨r.hd,by have:=r.dp;show A.depth+1+3*k+5<_;lia,by have:=r.un;show A.units+3+16*k+200<_;lia⟩
def UG{A:ai}{C:Addr}{us:List ao}{kw:List (Str×ao)}:(A.under (.builtin "type.__call__" ⟨.ref C::us,kw⟩)).depth=A.depth+1:=by first|rfl|simp[Around.under,Code.weight,Code.isCreation,Code.isGuard,Code.isCaller,Code.frames,Code.isFrame,guardIds]
def UH{A:ai}{C:Addr}{us:List ao}{kw:List (Str×ao)}:(A.under (.builtin "type.__call__" ⟨.ref C::us,kw⟩)).units=A.units+1:=by first|rfl|simp[Around.under,Code.cUnits,Code.frames,Code.isFrame]
def du.make(r:du (k+1) A)(C:Addr)(us:List ao)(kw:List (Str×ao)):du k (A.under (.builtin "type.__call__" ⟨.ref C::us,kw⟩)):=
 ⟨r.hd,by have:=r.dp;rw[UG];lia,by have:=r.un;rw[UH];lia⟩
theorem du.depth(r:du k A):A.depth<recursionLimit:=by have:=r.dp;lia
theorem du.units(r:du k A):A.units+64<cLine:=by have:=r.un;lia
def qS:TA:=λ_ H Q=>Q [] H
def CI(ta:TE)(tr:TA):TA:=λσ H Q=>ta σ H λx H1=>tr σ H1 λxs H2=>Q (x::xs) H2
def aC:PA X [] qS:=λ_ _ _ _ H Q I h=>oJ ⟨[],H,I,.nil,h⟩
def aq(ha:PE X e te)(hr:PA X es t)(hs:starEach (e::es) X.env=(false,eval e X.env)::starEach es X.env:=by rfl):PA X (e::es) (CI te t):=by intro pos pins s σ H Q I h;rw[hs];show wpAny _ _ (spliced ((false,eval e X.env)::backTo pos (starEach es X.env))) _ _ s;refine kT (aM (ha pins s σ H _ I h) λu s1 ⟨x,H1,I1,r1,q1⟩=>?_);exact aM (hr pos pins s1 σ H1 _ I1 q1) λus s2 ⟨xs,H2,I2,r2,q2⟩=>⟨x::xs,H2,I2,.cons r1 r2,q2⟩
def UI(t:TA):TE:=λσ H Q=>t σ H λxs H1=>xs.length<=sizeLine/\∀p,H1 p=none->Q (.ref p) (upd H1 p (.tup xs))
def UJ(t:TA):TE:=λσ H Q=>t σ H λxs H1=>xs.length<=sizeLine/\∀p,H1 p=none->Q (.ref p) (upd H1 p (.lst xs))
def jZ{x1}(h:PA X es t):PE X (.Tuple es x1 pos) (UI t):=by intro pins s σ H Q I hq;refine wpAny_Tuple_spliced (aM (h pos pins s σ H _ I hq) λus s1 ⟨xs,H1,I1,r,z,q⟩=>⟨by rw[<-r.length];exact z,?_⟩);have hf:H1 s1.heap.objs.size=none:=I1.aK.fresh (aW _);refine⟨.ref s1.heap.objs.size,upd H1 s1.heap.objs.size (.tup xs),I1.laid (t':=s1.toks) (λb u e=>bI _ e) (aW _) ?_,rfl,q _ hf⟩;exact⟨z,us,r,⟨_,cv _ rfl,rfl,_,rfl⟩⟩
def cf(h:PA X es t):PE X (.List es pos) (UJ t):=by intro pins s σ H Q I hq;refine wpAny_List_spliced (aM (h pos pins s σ H _ I hq) λus s1 ⟨xs,H1,I1,r,z,q⟩=>⟨by rw[<-r.length];exact z,?_⟩);have hf:H1 s1.heap.objs.size=none:=I1.aK.fresh (aW _);refine⟨.ref s1.heap.objs.size,upd H1 s1.heap.objs.size (.lst xs),I1.laid (t':=s1.toks) (λb u e=>bI _ e) (aW _) ?_,rfl,q _ hf⟩;exact⟨z,us,0,r,cv _ rfl⟩
abbrev Sp:=List V->Hp->VK->XK->Prop
abbrev mn:=List Env->Hp->ae->XK->ao->ae->Prop
structure qU(P:af)(w:ah)(K:aa)(mg:Str->Option ao)(base:Heap)(A:ai)(outer:List Env)(s:ae)(H:Hp):Prop where
 frames:A.frames=some outer
 mod:Mod K mg base
 bs:∀b o,base.get? b=some o->s.heap.get? b=some o/\H b=none
 mf:base.objs.size<=s.heap.objs.size
 jU:s.heap.FunFrames base outer
 qK:∀b∈lh outer,H b=none
 aK:cQ P w H s.heap
 bare:AllBare s.gens
def CE(outer:List Env)(P:af)(w:ah)(H:Hp)(s:ae)(Q:VK)(u:ao)(s':ae):Prop:=
 ∃v H',s'.os=s.os/\AllBare s'.gens/\Un (lh outer) [] H H' s.heap s'.heap/\cQ P w H' s'.heap/\RelV v u/\Q v H'
def CR(CX:mn)(outer:List Env)(P:af)(w:ah)(H:Hp)(s:ae)(Q:VK)(E:XK)(r:Result)(s':ae):Prop:=
 match r with
 | .ok (.ret u)=>CE outer P w H s Q u s'
 | .ok _=>False
 | .error e=>CX outer H s E e s'
structure hJ(P:af)(w:ah)(K:aa)(mg:Str->Option ao)(base:Heap)(CX:mn)(k:Nat)(f:Addr)(fd:FuncData)(ps:List Str)(sp:Sp):Prop where
 len:∀vs H Q E,sp vs H Q E->vs.length=ps.length
 run:∀(A:ai) (outer:List Env) (s:ae) (H:Hp) (args:Args) (us:List ao) (vs:List V) (Q:VK) (E:XK),du k A->qU P w K mg base A outer s H->BindsTo s fd args (ps.zip us)->aY vs us->sp vs H Q E->
  codeAny (model P w) A (.call (.ref f) args) (CR CX outer P w H s Q E) s
def qU.make{P:af}{w:ah}{K:aa}{mg:Str->Option ao}{base:Heap}{A:ai}{outer:List Env}{s:ae}{H:Hp}(e:qU P w K mg base A outer s H)(C:Addr)(us:List ao)(kw:List (Str×ao)):
  qU P w K mg base (A.under (.builtin "type.__call__" ⟨.ref C::us,kw⟩)) outer s H:=⟨by first|exact e.frames|(simpa[Around.under,Code.envs,Code.isFrame,pushEnvs]using e.frames),e.mod,e.bs,e.mf,e.jU,e.qK,e.aK,e.bare⟩
def Inv.IL(I:Inv X pins σ H s):qU X.prog X.w X.K X.mg X.base X.A X.stack s H:=
 ⟨I.ok.frames,I.ok.mod,I.bs,cF I.ok.mf I.sz,I.stack,I.HF,I.aK,I.bare⟩
def Inv.after(I:Inv X pins σ H s)(h:CE X.stack X.prog X.w H s Q u s'):EP X pins σ Q u s':=by obtain⟨v,H',os,bare,un,aK,r,q⟩:=h;obtain⟨hh,g,d,t,UK⟩:=s';obtain rfl:UK=s.os:=os;exact⟨v,H',I.call (h':=hh) (g':=g) (d':=d) (t':=t) (ch:=[]) un aK bare (λb z=>absurd z (by simp)),r,q⟩
def IM(sp:Sp)(fb:List V)(E:XK)(t:TA):TE:=λσ H Q=>t σ H λvs H1=>sp (vs++fb) H1 Q E
inductive IP(C:Addr)(m:Str)(sp:Sp)(fb:List V)(E:XK)(t:TA)(σ:L2.St)(Q:VK)(x:V)(H1:Hp):Prop
 |mk:∀a dx fs,x= .ref a->H1 a=some (.ins C dx fs)->fs.lookup m=none->(t σ H1 λvs H2=>sp (x::(vs++fb)) H2 Q E)->IP C m sp fb E t σ Q x H1
def zE(C:Addr)(m:Str)(sp:Sp)(fb:List V)(E:XK)(ta:TE)(t:TA):TE:=λσ H Q=>ta σ H λx H1=>IP C m sp fb E t σ Q x H1
def zF(C:Addr)(sp:Sp)(fb:List V)(E:XK)(t:TA):TE:=λσ H Q=>t σ H λvs H1=>∀x dx,H1 x=none->H1 dx=none->dx≠x->
 sp (.ref x::(vs++fb)) (upd (upd H1 dx (.own x)) x (.ins C dx [])) (λv H2=>v= .aQ/\Q (.ref x) H2) E
def Binds(K:aa)(fd:FuncData)(ps:List Str)(ds:List ao):Prop:=
 ∀(s:ae) (us:List ao),K.In s.heap->(us++ds).length=ps.length->BindsTo s fd ⟨us,[]⟩ (ps.zip (us++ds))
def Binds.all{K:aa}{fd:FuncData}{ps:List Str}(h:∀us:List ao,us.length=ps.length->bindArgs fd ⟨us,[]⟩=pure (ps.zip us)):Binds K fd ps []:=λs us _ hl=>by rw[kU]at hl⊢;exact .of_eq (h us hl)
def oY(CX:mn)(X:Cx)(E:XK):Prop:=∀(pins:List (Addr×Obj)) (σ:St) (H:Hp) (s:ae) (e:ao) (s':ae),Inv X pins σ H s->CX X.stack H s E e s'->X.xe e s'
def CJ{pins:List (Addr×Obj)}{σ:St}{H:Hp}{s:ae}{Q:VK}{us:List ao}{vs:List V}(F:hJ X.prog X.w X.K X.mg X.base CX k f fd ps sp)(hr:du k X.A)(hb:Binds X.K fd ps ds)(hd:aY fb ds)(hx:oY CX X E)
  (I:Inv X pins σ H s)(r:aY vs us)(h:sp (vs++fb) H Q E):wpAny (model X.prog X.w) X.A (call (.ref f) us) (EP X pins σ Q) X.xe s:=by
 have r2:aY (vs++fb) (us++ds):=r.append hd;have hl:(us++ds).length=ps.length:=by rw[<-r2.length];exact F.len _ _ _ _ h
 refine wpAny_call (codeAny_mono (F.run X.A X.stack s H ⟨us,[]⟩ (us++ds) (vs++fb) Q E hr I.IL (hb s us I.gr hl) r2 h) λr s' hq=>?_);cases r with
 |error e=>exact hx pins σ H s e s' I hq
 |ok fl=>
  cases fl with
  |ret u=>exact I.after hq
  |next=>assumption
  |brk=>assumption
  |cont=>assumption
def UL(F:hJ X.prog X.w X.K X.mg X.base CX k f fd ps sp)(hr:du k X.A)(hg:Gl X x)(hm:X.mg x=some (.ref f))(hk:PySem.W.keepIn X.K (.ref f)=true)(hb:Binds X.K fd ps ds)(hd:aY fb ds)(hx:oY CX X E)
  (ha:PA X (e::es) t)(hU:(x==("__debug__":Str))=false:=by decide)(he:starEach (e::es) X.env=(false,eval e X.env)::starEach es X.env:=by rfl)(eG:(backTo pos (starEach es X.env)).any (·.1)=false:=by rfl):
  PE X (.Call (.Name x p) (e::es) [] pos) (IM sp fb E t):=by
 intro pins s σ H Q I h;refine yV (zk I hg hm ?_ hU);refine PySem.W.callWith_K (h₀:=X.base) I.ok.mod.vQ hk (aM (ha pos pins s σ H _ I h) λus s1 ⟨vs,H1,I1,r,q⟩=>⟨I1.gr,?_⟩) he eG;exact CJ F hr hb hd hx I1 r q
def UM{pl:Sem Bool}(he:PE X o ta)(c:gG X.K C)(hm:t_ X.K C m f)(F:hJ X.prog X.w X.K X.mg X.base CX k f fd ps sp)(hr:du k X.A)(hb:Binds X.K fd ps ds)(hd:aY fb ds)(hx:oY CX X E)(ha:PA X (e::es) t)
  (b4:starEach (e::es) X.env=(false,eval e X.env)::starEach es X.env:=by rfl)(eG:(backTo pos (starEach es X.env)).any (·.1)=false:=by rfl)
  (ht:eval (.Call (.Attribute o m apos) (e::es) [] pos) X.env=(do
   let ov<-eval o X.env
   standAt apos.atName
   let(f,first)<-holding [ov] (getMethod ov m pl)
   callWith pos f first (backTo pos (starEach (e::es) X.env)) (backToKw pos (keywordEach [] X.env))):=by rfl):
  PE X (.Call (.Attribute o m apos) (e::es) [] pos) (zE C m sp fb E ta t):=by
 intro pins s σ H Q I h;refine Sv (pl:=pl) (aM (he pins s σ H _ I h) λu s1 h_=>?_) ht;obtain⟨x,H1,I1,rx,a,dx,fs,ex,ea,l,q⟩:=h_;subst ex;obtain rfl:u=Value.ref a:=rx;refine CH I1 ea c hm l ?_;refine PySem.W.callWith_K (first:=[.ref a]) (h₀:=X.base) I.ok.mod.vQ hm.kp (aM (ha pos pins s1 σ H1 _ I1 q) λus s2 ⟨vs,H2,I2,r,q2⟩=>⟨I2.gr,?_⟩) b4 eG;exact CJ (us:=.ref a::us) (vs:=.ref a::vs) F hr hb hd hx I2 (.cons rfl r) q2
def UN{pl:Sem Bool}(he:PE X o ta)(c:gG X.K C)(hm:t_ X.K C m f)(F:hJ X.prog X.w X.K X.mg X.base CX k f fd ps sp)(hr:du k X.A)(hb:Binds X.K fd ps ds)(hd:aY fb ds)(hx:oY CX X E)
  (ht:eval (.Call (.Attribute o m apos) [] [] pos) X.env=(do
   let ov<-eval o X.env
   standAt apos.atName
   let(f,first)<-holding [ov] (getMethod ov m pl)
   callWith pos f first (backTo pos (starEach [] X.env)) (backToKw pos (keywordEach [] X.env))):=by rfl):
  PE X (.Call (.Attribute o m apos) [] [] pos) (zE C m sp fb E ta qS):=by
 intro pins s σ H Q I h;refine Sv (pl:=pl) (aM (he pins s σ H _ I h) λu s1 h_=>?_) ht;obtain⟨x,H1,I1,rx,a,dx,fs,ex,ea,l,q⟩:=h_;subst ex;obtain rfl:u=Value.ref a:=rx;refine CH I1 ea c hm l ?_;exact PySem.W.callWith_K0 (first:=[.ref a]) I1.gr hm.kp (CJ (us:=[.ref a]) (vs:=[.ref a]) F hr hb hd hx I1 (.cons rfl .nil) q)
structure Mk(K:aa)(C f:Addr):Prop where
 makes:PySem.W.makesIn K C=true
 init:PySem.W.findIn K (.ref C) "__init__"=some (some (.ref f))
 fn:PySem.W.isFn K (.ref f)=true
 kp:PySem.W.keepIn K (.ref C)=true
def IQ{pins:List (Addr×Obj)}{σ:St}{H:Hp}{s:ae}{Q:VK}{us:List ao}{vs:List V}(M:Mk X.K C f)(F:hJ X.prog X.w X.K X.mg X.base CX k f fd ps sp)(hr:du (k+1) X.A)(hb:Binds X.K fd ps ds)(hd:aY fb ds)
  (hx:oY CX X E)(I:Inv X pins σ H s)(r:aY vs us)
  (h:∀x dx,H x=none->H dx=none->dx≠x->sp (.ref x::(vs++fb)) (upd (upd H dx (.own x)) x (.ins C dx [])) (λv H2=>v= .aQ/\Q (.ref x) H2) E):
  wpAny (model X.prog X.w) X.A (call (.ref C) us) (EP X pins σ Q) X.xe s:=by
 have hq:=h (s.heap.objs.size+1) s.heap.objs.size (I.aK.fresh (Nat.le_succ _)) (I.aK.fresh (aW _)) (dP (Nat.lt_succ_self _));have I2:=Inv.made (C:=C) I;have r2:aY (V.ref (s.heap.objs.size+1)::(vs++fb)) (Value.ref (s.heap.objs.size+1)::(us++ds)):=.cons rfl (r.append hd);have hl:(Value.ref (s.heap.objs.size+1)::us++ds).length=ps.length:=by have e:=r2.length;rw[F.len _ _ _ _ hq]at e;exact e.symm
 refine wpAny_call (Uy (f:=f) I.gr M.makes M.init (tH.mp M.fn) (codeAny_mono (F.run _ X.stack _ _ ⟨Value.ref (s.heap.objs.size+1)::us,[]⟩ (Value.ref (s.heap.objs.size+1)::(us++ds)) _ _ E (hr.make C us [])
  (I2.IL.make C us []) (hb _ (Value.ref (s.heap.objs.size+1)::us) I2.gr hl) r2 hq) λr s' qV=>?_))
 cases r with
 |error e=>exact hx pins σ _ _ e s' I2 qV
 |ok fl=>
  cases fl with
  |ret u=>obtain⟨v,H',I3,rv,ev,q3⟩:=I2.after qV;subst ev;exact⟨rv,⟨V.ref (s.heap.objs.size+1),H',I3,rfl,q3⟩⟩
  |next=>assumption
  |brk=>assumption
  |cont=>assumption
def UO(M:Mk X.K C f)(F:hJ X.prog X.w X.K X.mg X.base CX k f fd ps sp)(hr:du (k+1) X.A)(hg:Gl X x)(hm:X.mg x=some (.ref C))(hb:Binds X.K fd ps ds)(hd:aY fb ds)(hx:oY CX X E)
  (ha:PA X (e::es) t)(hU:(x==("__debug__":Str))=false:=by decide)(he:starEach (e::es) X.env=(false,eval e X.env)::starEach es X.env:=by rfl)(eG:(backTo pos (starEach es X.env)).any (·.1)=false:=by rfl):
  PE X (.Call (.Name x p) (e::es) [] pos) (zF C sp fb E t):=by
 intro pins s σ H Q I h;refine yV (zk I hg hm ?_ hU);refine PySem.W.callWith_K (h₀:=X.base) I.ok.mod.vQ M.kp (aM (ha pos pins s σ H _ I h) λus s1 ⟨vs,H1,I1,r,q⟩=>⟨I1.gr,?_⟩) he eG;exact IQ M F hr hb hd hx I1 r q
def UP(M:Mk X.K C f)(F:hJ X.prog X.w X.K X.mg X.base CX k f fd ps sp)(hr:du (k+1) X.A)(hg:Gl X x)(hm:X.mg x=some (.ref C))(hb:Binds X.K fd ps ds)(hd:aY fb ds)(hx:oY CX X E)
  (hU:(x==("__debug__":Str))=false:=by decide):PE X (.Call (.Name x p) [] [] pos) (zF C sp fb E qS):=by
 intro pins s σ H Q I h;refine yV (zk I hg hm ?_ hU);exact PySem.W.callWith_K0 I.gr M.kp (IQ (us:=[]) M F hr hb hd hx I .nil h)
def PK(X:Cx)(zG:List Keyword)(t:TA):Prop:=
 ∀(pos:Pos) (pins:List (Addr×Obj)) (s:ae) (σ:St) (H:Hp) (Q:List V->Hp->Prop),Inv X pins σ H s->t σ H Q->wpAny (model X.prog X.w) X.A (evalAll ((backToKw pos (keywordEach zG X.env)).map (·.2))) (AP X pins σ Q) X.xe s
def UQ:PK X [] qS:=λ_ _ _ _ H Q I h=>wpAny_evalAll_nil ⟨[],H,I,.nil,h⟩
def UR(ha:PE X e te)(hr:PK X zG t):PK X (⟨nm,e,kpos⟩::zG) (CI te t):=by intro pos pins s σ H Q I h;show wpAny _ _ (evalAll ((do let v<-eval e X.env;standAt pos;pure v)::(backToKw pos (keywordEach zG X.env)).map (·.2))) _ _ s;refine wpAny_evalAll_cons (au (aM (ha pins s σ H _ I h) λu s1 ⟨x,H1,I1,r1,q1⟩=>au (wpAny_standAt (aI ?_))));exact aM (hr pos pins s1 σ H1 _ I1 q1) λus s2 ⟨xs,H2,I2,r2,q2⟩=>⟨x::xs,H2,I2,.cons r1 r2,q2⟩
structure qW(N P:List Str)(sc:Scope):Prop where
 kind:sc.kind= .function
 co:sc.isCoroutine=false
 gen:sc.isGenerator=false
 nd:N.Nodup
 pre:N.take P.length=P
 par:∀x∈P,sc.names.lookup x=some .local\/sc.names.lookup x=some .cell
 US:∀y∈sc.names,y.2≠ .free
theorem IS{kindOf:Str->Option NameKind}{x:Str}:∀{binds:List (Str×ao)} {m:Str->Option ao},(∀v,(x,v)∉binds)->bindL kindOf binds m x=m x
 |[],_,_=>rfl
 |(n,v)::r,m,h=>by
  unfold bindL;rw[IS λw hw=>h w (bU _ hw)];split
  ·grind
  rfl
theorem IT{kindOf:Str->Option NameKind}{x:Str}:∀{binds:List (Str×ao)} {m:Str->Option ao},(∀v,(x,v)∉binds)->bindC kindOf binds m x=m x
 |[],_,_=>rfl
 |(n,v)::r,m,h=>by
  unfold bindC;rw[IT λw hw=>h w (bU _ hw)];split
  ·rfl
  grind
theorem IU{kindOf:Str->Option NameKind}{x:Str}{v:ao}:∀{P:List Str} {vs:List ao} {i:Nat} {m:Str->Option ao},P.Nodup->P[i]?=some x->vs[i]?=some v->kindOf x=some .local->
  bindL kindOf (P.zip vs) m x=some v
 |[],_,_,_,_,h,_,_=>by simp at h
 |_::_,[],_,_,_,_,h,_=>by simp at h
 |p::P,w::vs,0,m,nd,h1,h2,hk=>by simp at h1 h2;subst h1;subst h2;show bindL kindOf ((p,w)::P.zip vs) m p=_;unfold bindL;rw[IS λv hv=>(qp.mp nd).1 (GQ hv).1,aD hk];simp
 |p::P,w::vs,i+1,m,nd,h1,h2,hk=>by show bindL kindOf ((p,w)::P.zip vs) m x=_;unfold bindL;exact IU (i:=i) (qp.mp nd).2 (by simpa using h1) (by simpa using h2) hk
theorem IV{kindOf:Str->Option NameKind}{x:Str}{v:ao}:∀{P:List Str} {vs:List ao} {i:Nat} {m:Str->Option ao},P.Nodup->P[i]?=some x->vs[i]?=some v->kindOf x≠some .local->
  bindC kindOf (P.zip vs) m x=some v
 |[],_,_,_,_,h,_,_=>by simp at h
 |_::_,[],_,_,_,_,h,_=>by simp at h
 |p::P,w::vs,0,m,nd,h1,h2,hk=>by simp at h1 h2;subst h1;subst h2;show bindC kindOf ((p,w)::P.zip vs) m p=_;unfold bindC;rw[IT λv hv=>(qp.mp nd).1 (GQ hv).1,az hk];simp
 |p::P,w::vs,i+1,m,nd,h1,h2,hk=>by show bindC kindOf ((p,w)::P.zip vs) m x=_;unfold bindC;exact IV (i:=i) (qp.mp nd).2 (by simpa using h1) (by simpa using h2) hk
def start(N:List Str)(vs:List V):St:=vs.map some++List.replicate (N.length - vs.length) none
def bc(CX:mn)(P:af)(w:ah)(K:aa)(mg:Str->Option ao)(base:Heap)(N:List Str)(qual:Str)(scope:Scope)(f:Addr)(cd:ao)(A:ai)(outer:List Env)(s:ae)(H:Hp)(E:XK):Cx where
 prog:=P
 w:=w
 K:=K
 mg:=mg
 base:=base
 A:=A.deeper (envOfC qual scope s.heap.objs.size f cd)
 N:=N
 gq:=s
 qJ:=H
 env:=envOfC qual scope s.heap.objs.size f cd
 outer:=outer
 stack:=envOfC qual scope s.heap.objs.size f cd::outer
 ex:=[]
 calm:=true
 fn:=λ_=>true
 pn:=[]
 xe:=λe s'=>wpAny (model P w) (A.deeper (envOfC qual scope s.heap.objs.size f cd)) (leaving (envOfC qual scope s.heap.objs.size f cd) e) (λ_ CK=>CX outer H s E e CK) (λe' CK=>CX outer H s E e' CK) s'
def IW{sc:Scope}{n:Nat}{x:Str}(h:sc.names.lookup x=some .cell):∃c,(cellsFrom n sc.names []).lookup x=some c:=by have q:=PySem.W.cellsFrom_some sc.names n [] (.inl h);exact kW.mp q
def UT{CX:mn}{P:af}{w:ah}{K:aa}{mg:Str->Option ao}{base:Heap}{N ps:List Str}{qual:Str}{scope:Scope}{f:Addr}{cd:ao}{A:ai}{outer:List Env}{s s1:ae}{H:Hp}{E:XK}{us:List ao}{vs:List V}
  (S:qW N ps scope)(hd:A.handled=none)(e0:qU P w K mg base A outer s H)(hl:vs.length=ps.length)(r:aY vs us)
  (x:InCallC s s.heap.objs.size (bindL (envOfC qual scope s.heap.objs.size f cd).kindOf (ps.zip us) λ_=>none) (cellsFrom (s.heap.objs.size+1) scope.names []) (bindC (envOfC qual scope s.heap.objs.size f cd).kindOf (ps.zip us) λ_=>none) s1):
  Inv (bc CX P w K mg base N qual scope f cd A outer s H E) [] (start N vs) H s1:=by
 have eG:ps.length<=N.length:=by have:=gP List.length S.pre;rw[dQ]at this;lia
 obtain⟨h1,tk,rfl,hk⟩:=x.done;have ua:∀b:Addr,b∉(bc CX P w K mg base N qual scope f cd A outer s H E).ex:=λb z=>absurd (show b∈([]:List Addr) from z) (by simp)
 refine⟨⟨e0.mod,S.kind,rfl,rfl,aW _,λy z c h1 h2=>?_,λy hy=>?_,λy c _ h=>?_,λ_=>hd,Around.frames_deeper e0.frames,.inr ⟨rfl,rfl⟩,λb z=>absurd z (ua b),e0.bs,e0.mf,λb _ _=>ua b,λb z=>absurd z (ua b),e0.jU,e0.qK⟩,
  rfl,e0.bare,Un.kept hk,⟨_,x.toInCall.ns,λi y v h1 h2 h3=>?_⟩,λy c h=>⟨_,x.cell y c h⟩,e0.aK.fresh (aW _),λy c h=>?_,λp hp=>absurd (show p∈([]:List (Addr×Obj)) from hp) (by simp),e0.aK.kept hk,?_⟩
 ·exact name_of_addr x.apart (jo h1) (jo h2)
 ·have hy:scope.names.lookup y=some .cell\/scope.names.lookup y=some .free:=hy
  rcases hy with hy|hy
  ·exact IW hy
  exact absurd rfl (S.US _ (jo hy))
 ·exact gN (x.above y c (jo h))
 ·have hi:i<vs.length:=by
   unfold start at h2;by_cases hi:i<vs.length
   ·exact hi
   rw[BS (by simpa using hi)]at h2;rw[List.getElem?_replicate]at h2;simp_all
  have ha:vs[i]?=some v:=by unfold start at h2;rw[tI (by simpa using hi),cb]at h2;simp_all
  obtain⟨u,hu,rv⟩:=r.get ha;have hp:ps[i]?=some y:=by rw[<-S.pre,Sw (by simp_all)];exact h1
  have IX:ps.Nodup:=by rw[<-S.pre];exact S.nd.sublist (List.take_sublist _ _)
  refine⟨u,rv,?_⟩;rcases S.par y (d_ hp)with k|k
  ·exact .inl ⟨k,IU IX hp hu k⟩
  obtain⟨c,e⟩:=IW (n:=s.heap.objs.size+1) k;refine .inr ⟨.inl k,c,e,?_⟩;have q:=x.cell y c e;rw[IV IX hp hu (by show scope.names.lookup y≠_;rw[k];decide)]at q;exact q
 ·exact e0.aK.fresh (gN (x.above y c (jo h)))
 unfold start;show _=N.length;simp[*]
def UU{CX:mn}{P:af}{w:ah}{K:aa}{mg:Str->Option ao}{base:Heap}{k:Nat}{f:Addr}{name qual:Str}{params:Arguments}{body:List Stmt}{scope:Scope}{dV kV doc pm aU ct oc:ao}{an od:Option Addr}
  {jw:Array (Option ao)}{N ps:List Str}{sp:Sp}(lk:K.lookup f=some ⟨oc,od,.func (PySem.W.fnOf name qual params body scope dV kV doc pm an aU ct),jw⟩)(mi:PySem.W.codeIn K aU qual=true)(S:qW N ps scope)
  (len:∀vs H Q E,sp vs H Q E->vs.length=ps.length)
  (qX:∀(A:ai) (outer:List Env) (s:ae) (H:Hp) (vs:List V) (Q:VK) (E:XK),du k (A.deeper (envOfC qual scope s.heap.objs.size f aU))->sp vs H Q E->
   ∃t,iL (bc CX P w K mg base N qual scope f aU A outer s H E) body t/\t {nx:=λ_ H'=>Q .aQ H',rt:=Q} (start N vs) H):
  hJ P w K mg base CX (k+1) f (PySem.W.fnOf name qual params body scope dV kV doc pm an aU ct) ps sp:=by
 refine⟨len,λA outer s H args us vs Q E hr e0 hb r mo=>?_⟩;have hl:=len _ _ _ _ mo;have KX:K.In s.heap:=e0.mod.vQ.keeps λb o e=>(e0.bs b o e).1;have lim:s.heap.NoLimit:=e0.mod.nolimit.keeps λb o e=>(e0.bs b o e).1;have UW:∀y∈ps.zip us,scope.names.lookup y.1=some .local\/(scope.names.lookup y.1=some .cell/\((cellsFrom (s.heap.objs.size+1) scope.names []).lookup y.1).isSome=true):=λ⟨n,v⟩ hy=>by
  rcases S.par n (GQ hy).1 with q|q
  ·exact .inl q
  exact .inr ⟨q,PySem.W.cellsFrom_some _ _ _ (.inl q)⟩
 refine codeAny_call_function hr.depth (KX _ _ lk) rfl S.co S.gen rfl (PySem.W.codeRec_of KX mi) (hb _ _ _ _ ?_);refine wpAny_newFunctionEnv_cells S.kind UW λenv he s1 x=>?_;subst he;refine⟨lim.keeps x.toInCall.keep,codeAny_func ?_⟩;obtain⟨t,ht,hq⟩:=qX A outer s H vs Q E (hr.deeper _) mo;have I:Inv (bc CX P w K mg base N qual scope f aU A outer s H E) [] (start N vs) H s1:=UT S hr.hd e0 hl r x;refine kR (ht [] s1 (start N vs) H _ I hq) (λfl s' hs=>?_) λe s' hs=>hs;have fin:∀{σ':St} {H':Hp} {v:V} {u:ao},Inv (bc CX P w K mg base N qual scope f aU A outer s H E) [] σ' H' s'->RelV v u->Q v H'->CE outer P w H s Q u s':=
  λ{σ' H' v u} J rv q=>⟨v,H',J.os,J.bare,J.base,J.aK,rv,q⟩
 cases fl with
 |ret u=>obtain⟨v,σ',H',J,rv,q⟩:=hs;exact fin J rv q
 |next=>obtain⟨σ',H',J,q⟩:=hs;exact fin (v:=V.aQ) (u:=Value.none) J rfl q
 |brk=>obtain⟨_,_,_,q⟩:=hs;exact False.elim q
 |cont=>obtain⟨_,_,_,q⟩:=hs;exact False.elim q
section
variable{X:Cx}{x:Str}{p pos:Pos}{e:Expr}{es:List Expr}{t:TA}{id T:String}{r:List V->Hp->VK->Prop}
def IY(r:List V->Hp->VK->Prop)(t:TA):TE:=λσ H Q=>t σ H λvs H1=>r vs H1 Q
theorem cR(hc:i5 X (.builtin id) r)(hg:Gl X x)(hm:X.mg x=none)(hv:bootBuiltins x=some (.builtin id))(ha:PA X (e::es) t)(hn:x≠"__name__":=by decide)(hU:(x==("__debug__":Str))=false:=by decide)
  (he:starEach (e::es) X.env=(false,eval e X.env)::starEach es X.env:=by rfl)(eG:(backTo pos (starEach es X.env)).any (·.1)=false:=by rfl):PE X (.Call (.Name x p) (e::es) [] pos) (IY r t):=by
 intro pins s σ H Q I h;refine yV (ju I hg hm hv ?_ hn hU);exact PyProof.Rows.callWith_builtin1 (aM (ha pos pins s σ H _ I h) λus s1 ⟨vs,H1,I1,r1,q1⟩=>hc pins s1 σ H1 vs us Q I1 r1 q1) he eG
theorem zH(hc:i5 X (.type T) r)(hg:Gl X x)(hm:X.mg x=none)(hv:bootBuiltins x=some (.type T))(ha:PA X (e::es) t)(hn:x≠"__name__":=by decide)(hU:(x==("__debug__":Str))=false:=by decide)
  (he:starEach (e::es) X.env=(false,eval e X.env)::starEach es X.env:=by rfl)(eG:(backTo pos (starEach es X.env)).any (·.1)=false:=by rfl):PE X (.Call (.Name x p) (e::es) [] pos) (IY r t):=by
 intro pins s σ H Q I h;refine yV (ju I hg hm hv ?_ hn hU);exact mX (aM (ha pos pins s σ H _ I h) λus s1 ⟨vs,H1,I1,r1,q1⟩=>hc pins s1 σ H1 vs us Q I1 r1 q1) he eG
end
end L2
namespace HT
open PySem PyProof.Rows
def UX(ht:IsTup s.heap t vs.toArray)(hb:IsTup s.heap b ws.toArray)(hv:vs≠[])
  (h1:ws=[]->Q (.ref t) s)(h2:ws≠[]->Q (.ref s.heap.objs.size) {s with heap:=s.heap.push {cls:=.type "tuple",data:=.seq (vs++ws).toArray}})
  (hsz:vs.length+ws.length<=sizeLine):wpAny (model prog w) A (binaryOp .Add (.ref t) (.ref b)) Q E s:=by
 obtain⟨⟨cls,dd,data,sl⟩,ho,hc,n,hd⟩:=id ht;obtain⟨⟨UY,zI,data2,zJ⟩,nA,mq,n2,hd2⟩:=id hb;simp only at hc hd mq hd2;subst hc hd mq hd2;have e:vs.toArray++ws.toArray=(vs++ws).toArray:=by simp
 by_cases hw:ws=[]
 ·exact concat_meets ⟨_,ho,rfl⟩ ⟨_,nA,rfl⟩ noFill_tuple_add seq_tuple_add Sx Sy (Sz _ _)
   (tuple_addW1 t b vs.toArray ws.toArray n n2 dd zI sl zJ (by simpa using hv) (by simp[hw])) ⟨ho,nA,h1 hw⟩
 refine concat_meets ⟨_,ho,rfl⟩ ⟨_,nA,rfl⟩ noFill_tuple_add seq_tuple_add Sx Sy (Sz _ _)
  (tuple_addW2 t b vs.toArray ws.toArray n n2 dd zI sl zJ (by simpa using hv) (by simpa using hw) (by assumption)) ⟨ho,nA,?_⟩
 rw[e];exact h2 hw
def ba(n d:Nat):Option Int->Nat
 |none=>d
 |some v=>if v<0 then(v+(n:Int)).toNat else min v.toNat n
def qY(n d k:Nat):ba n d (some (k:Int))=min k n:=by show(if(k:Int)<0 then((k:Int)+(n:Int)).toNat else min (k:Int).toNat n)=min k n;rw[az (by simp[*]),vq]
def CL(n d:Nat)(hd:d<=n)(o:Option Int):ba n d o<=n:=by
 cases o with
 |none=>exact hd
 |some v=>
  show(if v<0 then(v+(n:Int)).toNat else min v.toNat n)<=n;by_cases hv:v<0
  ·rw[aD hv];lia
  rw[az hv];exact GR _ _
def IZ(v:Int)(n d:Nat):(if v<0 then max (v+(n:Int)) 0 else min v (n:Int))=((ba n d (some v):Nat):Int):=by
 show(if v<0 then max (v+(n:Int)) 0 else min v (n:Int))=(((if v<0 then(v+(n:Int)).toNat else min v.toNat n):Nat):Int);by_cases hv:v<0
 ·simp[*]
 simp only[az hv];grind
def UZ(lo hi:Option Int)(n:Nat):Builtin.Slice.sliceAdjust lo hi 1 (n:Int)=(((ba n 0 lo:Nat):Int),((ba n n hi:Nat):Int)):=by
 have h1:¬((1:Int)<0):=by decide
 unfold Builtin.Slice.sliceAdjust;simp only[h1,fK];refine tJ ?_ ?_
 ·cases lo with
  |none=>rfl
  |some v=>exact IZ v n 0
 cases hi with
 |none=>rfl
 |some v=>exact IZ v n n
def U0(i j:Nat):Builtin.Slice.slicePlaces (i:Int) (j:Int) 1=j - i:=by
 unfold Builtin.Slice.slicePlaces;have h1:(1:Int)>0:=by decide
 simp only[h1,gE,Int.ediv_one];split<;>simp_all
def I0(p:IsPart v o)(h:Q o s):wpAny (model prog w) A (Builtin.Slice.slicePartIndex v) Q E s:=by
 cases p with
 |none=>exact slicePart_none h
 |int i t=>exact slicePart_int h
def U1{sl:Addr}{vl vu:ao}{lo hi:Option Int}{n:Nat}{Q:Int×Int×Nat->ae->Prop}(hs:s.heap.IsSliceOf sl vl vu .none)(pl:IsPart vl lo)(pu:IsPart vu hi)
  (h:Q (((ba n 0 lo:Nat):Int),1,ba n n hi - ba n 0 lo) s):wpAny (model prog w) A (Builtin.Slice.sliceApplied (.ref sl) (pure (n:Int))) Q E s:=by
 obtain⟨os,qZ,gH,ub⟩:=id hs;unfold Builtin.Slice.sliceApplied Builtin.Slice.sliceFields;refine au (au (fV qZ ub (x:=vl) rfl (au (fV qZ ub (x:=vu) rfl (au (fV qZ ub (x:=.none) rfl (aI ?_)))))));refine au (slicePart_none ?_);show wpAny _ _ (if((1:Int)==0)=true then _ else _) _ _ s;rw[az (by decide)];refine au (I0 pl (au (I0 pu (au (aI ?_)))));show wpAny _ _ (match Builtin.Slice.sliceAdjust lo hi 1 (n:Int)with|(lo,hi)=>pure (lo,(1:Int),Builtin.Slice.slicePlaces lo hi 1)) _ _ s;rw[UZ lo hi n];show wpAny _ _ (pure (((ba n 0 lo:Nat):Int),(1:Int),Builtin.Slice.slicePlaces ((ba n 0 lo:Nat):Int) ((ba n n hi:Nat):Int) 1)) _ _ s;rw[U0];exact aI h
def U2(xs:Array ao)(i k:Nat):((List.range k).filterMap λ(m:Nat)=>xs[((i:Int)+(m:Int)*1).toNat]?).toArray=((xs.toList.drop i).take k).toArray:=by
 have e:(λ(m:Nat)=>xs[((i:Int)+(m:Int)*1).toNat]?)=λm=>xs[i+m]?:=by
  funext m;have:((i:Int)+(m:Int)*1).toNat=i+m:=by lia
  rw[this]
 rw[e];have:=pick_run xs i k;rw[GU]at this;have e2:((λx=>xs[x]?)∘λx=>i+x)=λm=>xs[i+m]?:=rfl;simp_all
def U3{t sl:Addr}{items:Array ao}{vl vu:ao}{lo hi:Option Int}{Q:ao->ae->Prop}(ht:IsTup s.heap t items)(hs:s.heap.IsSliceOf sl vl vu .none)(pl:IsPart vl lo)(pu:IsPart vu hi)
  (hw:¬(ba items.size 0 lo=0/\ba items.size items.size hi=items.size))
  (h:Q (.ref s.heap.objs.size) {s with heap:=s.heap.push {cls:=.type "tuple",data:=.seq ((items.toList.drop (ba items.size 0 lo)).take (ba items.size items.size hi - ba items.size 0 lo)).toArray}})
  (hsz:items.size<=sizeLine):wpAny (model prog w) A (getItem (.ref t) (.ref sl)) Q E s:=by
 have wb:sizeOk (.seq ((items.toList.drop (ba items.size 0 lo)).take (ba items.size items.size hi - ba items.size 0 lo)).toArray):=by show((items.toList.drop (ba items.size 0 lo)).take (ba items.size items.size hi - ba items.size 0 lo)).toArray.size<=sizeLine;rw[iJ,dQ,qt,qu];omega
 have hj:ba items.size items.size hi<=items.size:=CL _ _ (aW _) hi;obtain⟨os,qZ,gH,ub⟩:=id hs;have U4:s.TypeIs (.ref sl) "slice":=⟨os,qZ,gH⟩;unfold getItem;try with_reducible refine jn ?_
 first|refine au (aI ?_)|skip
 refine au (wpAny_sequenceKey ht.typeIs (by decide) ?_);refine au (l5 (name:=Str.ofString "__getitem__") ht.typeIs SD
  (gY SD ht.typeIs entry_tuple_getitem ?_ (args_tuple_getitem _ _)))
 show wpAny _ _ (Builtin.Tuple.tupleItemsOf (.ref t)>>=_) _ _ s;refine au (tupleItemsOf_ ht ?_);refine au (wpAny_typeOf U4 ?_);rw[aD (by decide)];refine au (U1 hs pl pu ?_);have j0:¬((((ba items.size 0 lo:Nat):Int)==0&&(1:Int)==1&&(ba items.size items.size hi - ba items.size 0 lo)==items.size)=true):=by simp_all
 show wpAny _ _ (if(((ba items.size 0 lo:Nat):Int)==0&&(1:Int)==1&&(ba items.size items.size hi - ba items.size 0 lo)==items.size)=true then _ else _) _ _ s;rw[az j0,U2];first
  |exact au (m:=Builtin.Tuple.tupleExact _) (ip (aI ⟨_,rfl,aI h⟩) wb)
  |exact au (m:=Builtin.Tuple.tupleExact _) (ip (au (aI (aI ⟨_,rfl,aI h⟩))) wb)
  |exact au (au (m:=Builtin.Tuple.tupleExact _) (ip (aI (aI ⟨_,rfl,aI h⟩)) wb))
  |exact au (au (m:=Builtin.Tuple.tupleExact _) (ip (aI ⟨_,rfl,aI h⟩) wb))
end HT
namespace L2
open PySem PySem.Spec PyProof.Rows
abbrev TO:=St->Hp->(Option Int->Hp->Prop)->Prop
def PO(X:Cx)(e:Option Expr)(t:TO):Prop:=
 ∀(pins:List (Addr×Obj)) (s:ae) (σ:St) (H:Hp) (Q:Option Int->Hp->Prop),Inv X pins σ H s->t σ H Q->
  wpAny (model X.prog X.w) X.A (evalPart e X.env) (λu s'=>∃o H',Inv X pins σ H' s'/\IsPart u o/\Q o H') X.xe s
def U5:TO:=λ_ H Q=>Q none H
inductive I_(Q:Option Int->Hp->Prop)(x:V)(H1:Hp):Prop
 |mk:∀i,x= .int i->Q (some i) H1->I_ Q x H1
def U6(t:TE):TO:=λσ H Q=>t σ H λx H1=>I_ Q x H1
section
variable{X:Cx}{e:Expr}{te:TE}{lo hi:Option Expr}{tl th:TO}{pos p2:Pos}
theorem mr:PO X none U5:=by intro pins s σ H Q I h;rw[evalPart_none];exact aI ⟨none,H,I,.none,h⟩
theorem i6(h:PE X e te):PO X (some e) (U6 te):=by intro pins s σ H Q I hw;rw[evalPart_some];refine aM (h pins s σ H _ I hw) λu s1 ⟨x,H1,I1,r1,q1⟩=>?_;obtain⟨i,rfl,q⟩:=q1;obtain⟨t,rfl⟩:=r1;exact⟨some i,H1,I1,.int i t,q⟩
def zK(X:Cx)(r:V->Option Int->Option Int->Hp->VK->Prop):Prop:=
 ∀(pins:List (Addr×Obj)) (s:ae) (σ:St) (H:Hp) (x:V) (v vl vu:ao) (lo hi:Option Int) (sl:Addr) (Q:VK),Inv X pins σ H s->RelV x v->s.heap.IsSliceOf sl vl vu .none->IsPart vl lo->IsPart vu hi->r x lo hi H Q->
  ∃T id,typeLookup (.type T) "__getitem__"=pure (some (.builtin id))/\s.TypeIs v T/\wpAny (model X.prog X.w) X.A (getItem v (.ref sl)) (EP X pins σ Q) X.xe s
def U7(r:V->Option Int->Option Int->Hp->VK->Prop)(te:TE)(tl th:TO):TE:=λσ H Q=>te σ H λx H1=>tl σ H1 λl H2=>th σ H2 λu H3=>r x l u H3 Q
def mw{r:V->Option Int->Option Int->Hp->VK->Prop}(hr:zK X r)(he:PE X e te)(hl:PO X lo tl)(hu:PO X hi th):PE X (.Subscript e (.Slice lo hi none p2) pos) (U7 r te tl th):=by intro pins s σ H Q I h;refine Subscript_ (aM (he pins s σ H _ I h) λv s1 ⟨x,H1,I1,r1,q1⟩=>?_);refine wpAny_Slice (aM (hl pins s1 σ H1 _ I1 q1) λvl s2 ⟨l,H2,I2,pl,q2⟩=>aM (hu pins s2 σ H2 _ I2 q2) λvu s3 ⟨u,H3,I3,pu,q3⟩=>?_);rw[evalPart_none];refine aI ?_;have I4:Inv X pins σ H3 {s3 with heap:=s3.heap.push {cls:=.type "slice",data:=.fields #[vl,vu,.none]}}:=I3.kept (t':=s3.toks) λb ob q=>bI _ q;obtain⟨T,id,hT,ht,hg⟩:=hr pins {s3 with heap:=s3.heap.push {cls:=.type "slice",data:=.fields #[vl,vu,.none]}} σ H3 x v vl vu l u s3.heap.objs.size Q I4 r1 (Heap.IsSliceOf.new ..) pl pu q3;show wpAny (model X.prog X.w) X.A (subscriptTail e (.Slice lo hi none p2) v (.ref s3.heap.objs.size)) (EP X pins σ Q) X.xe {s3 with heap:=s3.heap.push {cls:=.type "slice",data:=.fields #[vl,vu,.none]}};exact tail_any (ops:=[.ref s3.heap.objs.size,v]) ht hT hg (by with_unfolding_all rfl)
def f_(xs:List V)(lo hi:Option Int):List V:=(xs.drop (HT.ba xs.length 0 lo)).take (HT.ba xs.length xs.length hi - HT.ba xs.length 0 lo)
theorem Ja(xs:List V)(lo hi:Option Int):(f_ xs lo hi).length<=xs.length:=by unfold f_;rw[dQ,qt];lia
inductive Jb(K:aa)(x:V)(lo:Option Int)(hi:Option Int)(H:Hp)(Q:VK):Prop
 |mk:∀a xs,x= .ref a->aX K H a xs->¬(HT.ba xs.length 0 lo=0/\HT.ba xs.length xs.length hi=xs.length)->(∀p,H p=none->Q (.ref p) (upd H p (.tup (f_ xs lo hi))))->Jb K x lo hi H Q
def U8(K:aa):V->Option Int->Option Int->Hp->VK->Prop:=λx lo hi H Q=>Jb K x lo hi H Q
theorem CM:zK X (U8 X.K):=by
 intro pins s σ H x v vl vu lo hi sl Q I rx hs pl pu h;obtain⟨a,xs,rfl,hx,hw,q⟩:=h;cases rx;obtain⟨its,r,ht,hz⟩:=I.tuple hx;have hlen:its.toArray.size=xs.length:=by rw[iJ];exact r.length.symm
 refine⟨"tuple",_,SD.lookup,ht.typeIs,?_⟩;refine HT.U3 ht hs pl pu (by rw[hlen];exact hw) ?_ (by rw[hlen];exact hz);rw[hlen];refine⟨.ref s.heap.objs.size,_,I.laid (t':=s.toks) (o:=.tup (f_ xs lo hi)) (λb ob q=>bI _ q) (aW _) ?_,rfl,q _ (I.aK.fresh (aW _))⟩;exact⟨cF (Ja xs lo hi) hz,_,(r.drop (HT.ba xs.length 0 lo)).take (HT.ba xs.length xs.length hi - HT.ba xs.length 0 lo),IsTup.new _ _⟩
inductive Jc(K:aa)(x:V)(y:V)(H:Hp)(Q:VK):Prop
 |mk:∀a b xs ys,x= .ref a->y= .ref b->aX K H a xs->aX K H b ys->xs≠[]->xs.length+ys.length<=sizeLine->(ys=[]->Q (.ref a) H)->(ys≠[]->∀p,H p=none->Q (.ref p) (upd H p (.tup (xs++ys))))->Jc K x y H Q
def U9(K:aa):R2:=λx y H Q=>Jc K x y H Q
theorem aY.zL(r:aY xs us):us=[]↔xs=[]:=by
 cases r with
 |nil=>simp
 |cons _ _=>simp
theorem Jd:dN X (binaryOp .Add) (U9 X.K):=by intro pins s σ H x y v u Q I rx ry h;obtain⟨a,b,xs,ys,rfl,rfl,ha,hb,hx,hz,q1,q2⟩:=h;cases rx;cases ry;obtain⟨its,r1,p1,_⟩:=I.tuple ha;obtain⟨gS,r2,p2,_⟩:=I.tuple hb;refine HT.UX p1 p2 (λz=>hx (r1.zL.mp z)) (λz=>⟨.ref a,H,I,rfl,q1 (r2.zL.mp z)⟩) (λz=>?_) (by rw[<-r1.length,<-r2.length];exact hz);refine⟨.ref s.heap.objs.size,_,I.laid (t':=s.toks) (o:=.tup (xs++ys)) (λb ob q=>bI _ q) (aW _) ?_,rfl,q2 (λw=>z (r2.zL.mpr w)) _ (I.aK.fresh (aW _))⟩;exact⟨by simp[*],_,r1.append r2,IsTup.new _ _⟩
end
def j7(n:Nat)(i:Int):Option Nat:=if 0<=i then(if i<n then some i.toNat else none)else if -(n:Int)<=i then some (i+n).toNat else none
def iu{α:Type}(xs:List α)(i:Int):Option α:=(j7 xs.length i).bind λj=>xs[j]?
def Je(h:j7 n i=some j):seqIndex? i n=some j/\j<n/\ -(n:Int)<=i/\i<n:=by
 unfold j7 at h;by_cases h0:0<=i
 ·rw[aD h0]at h
  by_cases h1:i<n
  ·rw[aD h1]at h;have e:i.toNat=j:=bC h;exact⟨by rw[seqIndex_of h0 h1,e],by lia,by lia,h1⟩
  simp_all
 rw[az h0]at h;by_cases h1: -(n:Int)<=i
 ·rw[aD h1]at h;have e:(i+n).toNat=j:=bC h;exact⟨by rw[seqIndex_neg (by simp_all) h1,e],by lia,h1,by lia⟩
 simp_all
def CO{α:Type}{xs:List α}{i:Int}{v:α}(h:iu xs i=some v):∃j,seqIndex? i xs.length=some j/\xs[j]?=some v/\j<xs.length/\ -(xs.length:Int)<=i/\i<xs.length:=by
 unfold iu at h;cases e:j7 xs.length i with
 |none=>simp_all
 |some j=>rw[e]at h;obtain⟨h1,h2,h3,h4⟩:=Je e;exact⟨j,h1,h,h2,h3,h4⟩
def bE{α:Type}{xs:List α}{j:Nat}{v:α}(h:xs[j]?=some v):iu xs (j:Int)=some v:=by
 have hj:j<xs.length:=(dq.mp h).1;have e:j7 xs.length (j:Int)=some j:=by unfold j7;simp[*]
 unfold iu;rw[e];exact h
def U_{α:Type}(xs:List α)(v:α):iu (xs++[v]) (-1)=some v:=by
 have hl:(xs++[v]).length=xs.length+1:=by simp
 have e:j7 (xs++[v]).length (-1)=some xs.length:=by unfold j7;rw[hl,az (by decide),aD (by lia)];congr 1;lia
 unfold iu;simp_all
def Va(b:Expr):Prop:=∀o i,subscripted b false o i=operate [o,i] (getItem o i)
def wc(X:Cx)(r:R2):Prop:=
 ∀(value slice:Expr) (pins:List (Addr×Obj)) (s:ae) (σ:St) (H:Hp) (x y:V) (v u:ao) (Q:VK),Inv X pins σ H s->RelV x v->RelV y u->r x y H Q->
  subscripted slice false v u=operate [v,u] (getItem v u)->wpAny (model X.prog X.w) X.A (subscriptTail value slice v u) (EP X pins σ Q) X.xe s
def uc(X:Cx)(id:String)(r:V->List V->Hp->VK->Prop):Prop:=
 ∀(pins:List (Addr×Obj)) (s:ae) (σ:St) (H:Hp) (x:V) (xs:List V) (v:ao) (us:List ao) (Q:VK),Inv X pins σ H s->RelV x v->aY xs us->r x xs H Q->
  wpAny (model X.prog X.w) X.A (call (.builtin id) (v::us)) (EP X pins σ Q) X.xe s
section
def bj(hr:wc X r)(ha:PE X a ta)(hb:PE X b tb)(hs:Va b:=by exact λ_ _=>rfl):PE X (.Subscript a b pos) (zw r ta tb):=by intro pins s σ H Q I h;exact Subscript_ (CA ha hb I h λv u s2 x y H2 I2 rx ry q=>hr a b pins s2 σ H2 x y v u Q I2 rx ry q (hs _ _))
inductive Jf(K:aa)(x:V)(y:V)(H:Hp)(Q:VK):Prop
 |mk:∀p xs i v,x= .ref p->y= .int i->aB K H p xs->iu xs i=some v->Q v H->Jf K x y H Q
def Vb(K:aa):R2:=λx y H Q=>Jf K x y H Q
inductive Jg(K:aa)(x:V)(y:V)(H:Hp)(Q:VK):Prop
 |mk:∀p xs i v,x= .ref p->y= .int i->aX K H p xs->iu xs i=some v->Q v H->Jg K x y H Q
def Jh(K:aa):R2:=λx y H Q=>Jg K x y H Q
inductive Ji(x:V)(y:V)(H:Hp)(Q:VK):Prop
 |mk:∀z i c,x= .str z->y= .int i->z.length<=sizeLine->iu z.cps.toList i=some c->Q (.str ⟨#[c]⟩) H->Ji x y H Q
def Vc:R2:=λx y H Q=>Ji x y H Q
def cH:wc X (Vb X.K):=by
 intro value slice pins s σ H x y v u Q I rx ry h hs;obtain⟨p,xs,i,z,rfl,rfl,hq,he,q⟩:=h;cases rx;obtain⟨t,rfl⟩:=ry;obtain⟨its,r,pl,hz⟩:=I.list hq;obtain⟨j,h1,h2,h3,h4,h5⟩:=CO he;obtain⟨w,ew,jx⟩:=r.get h2;have hl:=r.length;have hn:=nz;have fin:EP X pins σ Q w s:=⟨z,H,I,jx,q⟩;by_cases h0:0<=i
 ·have hj:i.toNat=j:=by rw[seqIndex_of h0 h5]at h1;exact bC h1
  exact item_listR pl.isList h0 (by lia) (by simp[*]) fin hs
 have hj:(i+(its.toArray.size:Int)).toNat=j:=by rw[seqIndex_neg (by simp_all) h4]at h1;simp_all
 exact subscriptTail_builtinR (x:=w) pl.isList.typeIs slot_list_getitem.lookup
  (wpAny_getItem_list_neg (Q:=λr s'=>r=w/\EP X pins σ Q r s') pl.isList (by simp_all) (by simp_all) (by lia) (by rw[hj];simpa using ew) ⟨rfl,fin⟩) hs
def eQ:wc X (Jh X.K):=by
 intro value slice pins s σ H x y v u Q I rx ry h hs;obtain⟨p,xs,i,z,rfl,rfl,hq,he,q⟩:=h;cases rx;obtain⟨t,rfl⟩:=ry;obtain⟨its,r,pl,hz⟩:=I.tuple hq;obtain⟨j,h1,h2,h3,h4,h5⟩:=CO he;obtain⟨w,ew,jx⟩:=r.get h2;have hl:=r.length;have hn:=nz;have fin:EP X pins σ Q w s:=⟨z,H,I,jx,q⟩;exact subscriptTail_builtinR (x:=w) pl.typeIs slot_tuple_getitem.lookup
  (getItem_tuple (j:=j) (Q:=λr s'=>r=w/\EP X pins σ Q r s') pl (by lia) (by lia) (by simp_all) (by simpa using ew) ⟨rfl,fin⟩) hs
def zM:wc X Vc:=by
 intro value slice pins s σ H x y v u Q I rx ry h hs;obtain⟨z,i,c,rfl,rfl,hz,he,q⟩:=h;obtain⟨t,rfl⟩:=rx;obtain⟨t',rfl⟩:=ry;obtain⟨j,h1,h2,h3,h4,h5⟩:=CO he;have hl:z.cps.toList.length=z.length:=by simp[Str.length]
 rw[hl]at h1 h4 h5;have hn:=nz;exact tail_any (vt s z t) slot_str_getitem.lookup (getItem_str (c:=c) (by
  lia) (by rw[h1];simpa using h2) ⟨.str ⟨#[c]⟩,H,I.tok _,⟨_,rfl⟩,q⟩) hs
def Vd(its:List ao)(n j:Nat)(u:ao):Obj.mapSeq (·.setIfInBounds j u) {cls:=.type "list",data:=.seq its.toArray n}={cls:=.type "list",data:=.seq (its.set j u).toArray n}:=by simp[Obj.mapSeq]
theorem Inv.lst{pins:List (Addr×Obj)}{σ:St}{H:Hp}{s:ae}{p:Addr}{xs:List V}(I:Inv X pins σ H s)(h:H p=some (.lst xs)):
  ∃(its:List ao) (n:Nat),aY xs its/\s.heap.get? p=some {cls:=.type "list",data:=.seq its.toArray n}/\xs.length<=sizeLine:=by
 obtain⟨z,its,n,r,e⟩:=I.aK p _ h;exact⟨its,n,r,e,z⟩
def Inv.Ve{pins:List (Addr×Obj)}{σ:St}{H:Hp}{s:ae}{p:Addr}{xs ys:List V}{its its':List ao}{n n':Nat}{f:Obj->Obj}(I:Inv X pins σ H s)(h:H p=some (.lst xs))
  (ho:s.heap.get? p=some {cls:=.type "list",data:=.seq its.toArray n})(hf:f {cls:=.type "list",data:=.seq its.toArray n}={cls:=.type "list",data:=.seq its'.toArray n'})(r:aY ys its')(hz:ys.length<=sizeLine)(t:Nat):
  Inv X pins σ (upd H p (.lst ys)) {s with heap:=s.heap.update p f,toks:=t}:=by
 have e:(s.heap.update p f).get? p=some {cls:=.type "list",data:=.seq its'.toArray n'}:=by rw[vv f ho (by rw[hf]<;>rfl),hf]
 refine I.write (x:=p) (e:=p) (by rw[h];trivial) (.inl rfl) (λb u hb q=>(vx _ _ (aO hb)).trans q) ⟨_,e⟩ ?_;exact⟨hz,its',n',r,e⟩
inductive Jj(o:V)(i:V)(v:V)(H:Hp)(Q:Hp->Prop):Prop
 |mk:∀p xs k j,o= .ref p->i= .int k->H p=some (.lst xs)->j7 xs.length k=some j->Q (upd H p (.lst (xs.set j v)))->Jj o i v H Q
def Vf:V->V->V->Hp->(Hp->Prop)->Prop:=λo i v H Q=>Jj o i v H Q
def set_list:HQ X Vf:=by
 intro pins s σ H o i v ov iv u Q I ro ri rv h;obtain⟨p,xs,k,j,rfl,rfl,hp,hj,q⟩:=h;cases ro;obtain⟨t,rfl⟩:=ri;obtain⟨its,n,r,ho,hz⟩:=I.lst hp;obtain⟨h1,h2,h3,h4⟩:=Je hj;have hl:=r.length;have hn:=nz;have I':Inv X pins σ (upd H p (.lst (xs.set j v))) {s with heap:=s.heap.update p (Obj.mapSeq (·.setIfInBounds j u))}:=
  I.Ve hp ho (Vd its n j u) (r.set rv j) (by rw[tK];exact hz) s.toks
 by_cases h0:0<=k
 ·have hk:k.toNat=j:=by rw[seqIndex_of h0 h4]at h1;exact bC h1
  exact PySem.W.ki_setAt ho h0 (by lia) (by simp_all) (by rw[hk];exact⟨_,I',q⟩)
 have hk:(k+(its.toArray.size:Int)).toNat=j:=by rw[seqIndex_neg (by simp_all) h3]at h1;simp_all
 exact PySem.W.ki_setBack ho (by simp_all) (by simp_all) (by lia) (by rw[hk];exact⟨_,I',q⟩)
def Vg(lo hi:Option Int)(n:Nat):(sliceBounds lo hi none n).1=((HT.ba n 0 lo:Nat):Int)/\(sliceBounds lo hi none n).2.1=((HT.ba n n hi:Nat):Int)/\(sliceBounds lo hi none n).2.2=1:=by
 refine⟨?_,?_,rfl⟩
 ·cases lo with
  |none=>simp[sliceBounds,HT.ba]
  |some i=>
   simp only[sliceBounds,HT.ba,Option.getD_none,show(1:Int)>0 by decide,gE];by_cases h:i<0
   ·simp only[h,gE]<;>grind
   simp only[h,fK]<;>grind
 cases hi with
 |none=>simp[sliceBounds,HT.ba]
 |some i=>
  simp only[sliceBounds,HT.ba,Option.getD_none,show(1:Int)>0 by decide,gE];by_cases h:i<0
  ·simp only[h,gE]<;>grind
  simp only[h,fK]<;>grind
def Vh(its:List ao)(lo hi:Option Int):slicePick its.toArray lo hi none=((its.drop (HT.ba its.length 0 lo)).take (HT.ba its.length its.length hi - HT.ba its.length 0 lo)).toArray:=by obtain⟨h1,h2,h3⟩:=Vg lo hi its.toArray.size;unfold slicePick;rw[h1,h2,h3];simp only[sliceRange_one,pick_run,iJ]<;>rfl
inductive Jk(K:aa)(x:V)(lo:Option Int)(hi:Option Int)(H:Hp)(Q:VK):Prop
 |mk:∀a xs,x= .ref a->aB K H a xs->(∀p,H p=none->Q (.ref p) (upd H p (.lst (f_ xs lo hi))))->Jk K x lo hi H Q
def Vi(K:aa):V->Option Int->Option Int->Hp->VK->Prop:=λx lo hi H Q=>Jk K x lo hi H Q
def wd:zK X (Vi X.K):=by intro pins s σ H x v vl vu lo hi sl Q I rx hs pl pu h;obtain⟨a,xs,rfl,hx,q⟩:=h;cases rx;obtain⟨its,r,ht,hz⟩:=I.list hx;have hlen:=r.length;refine⟨"list",_,slot_list_getitem.lookup,ht.isList.typeIs,?_⟩;refine wpAny_getItem_list_slice ht.isList hs pl pu .none (by simp) ?_ (by simp_all);rw[Vh,<-hlen];refine⟨.ref s.heap.objs.size,_,I.laid (t':=s.toks) (o:=.lst (f_ xs lo hi)) (λb ob q=>bI _ q) (aW _) ?_,rfl,q _ (I.aK.fresh (aW _))⟩;exact⟨cF (Ja xs lo hi) hz,_,0,(r.drop (HT.ba xs.length 0 lo)).take (HT.ba xs.length xs.length hi - HT.ba xs.length 0 lo),cv _ rfl⟩
def j8:V->Bool
 | .aQ=>true
 | .bl _=>true
 | .int _=>true
 | .str _=>true
 |_=>false
def my:V->V->Bool
 | .aQ,.aQ=>true
 | .bl a,.bl b=>a==b
 | .bl a,.int b=>(if a then 1 else 0)==b
 | .int a,.bl b=>a==(if b then 1 else 0)
 | .int a,.int b=>a==b
 | .str a,.str b=>a==b
 |_,_=>false
def Jl(ry:RelV y u)(rx:RelV x v)(fy:j8 y=true)(fx:j8 x=true):SeqAt.EqAt A s u v (my y x):=by
 cases y with
 |aQ=>
  cases ry;cases x with
  |aQ=>cases rx;exact SeqAt.EqAt.same _
  |bl b=>cases rx;exact SeqAt.EqAt.none_bool b
  |int b=>obtain⟨t,rfl⟩:=rx;exact SeqAt.EqAt.none_int b t
  |str b=>obtain⟨t,rfl⟩:=rx;exact SeqAt.EqAt.none_str b t
  |_=>exact absurd (show false=true from fx) fk
 |bl a=>
  cases ry;cases x with
  |aQ=>cases rx;exact SeqAt.EqAt.bool_none a
  |bl b=>cases rx;exact SeqAt.EqAt.bool_bool a b
  |int b=>obtain⟨t,rfl⟩:=rx;exact SeqAt.EqAt.bool_int a b t
  |str b=>obtain⟨t,rfl⟩:=rx;exact SeqAt.EqAt.bool_str a b t
  |_=>exact absurd (show false=true from fx) fk
 |int a=>
  obtain⟨t',rfl⟩:=ry;cases x with
  |aQ=>cases rx;exact SeqAt.EqAt.int_none a t'
  |bl b=>cases rx;exact SeqAt.EqAt.int_bool a t' b
  |int b=>obtain⟨t,rfl⟩:=rx;exact SeqAt.EqAt.int_int a t' b t
  |str b=>obtain⟨t,rfl⟩:=rx;exact SeqAt.EqAt.int_str a t' b t
  |_=>exact absurd (show false=true from fx) fk
 |str a=>
  obtain⟨t',rfl⟩:=ry;cases x with
  |aQ=>cases rx;exact SeqAt.EqAt.str_none a t'
  |bl b=>cases rx;exact SeqAt.EqAt.str_bool a t' b
  |int b=>obtain⟨t,rfl⟩:=rx;exact SeqAt.EqAt.str_int a t' b t
  |str b=>obtain⟨t,rfl⟩:=rx;exact SeqAt.EqAt.str_str a t' b t
  |_=>exact absurd (show false=true from fx) fk
 |_=>exact absurd (show false=true from fy) fk
def mz(x:V)(u:ao):Bool:=match u with
 | .none=>my .aQ x
 | .bool b=>my (.bl b) x
 | .int i _=>my (.int i) x
 | .str z _=>my (.str z) x
 |_=>false
def zN(r:RelV y u)(f:j8 y=true):mz x u=my y x:=by
 cases y with
 |aQ=>cases r;rfl
 |bl b=>cases r;rfl
 |int i=>obtain⟨t,rfl⟩:=r;rfl
 |str z=>obtain⟨t,rfl⟩:=r;rfl
 |_=>exact absurd (show false=true from f) fk
theorem CP:∀{xs:List V} {us:List ao},aY xs us->xs.all j8=true->us.any (mz x)=xs.any λy=>my y x
 |_,_,.nil,_=>rfl
 |y::xs,u::us,.cons r t,f=>by rw[BU,fo]at f;rw[l6,l6,zN r f.1,CP t f.2]
theorem zO(rx:RelV x v)(fx:j8 x=true):∀{xs:List V} {us:List ao},aY xs us->xs.all j8=true->∀u∈us,SeqAt.EqAt A s u v (mz x u)
 |_,_,.nil,_=>λu hu=>by simp_all
 |y::xs,u::us,.cons r t,f=>λu' hu=>by
  rw[BU,fo]at f;rcases be.mp hu with rfl|hu
  ·rw[zN r f.1];exact Jl r rx f.1 fx
  exact zO rx fx t f.2 u' hu
def lq(x:V)(xs:List V):Bool:=xs.any λy=>my y x
inductive Jm(K:aa)(neg:Bool)(x:V)(y:V)(H:Hp)(Q:VK):Prop
 |mk:∀p xs,y= .ref p->(aB K H p xs\/aX K H p xs)->j8 x=true->xs.all j8=true->Q (.bl (if neg then !lq x xs else lq x xs)) H->Jm K neg x y H Q
def Jn(K:aa)(neg:Bool):R2:=λx y H Q=>Jm K neg x y H Q
def Jo:dN X (compareOp .In) (Jn X.K false):=by
 intro pins s σ H x y v u Q I rx ry h;obtain⟨p,xs,rfl,hq,fx,fs,q⟩:=h;cases ry;rcases hq with hq|hq
 ·obtain⟨its,r,pl,hz⟩:=I.list hq;refine SeqAt.in_listAt (mz x) pl.isList (λw hw=>zO rx fx r fs w (by simpa using hw)) ⟨.bl _,H,I,rfl,?_⟩;rw[show its.toArray.any (mz x)=its.any (mz x) by simp,CP r fs];exact q
 obtain⟨its,r,pl,hz⟩:=I.tuple hq;refine SeqAt.in_tupleAt (mz x) pl (λw hw=>zO rx fx r fs w (by simpa using hw)) ⟨.bl _,H,I,rfl,?_⟩;rw[show its.toArray.any (mz x)=its.any (mz x) by simp,CP r fs];exact q
def eU:i5 X (.builtin "len") (λxs H Q=>∃p ys,xs=[.ref p]/\(aB X.K H p ys\/aX X.K H p ys)/\Q (.int ys.length) H):=by
 intro pins s σ H xs us Q I r h;obtain⟨p,ys,rfl,hq,q⟩:=h;obtain⟨u,rfl,rx⟩:=vals1 r;cases rx;have hn:=nz;rcases hq with hq|hq
 ·obtain⟨its,r',pl,hz⟩:=I.list hq;have hlen:=r'.length;exact Calls.call_len_list pl.isList (by simp only[iJ]<;>lia) ⟨.int ys.length,H,I.tok _,⟨s.toks+1,by simp[*]⟩,q⟩
 obtain⟨its,r',pl,hz⟩:=I.tuple hq;have hlen:=r'.length;exact len_tuple pl (by simp only[iJ]<;>lia) ⟨.int ys.length,H,I.tok _,⟨s.toks+1,by simp[*]⟩,q⟩
def Vj:i5 X (.builtin "len") (λxs H Q=>∃z,xs=[.str z]/\z.length<=sizeLine/\Q (.int z.length) H):=by intro pins s σ H xs us Q I r h;obtain⟨z,rfl,hz,q⟩:=h;obtain⟨u,rfl,t,rfl⟩:=vals1 r;have hn:=nz;exact len_str (by lia) ⟨.int z.length,H,I.tok _,⟨_,rfl⟩,q⟩
def Vk:i5 X (.type "list") (λxs H Q=>∃p ys,xs=[.ref p]/\(aB X.K H p ys\/aX X.K H p ys)/\∀l,H l=none->Q (.ref l) (upd H l (.lst ys))):=by
 intro pins s σ H xs us Q I r h;obtain⟨p,ys,rfl,hq,q⟩:=h;obtain⟨u,rfl,rx⟩:=vals1 r;cases rx;have fin:∀(its:List ao),aY ys its->ys.length<=sizeLine->∀(h':Heap) (c':Nat),(∀b o',s.heap.get? b=some o'->h'.get? b=some o')->
   h'.get? s.heap.objs.size=some {cls:=.type "list",dict:=none,data:=.seq its.toArray c',slots:=#[]}->EP X pins σ Q (.ref s.heap.objs.size) {s with heap:=h'}:=λits r' hz h' c' kp e=>
  ⟨.ref s.heap.objs.size,_,I.laid (t':=s.toks) kp (aW _) (show cP X.prog X.w _ h' _ (.lst ys) from⟨hz,its,c',r',e⟩),rfl,q _ (I.aK.fresh (aW _))⟩
 rcases hq with hq|hq
 ·obtain⟨its,r',pl,hz⟩:=I.list hq;have hlen:=r'.length;obtain⟨o,ho,hc,n,hd⟩:=pl.isList;exact call_list_seq p (.inl rfl) ho hc hd (λh' c' kp e=>fin its r' hz h' c' kp e) (by simp_all)
 obtain⟨its,r',pl,hz⟩:=I.tuple hq;have hlen:=r'.length;obtain⟨o,ho,hc,n,hd⟩:=pl;exact call_list_seq p (.inr rfl) ho hc hd (λh' c' kp e=>fin its r' hz h' c' kp e) (by simp_all)
def Jp:i5 X (.type "tuple") (λxs H Q=>∃p ys,xs=[.ref p]/\((aB X.K H p ys/\∀l,H l=none->Q (.ref l) (upd H l (.tup ys)))\/(aX X.K H p ys/\Q (.ref p) H))):=by
 intro pins s σ H xs us Q I r h;obtain⟨p,ys,rfl,h⟩:=h;obtain⟨u,rfl,rx⟩:=vals1 r;cases rx;rcases h with⟨hq,q⟩|⟨hq,q⟩
 ·obtain⟨its,r',pl,hz⟩:=I.list hq
  have hlen:=r'.length;refine call_tuple_list pl.isList (λh' kp=>?_) (by simp_all);have I1:Inv X pins σ H {s with heap:=h'}:=I.kept (t':=s.toks) kp;have I2:Inv X pins σ (upd H h'.objs.size (.tup ys)) {s with heap:=h'.push {cls:=.type "tuple",data:=.seq its.toArray}}:=
   I1.laid (t':=s.toks) (λb o e=>bI _ e) (aW _) (show cP X.prog X.w _ _ _ (.tup ys) from⟨hz,its,r',IsTup.new _ _⟩)
  exact⟨.ref h'.objs.size,_,I2,rfl,q _ (I1.aK.fresh (aW _))⟩
 obtain⟨its,r',pl,hz⟩:=I.tuple hq;exact call_tuple_same pl ⟨.ref p,H,I,rfl,q⟩
def CQ(K:aa)(T:String)(x:V)(H:Hp):Prop:=match x with
 | .str _=>T="str"
 | .int _=>T="int"
 | .ref p=>(T="list"/\∃xs,aB K H p xs)\/(T="tuple"/\∃o,K.lookup p=some o/\o.cls= .type "tuple"/\o.dict=none)\/
   (T="dict"/\((∃kvs,H p=some (.dK kvs))\/∃kvs,H p=some (.dT kvs)))\/(T="set"/\∃S n,H p=some (.set S n))
 |_=>False
def Jq(I:Inv X pins σ H s)(r:RelV x v)(ty:CQ X.K T x H):
  s.TypeIs v T/\∀a,v= .ref a->∃ob,s.heap.get? a=some ob/\ob.dict=none:=by
 cases x with
 |str z=>obtain⟨t,rfl⟩:=r;cases(show T="str" from ty);exact⟨vt s z t,λ_ e=>nomatch e⟩
 |int i=>obtain⟨t,rfl⟩:=r;cases(show T="int" from ty);exact⟨typeIs_int s i t,λ_ e=>nomatch e⟩
 |ref p=>
  cases r;rcases ty with⟨rfl,xs,hq⟩|⟨rfl,o,hk,hc,hd⟩|⟨rfl,hk⟩|⟨rfl,S,n,hk⟩
  ·obtain⟨its,_,pl,_⟩:=I.list hq;refine⟨pl.isList.typeIs,λa e=>?_⟩;cases e;obtain⟨o,n,e,c,hd,_⟩:=pl;exact⟨o,e,hd⟩
  ·refine⟨⟨o,I.gr p o hk,hc⟩,λa e=>?_⟩;cases e;exact⟨o,I.gr _ o hk,hd⟩
  ·have z:∃o,s.heap.get? p=some o/\o.ExactDict:=by
    rcases hk with⟨kvs,hk⟩|⟨kvs,hk⟩
    ·obtain⟨_,_,_,_,o,_,_,e,ex,_⟩:=I.aK p _ hk;exact⟨o,e,ex⟩
    obtain⟨_,_,_,_,o,_,_,e,ex,_⟩:=I.aK p _ hk;exact⟨o,e,ex⟩
   obtain⟨o,e,ex⟩:=z;refine⟨⟨o,e,ex.1⟩,λa e2=>?_⟩;cases e2;exact⟨o,e,ex.2.1⟩
  obtain⟨o,_,_,_,e,ex,_⟩:=I.aK p _ hk;refine⟨⟨o,e,ex.1⟩,λa e2=>?_⟩;cases e2;exact⟨o,e,ex.2.1⟩
 |_=>exact False.elim ty
def Vl(K:aa)(T:String)(r:V->List V->Hp->VK->Prop)(to:TE):TE:=λσ H Q=>to σ H λx H1=>CQ K T x H1/\r x [] H1 Q
def Vm(K:aa)(T:String)(r:V->List V->Hp->VK->Prop)(to:TE)(t:TA):TE:=λσ H Q=>to σ H λx H1=>CQ K T x H1/\t σ H1 λxs H2=>r x xs H2 Q
variable{o e:Expr}{es:List Expr}{to:TE}{t:TA}{name:Str}{apos dv:Pos}{T id:String}{r:V->List V->Hp->VK->Prop}
theorem Vn(pa:PlainAttrs T)(slot:Slot T name id)(nB:typeOf (.builtin id)=pure (.type "method_descriptor"))(hm:uc X id r)(ho:PE X o to)
  (ls:attributeBase o name X.env (eval o X.env)=eval o X.env:=by rfl)(lx:(apos.endLine==dv.line)=true:=by rfl):PE X (.Call (.Attribute o name apos) [] [] dv) (Vl X.K T r to):=by
 intro pins s σ H Q I h;refine wpAny_Call_method0_late ls lx (aM (ho pins s σ H _ I h) λv s1 ⟨x,H1,I1,r1,ty,q1⟩=>?_);obtain⟨h1,h2⟩:=Jq I1 r1 ty;exact⟨T,id,pa,slot,nB,h1,h2,tL rfl (PySem.evalArgs_none (hm pins s1 σ H1 x [] v [] Q I1 r1 .nil q1))⟩
def jy(pa:PlainAttrs T)(slot:Slot T name id)(nB:typeOf (.builtin id)=pure (.type "method_descriptor"))(hm:uc X id r)(ho:PE X o to)(ha:PA X (e::es) t)
  (ls:attributeBase o name X.env (eval o X.env)=eval o X.env:=by rfl)
  (q_:((backTo dv (starEach (e::es) X.env)).all (λx=>!x.1)&&(backToKw dv (keywordEach [] X.env)).all (λx=>x.1.isSome)
   &&decide ((e::es).length+([]:List Keyword).length+(if([]:List Keyword).isEmpty then 0 else 1)<30))=true:=by rfl)
  (lx:(apos.endLine==dv.line)=true:=by rfl)(hs:starEach (e::es) X.env=(false,eval e X.env)::starEach es X.env:=by rfl)(akj:(backTo dv (starEach es X.env)).any (·.1)=false:=by rfl):
  PE X (.Call (.Attribute o name apos) (e::es) [] dv) (Vm X.K T r to t):=by
 intro pins s σ H Q I h;refine wpAny_Call_method_late ls q_ lx rfl (aM (ho pins s σ H _ I h) λv s1 ⟨x,H1,I1,r1,ty,q1⟩=>?_);obtain⟨h1,h2⟩:=Jq I1 r1 ty;refine⟨T,id,pa,slot,nB,h1,h2,?_⟩;have hA:=ha dv pins s1 σ H1 _ I1 q1;rw[hs]at hA⊢;refine tL (by assumption) (vy ?_);exact aM hA λus s2 ⟨vs,H2,I2,r2,q2⟩=>hm pins s2 σ H2 x vs v us Q I2 r1 r2 q2
end
def CS(X:Cx)(id:String)(r:V->List V->Hp->VK->Prop):Prop:=
 ∀(pins:List (Addr×Obj)) (s:ae) (σ:St) (H:Hp) (x:V) (xs:List V) (v:ao) (us:List ao) (Q:VK),Inv X pins σ H s->RelV x v->aY xs us->r x xs H Q->
  wpAny (model X.prog X.w) X.A (call (.builtin id) (v::us)) (EP X pins σ Q) X.xe s
theorem aY.one:∀{x:V} {us:List ao},aY [x] us->∃u,us=[u]/\RelV x u
 |_,_,.cons r .nil=>⟨_,rfl,r⟩
theorem aY.zero:∀{us:List ao},aY [] us->us=[]
 |_,.nil=>rfl
theorem aY.dropLast(h:aY xs us):aY xs.dropLast us.dropLast:=by
 induction h with
 |nil=>exact .nil
 |cons r t ih=>
  cases t with
  |nil=>exact .nil
  |cons q t'=>exact .cons r ih
def akk{α:Type}(l:List α):l.eraseIdx (l.length - 1)=l.dropLast:=by simp[*]
def Inv.CT{its its':List ao}{n:Nat}{f:Array ao->Array ao}{t':Nat}(I:Inv X pins σ H s)(hH:H l=some (.lst xs))
  (e:s.heap.get? l=some {cls:=.type "list",data:=.seq its.toArray n})(hf:f its.toArray=its'.toArray)(hv:aY ys its')(hz:ys.length<=sizeLine):
  Inv X pins σ (upd H l (.lst ys)) {s with heap:=s.heap.update l (Obj.mapSeq f),toks:=t'}:=by
 have q:=PySem.IsL.update e f;rw[hf]at q;refine I.write (x:=l) (e:=l) (by rw[hH];exact trivial) (.inl rfl) (λb' u hb hu=>(vx s.heap (Obj.mapSeq f) (aO hb)).trans hu) ⟨_,q⟩ ?_;exact⟨hz,its',_,hv,q⟩
def Inv.Vo(I:Inv X pins σ H s)(hv:aY ys its)(hz:ys.length<=sizeLine):
  Inv X pins σ (upd H s.heap.objs.size (.lst ys)) {s with heap:=s.heap.push {cls:=.type "list",data:=.seq its.toArray},toks:=t'}:=
 I.laid (λ_ _ q=>bI _ q) (aW _) ⟨hz,its,0,hv,cv _ rfl⟩
theorem Inv.fresh(I:Inv X pins σ H s):H s.heap.objs.size=none:=I.aK.fresh (aW _)
def Inv.ud(I:Inv X pins σ H s)(hH:H l=some (.lst xs)):xs.length<=sizeLine/\∃(its:List ao) (n:Nat),aY xs its/\xs.length=its.length/\s.heap.get? l=some {cls:=.type "list",data:=.seq its.toArray n}:=by obtain⟨z,its,n,r,e⟩:=I.aK l _ hH;exact⟨z,its,n,r,r.length,e⟩
def Vp(h:n<=sizeLine):Builtin.List.listTooLong n=false:=by unfold Builtin.List.listTooLong;simp[*]
inductive Jr(x:V)(vs:List V)(H:Hp)(Q:VK):Prop
 |mk:∀l xs y,x= .ref l->vs=[y]->H l=some (.lst xs)->xs.length<sizeLine->Q .aQ (upd H l (.lst (xs++[y])))->Jr x vs H Q
def Vq:V->List V->Hp->VK->Prop:=λx vs H Q=>Jr x vs H Q
def rf:CS X "list.append" Vq:=by intro pins s σ H x vs v us Q I rx rv h;obtain⟨l,xs,y,rfl,rfl,hH,hz,q⟩:=h;cases rx;obtain⟨u,rfl,ru⟩:=rv.one;obtain⟨z,its,n,r,hl,e⟩:=I.ud hH;refine vz F.slot_list_append ⟨_,e,rfl⟩ F.entry_list_append (F.args_list_append_2 _ _) (PySem.list_append l its.toArray n u (by simp_all)) ⟨e,?_⟩;refine⟨.aQ,_,I.CT (its':=its++[u]) hH e (by simp) (r.append (.cons ru .nil)) ?_,rfl,q⟩;rw[cX,List.length_singleton];assumption
inductive Js(x:V)(vs:List V)(H:Hp)(Q:VK):Prop
 |mk:∀l b xs zs,x= .ref l->vs=[.ref b]->H l=some (.lst xs)->H b=some (.lst zs)->xs.length+zs.length<=sizeLine->Q .aQ (upd H l (.lst (xs++zs)))->Js x vs H Q
def Vr:V->List V->Hp->VK->Prop:=λx vs H Q=>Js x vs H Q
def we:CS X "list.extend" Vr:=by
 intro pins s σ H x vs v us Q I rx rv h;obtain⟨l,b,xs,zs,rfl,rfl,hH,hB,hz,q⟩:=h;cases rx;obtain⟨u,rfl,ru⟩:=rv.one;cases ru;obtain⟨z,its,n,r,hl,e⟩:=I.ud hH;obtain⟨z2,gS,n2,r2,mB,e2⟩:=I.ud hB;have hsz:its.toArray.size+gS.toArray.size<=sizeLine:=by rw[iJ,iJ];simp_all
 have zP:¬(!its.toArray.isEmpty&&Builtin.List.listTooLong (its.toArray.size+gS.toArray.size))=true:=by rw[Vp hsz,Bool.and_false];exact fk
 refine vz F.slot_list_extend ⟨_,e,rfl⟩ F.entry_list_extend (F.args_list_extend_2 _ _)
  (AutoSeq1.list_extend_list_list_0 l its.toArray n b gS.toArray n2 zP (by simp_all) (by lia)) ⟨e,e2,?_⟩
 refine⟨.aQ,_,I.CT (its':=its++gS) hH e (by simp) (r.append r2) ?_,rfl,q⟩;rw[cX];omega
inductive Jt(x:V)(vs:List V)(H:Hp)(Q:VK):Prop
 |mk:∀l xs y,x= .ref l->vs=[]->H l=some (.lst xs)->xs[xs.length - 1]?=some y->Q y (upd H l (.lst xs.dropLast))->Jt x vs H Q
def Vs:V->List V->Hp->VK->Prop:=λx vs H Q=>Jt x vs H Q
def Vt:CS X "list.pop" Vs:=by
 intro pins s σ H x vs v us Q I rx rv h;obtain⟨l,xs,y,rfl,rfl,hH,hy,q⟩:=h;cases rx;have dU:=rv.zero;subst dU;obtain⟨z,its,n,r,hl,e⟩:=I.ud hH;obtain⟨u,hu,ru⟩:=r.get hy;have mC:its.toArray[its.toArray.size - 1]?=some u:=by simp_all
 refine vz F.slot_list_pop ⟨_,e,rfl⟩ F.entry_list_pop (F.args_list_pop_1 _) (MeetsSeq.list_pop_last l its.toArray n u mC (by simp_all)) ⟨e,?_⟩;refine⟨y,_,I.CT (its':=its.dropLast) hH e ?_ r.dropLast ?_,ru,q⟩
 ·simp[*]
 rw[List.length_dropLast];grind
inductive Ju(x:V)(y:V)(H:Hp)(Q:VK):Prop
 |mk:∀l b xs zs,x= .ref l->y= .ref b->H l=some (.lst xs)->H b=some (.lst zs)->xs.length+zs.length<=sizeLine->(∀p,H p=none->Q (.ref p) (upd H p (.lst (xs++zs))))->Ju x y H Q
def Vu:R2:=λx y H Q=>Ju x y H Q
def zQ:dN X (binaryOp .Add) Vu:=by
 intro pins s σ H x y v u Q I rx ry h;obtain⟨l,b,xs,zs,rfl,rfl,hH,hB,hz,q⟩:=h;cases rx;cases ry;obtain⟨z,its,n,r,hl,e⟩:=I.ud hH;obtain⟨z2,gS,n2,r2,mB,e2⟩:=I.ud hB;refine PySem.P.add_list e e2 ?_ (by simp_all);have ea:its.toArray++gS.toArray=(its++gS).toArray:=by simp
 rw[ea];exact⟨.ref _,_,I.Vo (t':=s.toks) (r.append r2) (by rw[cX];omega),rfl,q _ I.fresh⟩
theorem aY.ints:∀{ns:List Int} {us:List ao},aY (ns.map V.int) us->IntsAre us ns
 |[],us,h=>by rw[vA]at h;cases h;exact IntsAre.nil
 |n::ns,us,h=>by
  rw[cA]at h;cases h with
  |cons r t=>obtain⟨k,rfl⟩:=r;exact IntsAre.cons n k (aY.ints t)
theorem aY.CU:∀{bs:List Bool} {us:List ao},aY (bs.map V.bl) us->us=bs.map Value.bool
 |[],us,h=>by rw[vA]at h;cases h;rfl
 |b::bs,us,h=>by
  rw[cA]at h;cases h with
  |cons r t=>cases r;rw[aY.CU t,cA]
def aY.zR(r:aY [V.ref a] us):us=[Value.ref a]:=by
 cases r with
 |cons r t=>cases t;cases r;rfl
def Vv(hh:A.handled=none)(hl:s.heap.IsList l its.toArray)(hi:IntsAre its ns)(bO:0<ns.length)
  (h:∀h' tk M t',(∀b o,s.heap.get? b=some o->h'.get? b=some o)->M∈ns->(∀a,a∈ns->a<=M)->Q (.int M t') {s with heap:=h',toks:=tk}):wpAny (model prog w) A (call (.builtin "max") [.ref l]) Q E s:=by
 obtain⟨xs,e⟩:=hi.allInts.items;have hn:numsOf (intItems xs).toList=ns:=by rw[<-e];exact hi.numsOf
 rw[nums_intItems]at hn;subst hn;rw[e]at hl;have hsz:0<xs.size:=by simpa using bO
 refine PySem.max_intList hh hl hsz λv h' tk hv hk=>?_;obtain⟨t,rfl⟩:=intItems_at hv;obtain⟨h1,h2⟩:=argBest_gt (numAt xs) (xs.size - 1);refine h h' tk _ t hk ?_ λa ha=>?_
 ·rw[numAt_eq];exact PySem.getD_mem (by rw[aT,qu];omega)
 obtain⟨j,hj,rfl⟩:=mem_getD ha;rw[aT,qu]at hj;rw[<-numAt_eq];exact h2 j (by lia)
inductive Jv(K:aa)(vs:List V)(H:Hp)(Q:VK):Prop
 |mk:∀(a:Addr) (ns:List Int),vs=[V.ref a]->aB K H a (ns.map V.int)->0<ns.length->(∀m,m∈ns->(∀y,y∈ns->y<=m)->Q (.int m) H)->Jv K vs H Q
def Vw(K:aa):List V->Hp->VK->Prop:=λvs H Q=>Jv K vs H Q
def Vx(hc:X.calm=true):i5 X (.builtin "max") (Vw X.K):=by intro pins s σ H vs us Q I r h;obtain⟨a,ns,rfl,hs,bO,q⟩:=h;obtain⟨its,rv,hl,_⟩:=I.list hs;rw[aY.zR r];exact Vv (I.ok.hd hc) hl.isList rv.ints bO λh' tk m t' hk h1 h2=>⟨.int _,H,I.kept hk,⟨_,rfl⟩,q m h1 h2⟩
inductive Jw(K:aa)(x:V)(xs:List V)(H:Hp)(Q:VK):Prop
 |mk:∀(a:Addr) (ys:List V) (y:V) (j:Nat) (z:V),x=V.ref a->xs=[y]->aB K H a ys->j8 y=true->ys.all j8=true->ys[j]?=some z->my z y=true->(∀(m:Nat) (z':V),m<j->ys[m]?=some z'->my z' y=false)->Q (.int (j:Nat)) H->Jw K x xs H Q
def Vy(K:aa):V->List V->Hp->VK->Prop:=λx xs H Q=>Jw K x xs H Q
def Jx{ys:List V}(f:ys.all j8=true){j:Nat}{z:V}(h:ys[j]?=some z):j8 z=true:=l7.mp f z (d_ h)
def Vz:uc X "list.index" (Vy X.K):=by
 intro pins s σ H x xs v us Q I rx VA h;obtain⟨a,ys,y,j,z,rfl,rfl,hs,fy,CV,hz,VB,j0,q⟩:=h;cases rx;cases VA with
 |cons ry rt=>
  rename_i uy ut;cases rt;obtain⟨its,rv,⟨⟨cls,dd,data,sl⟩,n,ho,hc,rg,hd⟩,hlen⟩:=I.list hs;simp only at hc hd;subst hc hd;obtain⟨u,hu,ru⟩:=rv.get hz;obtain⟨Jy,VC⟩:=dq.mp hu;have hvl:=rv.length;have hj:j<its.toArray.size:=by simpa using Jy
  have rh:=bP;refine vz PySem.F.slot_list_index ⟨_,ho,rfl⟩ PySem.F.entry_list_index (PySem.F.args_list_index_2 _ _)
   (SeqAt.list_indexAt a its.toArray n dd sl uy (mz y) j hj (by lia) ?_ ?_) ⟨ho,λu' wg=>zO ry fy rv CV u' (by simpa using wg),?_⟩
  ·have e1:its.toArray[j]=u:=by simpa using VC
   rw[e1,zN ru (Jx CV hz)];exact VB
  ·intro m hm VD
   have oZ:m<its.length:=by simpa using hm
   have VE:m<ys.length:=by simp[*]
   have mC:ys[m]?=some ys[m]:=cp VE;obtain⟨u2,wj,wk⟩:=rv.get mC;obtain⟨_,ue⟩:=dq.mp wj;have e1:its.toArray[m]=u2:=by simpa using ue
   rw[e1,zN wk (Jx CV mC)];exact j0 m _ VD mC
  exact⟨.int (j:Nat),H,I.tok _,⟨_,rfl⟩,q⟩
def Jz(hl:s.heap.IsList l items)
  (h:∀s₂:ae,s₂={s with heap:=s.heap.push {cls:=.type "list_iterator",data:=.fields #[.ref l,.int 0 0]}}->
   (s₂.heap.IsListIter s.heap.objs.size l 0/\s₂.heap.IsList l items)->l≠s.heap.objs.size->Q (.ref s.heap.objs.size) s₂):wpAny (model prog w) A (pyIter (.ref l)) Q E s:=by
 have bq:l<s.heap.objs.size:=by obtain⟨_,e,_⟩:=hl;exact bK e
 exact wpAny_pyIter_list hl (h _ rfl ⟨⟨_,cv _ rfl,rfl,rfl⟩,hl.push _⟩ (dP bq))
def JA{prog:af}{w:ah}{A:ai}{bs:List Bool}{its:List ao}(e:its=bs.map Value.bool):
  TruthOf prog w A (λi v=>its.toArray[i]?=some v) (λi=>bs.getD i false):=λi v s Q E hv hq=>by
 have zD:its[i]?=some v:=by simpa using hv
 rw[e,cb]at zD;obtain⟨b,hb,rfl⟩:=jq.mp zD;have hg:bs.getD i false=b:=by simp[*]
 have qV:Q (bs.getD i false) s:=hq;rw[hg]at qV;exact lZ qV
theorem any_range:∀bs:List Bool,(List.range bs.length).any (λi=>bs.getD i false)=bs.any id
 |[]=>rfl
 |b::bs=>by rw[bG,SE,l6,yW,l6,<-any_range bs];all_goals rfl
theorem all_range:∀bs:List Bool,(List.range bs.length).all (λi=>bs.getD i false)=bs.all id
 |[]=>rfl
 |b::bs=>by rw[bG,SE,BU,vB,BU,<-all_range bs];all_goals rfl
inductive JB(K:aa)(vs:List V)(H:Hp)(Q:VK):Prop
 |mk:∀(a:Addr) (bs:List Bool),vs=[V.ref a]->aB K H a (bs.map V.bl)->Q (.bl (bs.any id)) H->JB K vs H Q
def VF(K:aa):List V->Hp->VK->Prop:=λvs H Q=>JB K vs H Q
inductive JC(K:aa)(vs:List V)(H:Hp)(Q:VK):Prop
 |mk:∀(a:Addr) (bs:List Bool),vs=[V.ref a]->aB K H a (bs.map V.bl)->Q (.bl (bs.all id)) H->JC K vs H Q
def VG(K:aa):List V->Hp->VK->Prop:=λvs H Q=>JC K vs H Q
def JD(hc:X.calm=true):i5 X (.builtin "any") (VF X.K):=by
 intro pins s σ H vs us Q I r h;obtain⟨a,bs,rfl,hs,q⟩:=h;obtain⟨its,rv,hl,_⟩:=I.list hs;rw[aY.zR r];have hb:=rv.CU;refine call_any_walk (Jz hl.isList λs₂ e2 st bO=>?_);subst e2;refine⟨_,_,_,_,_,_,_,rfl,Walks.list (A:=X.A.in1) (I.ok.hd hc) _ a bO its.toArray,st,JA hb,λh' tk hk=>?_⟩;refine⟨.bl _,H,I.kept λb o eo=>hk b o (λgb=>?_) (bI _ eo),?_,q⟩
 ·rcases be.mp gb with e1|gb
  ·exact absurd (e1▸bK eo) (mW _)
  simp_all
 show Value.bool _=Value.bool _;rw[<-any_range,hb,iJ,aT]
def CW(hc:X.calm=true):i5 X (.builtin "all") (VG X.K):=by
 intro pins s σ H vs us Q I r h;obtain⟨a,bs,rfl,hs,q⟩:=h;obtain⟨its,rv,hl,_⟩:=I.list hs;rw[aY.zR r];have hb:=rv.CU;refine call_all_walk (Jz hl.isList λs₂ e2 st bO=>?_);subst e2;refine⟨_,_,_,_,_,_,_,rfl,Walks.list (A:=X.A.in1) (I.ok.hd hc) _ a bO its.toArray,st,JA hb,λh' tk hk=>?_⟩;refine⟨.bl _,H,I.kept λb o eo=>hk b o (λgb=>?_) (bI _ eo),?_,q⟩
 ·rcases be.mp gb with e1|gb
  ·exact absurd (e1▸bK eo) (mW _)
  simp_all
 show Value.bool _=Value.bool _;rw[<-all_range,hb,iJ,aT]
mutual
inductive Dp(K:aa)(H:Hp):V->PyData->Prop
 |aQ:Dp K H .aQ .none
 |bl (b:Bool):Dp K H (.bl b) (.bool b)
 |int (i:Int):Dp K H (.int i) (.int i)
 |str (x:Str):Dp K H (.str x) (.str x)
 |lst {a:Addr} {xs:List V} {ds:List PyData}:aB K H a xs->uf K H xs ds->Dp K H (.ref a) (.list ds)
 |tup {a:Addr} {xs:List V} {ds:List PyData}:aX K H a xs->uf K H xs ds->Dp K H (.ref a) (.tuple ds)
inductive uf(K:aa)(H:Hp):List V->List PyData->Prop
 |nil:uf K H [] []
 |cons {v:V} {vs:List V} {d:PyData} {ds:List PyData}:Dp K H v d->uf K H vs ds->uf K H (v::vs) (d::ds)
end
mutual
theorem Dp.reads(I:Inv X pins σ H s):∀(d:PyData) (v:V) (u:ao),Dp X.K H v d->RelV v u->∃as,Reads s.heap u d as
 | .none,_,_,h,r=>by cases h;cases r;exact⟨_,Reads.none⟩
 | .bool b,_,_,h,r=>by cases h;cases r;exact⟨_,Reads.bool b⟩
 | .int i,_,_,h,r=>by cases h;obtain⟨t,rfl⟩:=r;exact⟨_,Reads.int i t⟩
 | .str x,_,_,h,r=>by cases h;obtain⟨t,rfl⟩:=r;exact⟨_,Reads.str x t⟩
 | .list ds,_,_,h,r=>by
  cases h with
  |lst hs ha=>cases r;obtain⟨its,rv,⟨o,n,ho,hc,_,hd⟩,_⟩:=I.list hs;obtain⟨as,hr⟩:=Dp.readsAll I ds _ its ha rv;exact⟨_,Reads.list ho hc hd hr⟩
 | .tuple ds,_,_,h,r=>by
  cases h with
  |tup hs ha=>cases r;obtain⟨its,rv,⟨o,ho,hc,n,hd⟩,_⟩:=I.tuple hs;obtain⟨as,hr⟩:=Dp.readsAll I ds _ its ha rv;exact⟨_,Reads.tuple ho hc hd hr⟩
 | .dict _,_,_,h,_=>by cases h
theorem Dp.readsAll(I:Inv X pins σ H s):∀(ds:List PyData) (vs:List V) (us:List ao),uf X.K H vs ds->aY vs us->∃as,ReadsAll s.heap us ds as
 |[],_,_,h,r=>by cases h;cases r;exact⟨_,ReadsAll.nil⟩
 |d::ds,_,_,h,r=>by
  cases h with
  |cons h1 h2=>
   cases r with
   |cons r1 r2=>obtain⟨as,q1⟩:=Dp.reads I d _ _ h1 r1;obtain⟨bs,q2⟩:=Dp.readsAll I ds _ _ h2 r2;exact⟨_,ReadsAll.cons q1 q2⟩
end
inductive JE(K:aa)(x:V)(y:V)(H:Hp)(Q:VK):Prop
 |mk:∀d e,Dp K H x d->Dp K H y e->SeqAt.shaped d=true->SeqAt.shaped e=true->Q (.bl (PyData.eqv d e)) H->JE K x y H Q
def VH(K:aa):R2:=λx y H Q=>JE K x y H Q
inductive JF(K:aa)(x:V)(y:V)(H:Hp)(Q:VK):Prop
 |mk:∀d e,Dp K H x d->Dp K H y e->SeqAt.shaped d=true->SeqAt.shaped e=true->Q (.bl (!PyData.eqv d e)) H->JF K x y H Q
def VI(K:aa):R2:=λx y H Q=>JF K x y H Q
def VJ(hu:X.A.units+64<cLine):dN X (compareOp .Eq) (VH X.K):=by intro pins s σ H x y v u Q I rx ry h;obtain⟨d,e,hd,he,sd,se,q⟩:=h;obtain⟨as,r1⟩:=Dp.reads I d x v hd rx;obtain⟨bs,r2⟩:=Dp.reads I e y u he ry;exact SeqAt.compareEq_shaped r1 r2 sd se hu ⟨.bl _,H,I,rfl,q⟩
def VL(hu:X.A.units+64<cLine):dN X (compareOp .NotEq) (VI X.K):=by intro pins s σ H x y v u Q I rx ry h;obtain⟨d,e,hd,he,sd,se,q⟩:=h;obtain⟨as,r1⟩:=Dp.reads I d x v hd rx;obtain⟨bs,r2⟩:=Dp.reads I e y u he ry;exact SeqAt.compareNe_shaped r1 r2 sd se hu ⟨.bl _,H,I,rfl,q⟩
abbrev JG(h:Heap)(c:Addr)(v:Option ao):Prop:=h.IsCell c v
def gc(scope sc:Scope):Scope:=
 {scope with names:=scope.names.map λ(n,k)=>if(k== .free&&sc.kind== .function&&sc.names.lookup n==some .cell)then(n,.cell)else(n,k)}
def gd(cells:List (Str×Addr)):List (Str×NameKind)->List (Str×Addr)->List (Str×Addr)
 |[],acc=>acc
 |(n,k)::r,acc=>if k== .free then gd cells r ((n,(cells.lookup n).getD 0)::acc)else gd cells r acc
theorem JH(env:Env)(f:Str×NameKind->List (Str×Addr)->Sem (ForInStep (List (Str×Addr))))
  (hf:∀n k c,f (n,k) c=if k== .free then(do let a<-cellOf env n;pure (.yield ((n,a)::c)))else pure (.yield c)):
  ∀(names:List (Str×NameKind)) (acc:List (Str×Addr)),(∀y∈names,y.2= .free->∃c,env.cells.lookup y.1=some c)->forIn names acc f=pure (gd env.cells names acc)
 |[],acc,_=>by rw[List.forIn_nil];rfl
 |(n,k)::r,acc,h=>by
  rw[GV,hf];have ih:=λacc=>JH env f hf r acc λy hy=>h y (bU _ hy);unfold gd;by_cases hk:(k==NameKind.free)=true
  ·rw[aD hk,aD hk]
   obtain⟨c,hc⟩:=h (n,k) cT (by simpa using hk);have e:cellOf env n=pure c:=by unfold cellOf;rw[hc]
   simp[*]
  rw[az hk,az hk];exact ih _
def VM{scope:Scope}{env:Env}(h:∀y∈scope.names,y.2= .free->∃c,env.cells.lookup y.1=some c):closureFor scope env=pure (gd env.cells scope.names []):=by simp only[closureFor];rw[JH env _ (λn k c=>rfl) scope.names [] h];rfl
theorem mem_lookup{α:Type}:∀{l:List (Str×α)} {n:Str} {c:α},(n,c)∈l->∃c',l.lookup n=some c'
 |(k,v)::r,n,c,h=>by
  rw[BV];cases hb:n==k with
  |true=>exact⟨_,rfl⟩
  |false=>
   rcases be.mp h with e|h
   ·cases e;simp at hb
   exact mem_lookup h
theorem zS:∀{names:List (Str×NameKind)} {acc:List (Str×Addr)} {n:Str} {c:Addr},(n,c)∈gd cells names acc->(n,c)∈acc\/((n,.free)∈names/\c=(cells.lookup n).getD 0)
 |[],_,_,_,h=>.inl h
 |(m,k)::r,acc,n,c,h=>by
  unfold gd at h;split at h
  ·rename_i hk
   have hk:k= .free:=by simpa using hk
   rcases zS h with h|⟨h1,h2⟩
   ·grind
   exact .inr ⟨bU _ h1,h2⟩
  rcases zS h with h|⟨h1,h2⟩
  ·exact .inl h
  exact .inr ⟨bU _ h1,h2⟩
theorem CY:∀{names:List (Str×NameKind)} {acc:List (Str×Addr)} {p:Str×Addr},p∈acc->p∈gd cells names acc
 |[],_,_,h=>h
 |(m,k)::r,acc,p,h=>by
  unfold gd;split
  ·exact CY (bU _ h)
  exact CY h
theorem CZ:∀{names:List (Str×NameKind)} {acc:List (Str×Addr)} {n:Str},(n,.free)∈names->(n,(cells.lookup n).getD 0)∈gd cells names acc
 |(m,k)::r,acc,n,h=>by
  unfold gd;rcases be.mp h with e|h
  ·cases e;exact CY cT
  split
  ·exact CZ h
  exact CZ h
theorem wm:∀{names:List (Str×NameKind)} {h:Heap} {acc:List (Str×Addr)} {x:Str} {c:Addr},(x,c)∈cellsFrom h.objs.size names acc->
  (x,c)∈acc\/((x,.cell)∈names/\h.objs.size<=c/\JG (pushCells h names) c none)
 |[],_,_,_,_,h=>.inl h
 |(n,k)::r,h,acc,x,c,hm=>by
  unfold cellsFrom at hm;unfold pushCells;split at hm
  ·rename_i hk
   rw[aD hk];have hk:k= .cell:=by simpa using hk
   rw[<-ij h {cls:=.type "cell",data:=.cell none}]at hm;rcases wm hm with hm|⟨h1,h2,h3⟩
   ·rcases be.mp hm with e|hm
    ·cases e;exact .inr ⟨hk▸cT,aW _,_,pushCells_keeps r _ _ _ (cv _ rfl),rfl⟩
    exact .inl hm
   rw[ij]at h2;exact .inr ⟨bU _ h1,GW h2,h3⟩
  rename_i hk;rw[az hk];rcases wm hm with hm|⟨h1,h2,h3⟩
  ·exact .inl hm
  exact .inr ⟨bU _ h1,h2,h3⟩
theorem zT:∀{names:List (Str×NameKind)} {n:Nat} {acc:List (Str×Addr)} {p:Str×Addr},p∈acc->p∈cellsFrom n names acc
 |[],_,_,_,h=>h
 |(m,k)::r,n,acc,p,h=>by
  unfold cellsFrom;split
  ·exact zT (bU _ h)
  exact zT h
theorem C1:∀{names:List (Str×NameKind)} {n:Nat} {acc:List (Str×Addr)} {x:Str},(x,.cell)∈names->∃c,(x,c)∈cellsFrom n names acc
 |(m,k)::r,n,acc,x,h=>by
  unfold cellsFrom;rcases be.mp h with e|h
  ·cases e;exact⟨n,zT cT⟩
  split
  ·exact C1 h
  exact C1 h
theorem C2:∀{names:List (Str×NameKind)} {h:Heap} {acc:List (Str×Addr)} {x y:Str} {c:Addr},(∀p∈acc,p.2<h.objs.size)->(∀x y c,(x,c)∈acc->(y,c)∈acc->x=y)->
  (x,c)∈cellsFrom h.objs.size names acc->(y,c)∈cellsFrom h.objs.size names acc->x=y
 |[],_,_,_,_,_,_,hi,h1,h2=>hi _ _ _ h1 h2
 |(n,k)::r,h,acc,x,y,c,hl,hi,h1,h2=>by
  unfold cellsFrom at h1 h2;split at h1
  ·rename_i hk
   rw[aD hk]at h2;rw[<-ij h {cls:=.type "cell",data:=.cell none}]at h1 h2;refine C2 (h:=h.push _) (λp hp=>?_) (λx y c a b=>?_) h1 h2
   ·rw[ij]
    rcases be.mp hp with rfl|hp
    ·simp[*]
    exact GX (hl p hp)
   grind
  rename_i hk;rw[az hk]at h2;exact C2 hl hi h1 h2
def VN{M:Model}{A:ai}{E:ao->ae->Prop}{s:ae}{scope:Scope}{globals:Addr}{closure:List (Str×Addr)}{qual:Str}{func:Option Addr}{code:ao}{around:Env}{builtins:Addr}{Q:Env->ae->Prop}
  (h:Q (newEnv scope s.heap.objs.size globals (cellsFrom (s.heap.objs.size+1) scope.names closure) qual func code (some around) builtins)
   {s with heap:=pushCells (s.heap.push {cls:=.type "dict",data:=.dict #[]}) scope.names}):
  wpAny M A (newFunctionEnv scope globals closure [] qual func code (some around) builtins) Q E s:=by
 simp only[newFunctionEnv,Option.isSome_some,gE];refine au (wpAny_alloc ?_);refine au (wpAny_layCells _ (λn k c=>rfl) scope.names closure _ _ ?_);rw[show({s with heap:=s.heap.push {cls:=.type "dict",data:=.dict #[]}}:ae).heap.objs.size=s.heap.objs.size+1 from ij ..];rw[List.forIn_nil];exact au (aI (aI h))
theorem C3{sc:Scope}:∀{names:List (Str×NameKind)} {x:Str} {k:NameKind},
  (names.map λ(n,k)=>if(k==NameKind.free&&sc.kind== .function&&sc.names.lookup n==some .cell)then(n,NameKind.cell)else(n,k)).lookup x=some k->
  ∃k',names.lookup x=some k'/\(k=k'\/(k'= .free/\k= .cell))
 |[],_,_,h=>by simp at h
 |(n,k₀)::r,x,k,h=>by have ih:=@C3 sc r x k;grind
structure wq(N:List Str)(sc scope:Scope)(own:List (Str×Nat)):Prop where
 kind:scope.kind= .function
 uniq:∀y∈scope.names,scope.names.lookup y.1=some y.2
 ix:∀p∈own,N[p.2]?=some p.1
 free:∀y∈scope.names,y.2= .free->sc.names.lookup y.1=some .cell\/sc.names.lookup y.1=some .free
 own:∀y∈scope.names,y.2= .local\/y.2= .cell->y.1∈own.map (·.1)\/y.1∉N
def wipe(σ:St):List Nat->St
 |[]=>σ
 |v::vs=>(wipe σ vs).set v none
theorem C4(σ:St):∀vs:List Nat,(wipe σ vs).length=σ.length
 |[]=>rfl
 |v::vs=>by unfold wipe;rw[tK,C4 σ vs]
theorem C5{σ:St}{i:Nat}{x:V}:∀{vs:List Nat},(wipe σ vs)[i]?=some (some x)->σ[i]?=some (some x)/\i∉vs
 |[],h=>⟨h,by simp⟩
 |v::vs,h=>by
  unfold wipe at h;by_cases hi:v=i
  ·subst hi
   by_cases hv:v<(wipe σ vs).length
   ·simp_all
   simp_all
  rw[jS hi]at h;obtain⟨h1,h2⟩:=C5 h;exact⟨h1,by grind⟩
abbrev Cx.gI(X:Cx)(s:ae)(H:Hp)(scope:Scope)(eB:Env)(fp:List Addr):Cx:={X with gq:=s,qJ:=H,env:=eB,outer:=X.stack,ex:=fp,fn:=λx=>scope.names.lookup x==some .cell,pn:=[],xe:=λ_ _=>False}
def VO{scope:Scope}{own:List (Str×Nat)}{fp:List Addr}(I:Inv X pins σ H s)(ok:wq X.N X.env.scope scope own)(hN:X.N.Nodup)(o6:∀b∈fp,jX X pins H b/\b<s.heap.objs.size):
  Inv (X.gI s H scope (compEnvC scope (cellsFrom (s.heap.objs.size+1) scope.names (gd X.env.cells scope.names [])) s.heap.objs.size X.env) fp) [] (wipe σ (own.map (·.2))) H {s with heap:=pushCells (s.heap.push {cls:=.type "dict",data:=.dict #[]}) scope.names}:=by
 have zh:∀y∈scope.names,y.2= .free->∃c,X.env.cells.lookup y.1=some c:=λy hy e=>by
  rcases ok.free y hy e with k|k
  ·exact I.ok.has _ (.inl k)
  exact I.ok.has _ (.inr k)
 generalize wt:compEnvC scope (cellsFrom (s.heap.objs.size+1) scope.names (gd X.env.cells scope.names [])) s.heap.objs.size X.env=eB;have kp:∀b o,s.heap.get? b=some o->(pushCells (s.heap.push {cls:=.type "dict",data:=.dict #[]}) scope.names).get? b=some o:=λb o e=>pushCells_keeps _ _ _ _ (bI _ e);have hL:eB.locals=s.heap.objs.size:=by rw[<-wt];rfl
 have jz:eB.cells=cellsFrom (s.heap.objs.size+1) scope.names (gd X.env.cells scope.names []):=by rw[<-wt];rfl
 have C6:eB.scope=gc scope X.env.scope:=by rw[<-wt];rfl
 rw[<-ij s.heap {cls:=.type "dict",data:=.dict #[]}]at jz;have cm:∀{y c},(y,c)∈gd X.env.cells scope.names []->X.env.cells.lookup y=some c/\c<s.heap.objs.size:=λ{y c} hm=>by
  rcases zS hm with hm|⟨h1,rfl⟩
  ·simp_all
  obtain⟨c,hc⟩:=zh _ h1 rfl;rw[hc];obtain⟨w,z⟩:=I.cell _ _ hc;exact⟨rfl,z.lt⟩
 have mem:∀{y c},eB.cells.lookup y=some c->(X.env.cells.lookup y=some c/\c<s.heap.objs.size)\/(s.heap.objs.size+1<=c/\JG (pushCells (s.heap.push {cls:=.type "dict",data:=.dict #[]}) scope.names) c none):=λ{y c} e=>by
  rw[jz]at e;rcases wm (jo e)with hm|⟨_,h2,h3⟩
  ·exact .inl (cm hm)
  simp_all
 have look:∀{y},scope.names.lookup y=some .free->∃c,eB.cells.lookup y=some c/\X.env.cells.lookup y=some c:=λ{y} hl=>by
  have hy:(y,NameKind.free)∈scope.names:=jo hl;obtain⟨c',e'⟩:=mem_lookup (zT (names:=scope.names) (n:=(s.heap.push {cls:=.type "dict",data:=.dict #[]}).objs.size) (CZ (cells:=X.env.cells) (acc:=[]) hy));rw[<-jz]at e';refine⟨c',e',?_⟩;rw[jz]at e';rcases wm (jo e')with hm|⟨h1,_,_⟩
  ·exact(cm hm).1
  have:=ok.uniq _ h1;simp_all
 have fY:(X.gI s H scope eB fp).Ok:=by
  refine⟨I.ok.mod,by show eB.scope.kind=_;rw[C6];exact ok.kind,by show eB.globals=_;rw[<-wt];exact I.ok.glob,by show eB.builtins=_;rw[<-wt];exact I.ok.blt,by simp[*],
   λy z c e1 e2=>?_,λy hy=>?_,λy c z e=>?_,I.ok.hd,I.ok.frames,.inl rfl,λb hb=>⟨?_,λy c e z=>?_⟩,I.bs,cF I.ok.mf I.sz,λb o e hb=>?_,λb hb z=>?_,I.stack,I.HF⟩
  ·have e1:eB.cells.lookup y=some c:=e1;have e2:eB.cells.lookup z=some c:=e2;rw[jz]at e1 e2;refine C2 (λp hp=>?_) (λy z c a b=>I.ok.inj y z c (cm a).1 (cm b).1) (jo e1) (jo e2);rw[ij];exact GX (cm (y:=p.1) (c:=p.2) hp).2
  ·show∃c,eB.cells.lookup y=some c
   have key:∀k,eB.kindOf y=some k->(k= .cell\/k= .free)->∃c,eB.cells.lookup y=some c:=λk hk dc=>by
    unfold Env.kindOf at hk;rw[C6]at hk;obtain⟨k',e,r⟩:=C3 hk;have:k'= .cell\/k'= .free:=by
     rcases r with rfl|⟨rfl,_⟩
     ·exact dc
     exact .inr rfl
    rcases this with rfl|rfl
    ·obtain⟨c,hm⟩:=C1 (n:=(s.heap.push {cls:=.type "dict",data:=.dict #[]}).objs.size) (acc:=gd X.env.cells scope.names []) (jo e);obtain⟨c',e'⟩:=mem_lookup hm;exact⟨c',by rw[jz];exact e'⟩
    obtain⟨c,h1,_⟩:=look e;exact⟨c,h1⟩
   rcases hy with hy|hy
   ·exact key _ hy (.inl rfl)
   exact key _ hy (.inr rfl)
  ·have z:(scope.names.lookup y==some NameKind.cell)=true:=z
   have z:scope.names.lookup y=some .cell:=by simpa using z
   have e:eB.cells.lookup y=some c:=e;rw[jz]at e;rcases wm (jo e)with hm|⟨_,h2,_⟩
   ·rcases zS hm with hm|⟨h1,_⟩
    ·cases hm
    have q:=ok.uniq _ h1;rw[z]at q;cases q
   rw[ij]at h2;exact GW h2
  ·show b≠eB.locals;rw[hL];exact dP (o6 b hb).2
  ·have e:eB.cells.lookup y=some c:=e
   rcases mem e with⟨h1,_⟩|⟨h1,_⟩
   ·exact(o6 b hb).1.2.2.2.2.1 y c h1 z
   have h2:s.heap.objs.size+1<=b:=by rw[<-z];exact h1
   exact absurd (ig (o6 b hb).2 (GW h2)) (mW _)
  ·rcases(o6 b hb).1.2.2.2.1 with z|z
   ·exact I.ok.vS b o e z
   exact absurd (ig (bK e) (cF I.ok.mf z)) (mW _)
  rcases be.mp (I.Cp b z)with z|z
  ·exact(o6 b hb).1.2.1 z
  exact(o6 b hb).1.2.2.1 z
 refine⟨fY,rfl,I.bare,Un.kept kp,⟨λ_=>none,?_,λi y av e1 e2 e3=>?_⟩,λy c e=>?_,?_,λy c e=>?_,λp hp=>?_,I.aK.kept kp,by rw[C4];exact I.len⟩
 ·show Heap.Ns _ eB.locals _;rw[hL];exact Heap.Ns.keeps (Heap.Ns.new ..) λb o e=>pushCells_keeps _ _ _ _ e
 ·obtain⟨e2,bO⟩:=C5 e2
  have ly:scope.names.lookup y=some .free/\(eB.kindOf y=some .cell\/eB.kindOf y=some .free):=by
   have key:∀k,eB.scope.names.lookup y=some k->k= .local\/k= .cell\/k= .free->scope.names.lookup y=some .free/\(eB.kindOf y=some .cell\/eB.kindOf y=some .free):=λk hk dc=>by
    have JI:=hk;rw[C6]at hk;obtain⟨k',e,r⟩:=C3 hk;have no:¬(k'= .local\/k'= .cell):=λhh=>by
     rcases ok.own _ (jo e) hh with e'|e'
     ·obtain⟨p,hp,VP⟩:=b_.mp e';have e3:=ok.ix p hp;have:p.1=y:=VP;rw[this]at e3;exact bO (b_.mpr ⟨p,hp,Cq hN e3 e1⟩)
     exact e' (d_ e1)
    rcases r with rfl|⟨rfl,rfl⟩
    ·rcases dc with rfl|rfl|rfl
     ·exact absurd (.inl rfl) no
     ·exact absurd (.inr rfl) no
     exact⟨e,.inr JI⟩
    exact⟨e,.inl JI⟩
   have e3:tT eB.scope y:=e3;rcases e3 with e3|e3|e3
   ·exact key _ e3 (.inl rfl)
   ·exact key _ e3 (.inr (.inl rfl))
   exact key _ e3 (.inr (.inr rfl))
  obtain⟨m,hn,hl⟩:=I.loc;have VQ:tT X.env.scope y:=(ok.free _ (jo ly.1) rfl).elim (λk=>.inr (.inl k)) (λk=>.inr (.inr k));obtain⟨w,r,q⟩:=hl i y av e1 e2 VQ;refine⟨w,r,.inr ⟨ly.2,?_⟩⟩;obtain⟨c,h1,h2⟩:=look ly.1;rcases q with⟨k,_⟩|⟨_,c',e',z⟩
  ·have k:X.env.scope.names.lookup y=some .local:=k;rcases ok.free _ (jo ly.1) rfl with k'|k'<;>rw[show X.env.scope.names.lookup y=_ from k']at k<;>cases k
  rw[h2]at e';cases e';exact⟨c,h1,z.keeps kp⟩
 ·have e:eB.cells.lookup y=some c:=e
  rcases mem e with⟨h1,_⟩|⟨_,z⟩
  ·obtain⟨w,z⟩:=I.cell y c h1;exact⟨w,z.keeps kp⟩
  exact⟨_,z⟩
 ·show H eB.locals=none;rw[hL];exact I.aK.fresh (aW _)
 ·have e:eB.cells.lookup y=some c:=e
  rcases mem e with⟨h1,_⟩|⟨h1,_⟩
  ·exact I.jt y c h1
  exact I.aK.fresh (GW h1)
 simp_all
def VR{E:ao->ae->Prop}{D:Addr}{xs:List V}{y:V}{v:ao}{Q:ao->ae->Prop}(I:Inv X pins σ H s)(hD:H D=some (.lst xs))(hz:xs.length<sizeLine)(r:RelV y v)
  (h:∀s',Inv X pins σ (upd H D (.lst (xs++[y]))) s'->Q .none s'):wpAny (model X.prog X.w) X.A (call (.builtin "list.append") [.ref D,v]) Q E s:=by
 obtain⟨lB,its,n,ri,e⟩:=I.aK D _ hD;have hl:=ri.length;refine append_at (hsz:=by simp_all) e λh' sb g8=>?_
 refine h {s with heap:=h'} (I.write (t':=s.toks) (by rw[hD];trivial) (.inl rfl) (λb u hb q=>(sb.2 b hb).trans q) ⟨_,g8⟩ ⟨by rw[cX];exact hz,its++[v],n+1,ri.append (.cons r .nil),?_⟩);simp[*]
def wu(X:Cx)(ifs:List Expr)(t:TT):Prop:=
 ∀(pins:List (Addr×Obj)) (s:ae) (σ:St) (H:Hp) (Q:Bool->Hp->Prop),Inv X pins σ H s->t σ H Q->
  wpAny (model X.prog X.w) X.A (forIn ifs true λc r=>if r=true then do let ok<-isTrue c X.env (eval c X.env);pure (ForInStep.yield ok)else pure (ForInStep.yield r)) (TP X pins σ Q) X.xe s
def VS:TT:=λ_ H Q=>Q true H
def j9:wu X [] VS:=λ_ _ _ H _ I h=>wpAny_tests_nil ⟨H,I,h⟩
def JJ(h:PT X c t):wu X [c] t:=λpins s σ H Q I hw=>wpAny_tests_one (h pins s σ H Q I hw)
def ug{α:Type}{t:Sem α}{Q Q':α->ae->Prop}{M:Model}{A:ai}{E:ao->ae->Prop}{s:ae}(h:wpAny M A t Q (λ_ _=>False) s)(hQ:∀a s,Q a s->Q' a s):wpAny M A t Q' E s:=kR h hQ λ_ _ z=>False.elim z
def VT{prog:af}{w:ah}{A:ai}{R:Result->ae->Prop}{s:ae}{elt target iter:Expr}{ifs:List Expr}{scope:Scope}{pos:Pos}{it acc:ao}{env:Env}(I:Nat->ae->Prop)
  (turn:∀n s,I n s->wpAny (model prog w) A (pyNext it) (λr s₁=>match r with
   |none=>R (.ok .next) s₁
   |some v=>wpAny (model prog w) A (letOwnedTupleGo target it v) (λ_ JK=>wpAny (model prog w) A (assign target env v) (λ_ s₂=>
     wpAny (model prog w) A (forIn ifs true λc r=>if r=true then do let ok<-isTrue c env (eval c env);pure (ForInStep.yield ok)else pure (ForInStep.yield r)) (λok s₃=>
      if ok=true then wpAny (model prog w) A (eval elt env) (λx s₄=>
       wpAny (model prog w) A (call (.builtin "list.append") [acc,x]) (λ_ s₅=>∃m,m<n/\I m s₅) (notedBy (model prog w) A env λe s'=>R (.error e) s') s₄) (notedBy (model prog w) A env λe s'=>R (.error e) s') s₃
      else∃m,m<n/\I m s₃) (notedBy (model prog w) A env λe s'=>R (.error e) s') s₂) (notedBy (model prog w) A env λe s'=>R (.error e) s') JK) (notedBy (model prog w) A env λe s'=>R (.error e) s') s₁) (notedBy (model prog w) A env λe s'=>R (.error e) s') s)
  (n:Nat)(h:I n s):
  codeAny (model prog w) A (.compLoop (.ListComp elt [⟨target,iter,ifs,0⟩] scope pos) 0 it acc env) R s:=by
 refine codeAny_loop rfl I (λn s hI=>?_) n h;show wpAny _ A ((compTurn (.ListComp elt [⟨target,iter,ifs,0⟩] scope pos) 0 it acc env).onRaise (λx=>do noteFrame x env;theTreesLotGoes x)) _ _ s;refine wpAny_noted ?_;rw[compTurn_list];refine au (wpAny_standAt (au (kR (turn n s hI) (λr s₁ h₁=>?_) λ_ _ h'=>h')));cases r with
 |none=>exact aI h₁
 |some v=>
  refine au (kR h₁ (λ_ JK VU=>?_) λ_ _ h'=>h');refine au (kR VU (λ_ s₂ h₂=>au (kR h₂ (λok s₃ h₃=>?_) λ_ _ h'=>h')) λ_ _ h'=>h');cases ok with
  |false=>exact aI ⟨rfl,h₃⟩
  |true=>exact au (au (kR h₃ (λx s₄ h₄=>au (kR h₄ (λ_ s₅ h₅=>aI (aI ⟨rfl,h₅⟩)) λ_ _ h'=>h')) λ_ _ h'=>h'))
def zU(wi:TI)(g:TG)(tt:TT)(te:TE)(vs:List Nat):TE:=λσ H Q=>wi σ H λJ H1=>∀D,H1 D=none->∃W:Nat->Nat->Hp->Prop,(∃m,W 0 m (upd H1 D (.lst [])))/\∀i m H,W i m H->
 (J.stop i H/\Q (.ref D) H)\/(J.go i H/\∃Nx:Hp->Prop,(∀H',Nx H'->∃m',m'<m/\W (i+1) m' H')/\∀x H',J.i4 i H x H'->g x (wipe σ vs) H' λσ2 H2=>wipe σ2 vs=wipe σ vs/\tt σ2 H2 λb H3=>
  if b=true then te σ2 H3 λy H4=>∃acc,H4 D=some (.lst acc)/\acc.length<sizeLine/\Nx (upd H4 D (.lst (acc++[y])))else Nx H3)
def JL{pins:List (Addr×Obj)}{s:ae}{σ:St}{H:Hp}{Q:VK}{elt tg iter:Expr}{ifs:List Expr}{scope:Scope}{own:List (Str×Nat)}{pos pos':Pos}{wi:TI}{g:TG}{tt:TT}{te:TE}{use:Option (ao->Sem Unit)}{Qf:ao->ae->Prop}
  (hc:X.calm=true)(hN:X.N.Nodup)(I:Inv X pins σ H s)(hi:PI X tg iter wi)(ok:wq X.N X.env.scope scope own)
  (hg:∀(s:ae) (H:Hp) (C:Addr) (cl:List (Str×Addr)) (fp:List Addr),PG (X.gI s H scope (compEnvC scope cl C X.env) fp) tg g)(ht:∀(s:ae) (H:Hp) (C:Addr) (cl:List (Str×Addr)) (fp:List Addr),wu (X.gI s H scope (compEnvC scope cl C X.env) fp) ifs tt)
  (he:∀(s:ae) (H:Hp) (C:Addr) (cl:List (Str×Addr)) (fp:List Addr),PE (X.gI s H scope (compEnvC scope cl C X.env) fp) elt te)(hs:∀x,foldedSetIterable iter X.env x=pure x)
  (h:zU wi g tt te (own.map (·.2)) σ H Q)
  (VW:∀D C s' m H',Inv X pins σ H' s'->Q (.ref D) H'->s'.heap.Ns C m->jX X pins H' C->compPost (model X.prog X.w) X.A X.xe use Qf (.ref D) C (.ok .next) s'):
  wpAny (model X.prog X.w) X.A (comprehension (.ListComp elt [⟨tg,iter,ifs,0⟩] scope pos) scope X.env pos' (newList []) false (eval iter X.env) use) Qf X.xe s:=by
 have zh:∀y∈scope.names,y.2= .free->∃c,X.env.cells.lookup y.1=some c:=λy hy e=>by
  rcases ok.free y hy e with k|k
  ·exact I.ok.has _ (.inl k)
  exact I.ok.has _ (.inr k)
 refine wpAny_comprehension_free (use:=use) rfl hs (VM zh) ok.kind (λy hy e=>by rw[ok.uniq y hy,e])
  (aM (hi pins s σ H _ I h) λxv s1 hx=>aM hx λCw s2 h2=>?_)
 obtain⟨it,fp,tn,J,H2,e,I2,T,qO,f2,q⟩:=h2;subst e;refine ip (VN ?_) (by show 0<=sizeLine;decide);generalize hD:s2.heap.objs.size=D;have nE:H2 D=none:=I2.aK.fresh (Nat.le_of_eq hD);obtain⟨W,⟨m0,w0⟩,turn⟩:=q D nE;generalize lC:({s2 with heap:=s2.heap.push {cls:=.type "list",data:=.seq ([]:List ao).toArray}}:ae)=s3;have I3:Inv X pins σ (upd H2 D (.lst [])) s3:=by rw[<-lC];refine I2.laid (t':=s2.toks) (λb o e=>bI _ e) (Nat.le_of_eq hD) ⟨bL _,[],0,.nil,?_⟩;rw[<-hD];exact cv _ rfl
 have h3:s3.heap=s2.heap.push {cls:=.type "list",data:=.seq ([]:List ao).toArray}:=by rw[<-lC]
 have sz:∀b∈fp,b<s2.heap.objs.size:=λb hb=>by obtain⟨o,e,_⟩:=T.obj _ _ qO b hb;exact bK e
 have f3:∀b∈fp,jX X pins (upd H2 D (.lst [])) b/\b<s3.heap.objs.size:=λb hb=>by have bq:=sz b hb;refine⟨⟨?_,(f2 b hb).2⟩,by rw[h3,ij];exact GX bq⟩;rw[ay (by rw[<-hD];exact dP bq)];exact(f2 b hb).1
 have zu:tn 0 s3.heap:=T.keep _ _ _ qO λb _ o e=>by rw[h3];exact bI _ e
 have I4:=VO I3 ok hN f3;have pg:=hg s3 (upd H2 D (.lst [])) s3.heap.objs.size (cellsFrom (s3.heap.objs.size+1) scope.names (gd X.env.cells scope.names [])) fp;have pt:=ht s3 (upd H2 D (.lst [])) s3.heap.objs.size (cellsFrom (s3.heap.objs.size+1) scope.names (gd X.env.cells scope.names [])) fp;have pe:=he s3 (upd H2 D (.lst [])) s3.heap.objs.size (cellsFrom (s3.heap.objs.size+1) scope.names (gd X.env.cells scope.names [])) fp;show codeAny _ _ (.compStart (.ListComp elt [⟨tg,iter,ifs,0⟩] scope pos) 0 (.ref it) (.ref D) (compEnvC scope (cellsFrom (s3.heap.objs.size+1) scope.names (gd X.env.cells scope.names [])) s3.heap.objs.size X.env)) (compPost (model X.prog X.w) X.A X.xe use Qf (.ref D) s3.heap.objs.size) {s3 with heap:=pushCells (s3.heap.push {cls:=.type "dict",data:=.dict #[]}) scope.names};have JM:∀b∈fp,(upd H2 D (.lst [])) b=none:=λb hb=>(f3 b hb).1.1;generalize C7:compEnvC scope (cellsFrom (s3.heap.objs.size+1) scope.names (gd X.env.cells scope.names [])) s3.heap.objs.size X.env=ce at I4 pg pt pe⊢;have cL:ce.locals=s3.heap.objs.size:=by subst C7;rfl
 generalize wx:upd H2 D (.lst [])=H3 at I3 I4 pg pt pe w0 JM f3;generalize C8:({s3 with heap:=pushCells (s3.heap.push {cls:=.type "dict",data:=.dict #[]}) scope.names}:ae)=s4 at I4⊢;have wz:tn 0 s4.heap:=T.keep _ _ _ zu λb _ o e=>by rw[<-C8];exact pushCells_keeps _ _ _ _ (bI _ e)
 have stat:∀{σ':St} {H':Hp} {s':ae},Inv (X.gI s3 H3 scope ce fp) [] σ' H' s'->(∀b∈fp,H' b=none)->∀b∈fp,jX (X.gI s3 H3 scope ce fp) [] H' b:=λ{σ' H' s'} I' hn b hb=>
  ⟨hn b hb,(I'.ok.zf b hb).1,I'.ok.vT b hb,.inl hb,λx c e=>(I'.ok.zf b hb).2 x c e,λp hp=>absurd (show p∈([]:List (Addr×Obj))++[] from hp) (by simp)⟩
 have loop:codeAny (model X.prog X.w) X.A (.compLoop (.ListComp elt [⟨tg,iter,ifs,0⟩] scope pos) 0 (.ref it) (.ref D) ce) (compPost (model X.prog X.w) X.A X.xe use Qf (.ref D) s3.heap.objs.size) s4:=by
  refine VT (λn s'=>∃i H',Inv (X.gI s3 H3 scope ce fp) [] (wipe σ (own.map (·.2))) H' s'/\tn i s'.heap/\(∀b∈fp,H' b=none)/\W i n H') ?_ m0 ⟨0,H3,I4,wz,JM,w0⟩;rintro n s5 ⟨i,H5,I5,nv,n5,w5⟩;rcases turn i n H5 w5 with⟨stop,qq⟩|⟨go,Nx,VX,step⟩
  ·have td:=T.done (X.gI s3 H3 scope ce fp) rfl rfl rfl hc i [] s5 _ H5 (λ_ _=>False) I5 (stat I5 n5) nv stop
   refine ug td λr s6 ⟨hr,I6⟩=>?_;subst hr;have I7:Inv X pins σ H5 s6:=I3.Tu (ch:=fp) I6.os I6.base I6.aK I6.bare λb hb=>⟨(f3 b hb).1.2.2.2.1,(f3 b hb).1.2.1,(f3 b hb).1.2.2.2.2.1,(f3 b hb).1.2.2.2.2.2⟩;have nC:H5 s3.heap.objs.size=none:=by have z:H5 ce.locals=none:=I6.free;rw[cL]at z;exact z
   obtain⟨m,hn,_⟩:=I6.loc;have hn:s6.heap.Ns ce.locals m:=hn;rw[cL]at hn;exact VW D s3.heap.objs.size s6 m H5 I7 qq hn (I3.nu (aW _) nC)
  have ti:=T.item (X.gI s3 H3 scope ce fp) rfl rfl rfl hc i [] s5 _ H5 (λ_ _=>False) I5 (stat I5 n5) nv go;refine ug ti λr s6 ⟨u,hr,h6⟩=>?_;subst hr;refine ug h6 λ_ s7 h_=>?_;obtain⟨x,H7,I7,r7,y7,C9,n7⟩:=h_;have VY:=I7.pinned (stat I7 n7) (T.obj _ _ C9);refine ug (pg _ s7 _ H7 x u _ VY r7 (step x H7 y7)) λ_ s8 ⟨σ8,H8,I8,JN,q8⟩=>?_;refine ug (pt _ s8 σ8 H8 _ I8 q8) λb s9 ⟨H9,I9,q9⟩=>?_;have fin:∀{s':ae} {H':Hp},Inv (X.gI s3 H3 scope ce fp) ([]++wa fp s7.heap) σ8 H' s'->Nx H'->∃m,m<n/\∃i H',Inv (X.gI s3 H3 scope ce fp) [] (wipe σ (own.map (·.2))) H' s'/\tn i s'.heap/\(∀b∈fp,H' b=none)/\W i m H':=λ{s' H'} I' nx=>by
   obtain⟨m',hm,w'⟩:=VX H' nx;have JO:∀b∈fp,∀o,s7.heap.get? b=some o->s'.heap.get? b=some o/\H' b=none:=λb hb o e=>
    let z:=I'.pin (b,o) (qo _ (qo _ (Cy hb e)))
    ⟨z.1,z.2.1⟩
   have hl:(wipe σ (own.map (·.2))).length=σ8.length:=by rw[<-JN,C4]
   refine⟨m',hm,i+1,H',(I'.zt (pins:=[])).weak hl (λj v e=>?_),T.keep _ _ _ C9 λb hb o e=>(JO b hb o e).1,λb hb=>?_,w'⟩
   ·rw[<-JN]at e;exact(C5 e).1
   obtain⟨o,e,_⟩:=T.obj _ _ C9 b hb;exact(JO b hb o e).2
  cases b with
  |false=>simp only[iW,fK]at q9⊢;exact fin I9 q9
  |true=>simp only[gE]at q9⊢;refine ug (pe _ s9 σ8 H9 _ I9 q9) λz s10 h_=>?_;obtain⟨yv,H10,VZ,V0,acc,V1,V2,nx⟩:=h_;exact VR (X:=X.gI s3 H3 scope ce fp) VZ V1 V2 V0 λs11 V3=>fin V3 nx
 exact codeAny_compStart_list loop (T.self X.A 0 _ _ _ wz loop)
def j_(hc:X.calm=true)(hN:X.N.Nodup)(hi:PI X tg iter wi)(ok:wq X.N X.env.scope scope own)
  (hg:∀(s:ae) (H:Hp) (C:Addr) (cl:List (Str×Addr)) (fp:List Addr),PG (X.gI s H scope (compEnvC scope cl C X.env) fp) tg g)(ht:∀(s:ae) (H:Hp) (C:Addr) (cl:List (Str×Addr)) (fp:List Addr),wu (X.gI s H scope (compEnvC scope cl C X.env) fp) ifs tt)
  (he:∀(s:ae) (H:Hp) (C:Addr) (cl:List (Str×Addr)) (fp:List Addr),PE (X.gI s H scope (compEnvC scope cl C X.env) fp) elt te)(hs:∀x,foldedSetIterable iter X.env x=pure x:=by intro _;rfl):
  PE X (.ListComp elt [⟨tg,iter,ifs,0⟩] scope pos) (zU wi g tt te (own.map (·.2))):=by
 intro pins s σ H Q I h;rw[eval_ListComp];refine JL hc hN I hi ok hg ht he hs h λD C s' m H' I' q hn f=>⟨m,hn,λfC sb=>?_⟩;obtain⟨f0,f1,f2,f3,f4,f5⟩:=f;exact⟨.ref D,H',I'.turned (t':=s'.toks) (λb o hb e=>(sb.2 b hb).trans e) f0 f1 f3 f4 f5,rfl,q⟩
def JP(hc:X.calm=true)(hN:X.N.Nodup)(hy:X.N[i]?=some y)(JQ:X.env.scope.names.lookup y=some .local)
  (V4:swapsWith (.ListComp elt [⟨tg,iter,ifs,0⟩] scope pos) (some (.Name y py)) spos.line X.env=pure true)(hi:PI X tg iter wi)(ok:wq X.N X.env.scope scope own)
  (hg:∀(s:ae) (H:Hp) (C:Addr) (cl:List (Str×Addr)) (fp:List Addr),PG (X.gI s H scope (compEnvC scope cl C X.env) fp) tg g)(ht:∀(s:ae) (H:Hp) (C:Addr) (cl:List (Str×Addr)) (fp:List Addr),wu (X.gI s H scope (compEnvC scope cl C X.env) fp) ifs tt)
  (he:∀(s:ae) (H:Hp) (C:Addr) (cl:List (Str×Addr)) (fp:List Addr),PE (X.gI s H scope (compEnvC scope cl C X.env) fp) elt te)(hs:∀x,foldedSetIterable iter X.env x=pure x:=by intro _;rfl):
  PS X (.Assign [.Name y py] (.ListComp elt [⟨tg,iter,ifs,0⟩] scope pos) spos) (zp (zU wi g tt te (own.map (·.2))) (tX i)):=by
 intro pins s σ H D I h;rw[exec_Assign_Name_used _ _ _ _ V4];refine au (wpAny_standAt (au ?_));show wpAny _ X.A (do let _<-comprehension (.ListComp elt [⟨tg,iter,ifs,0⟩] scope pos) scope X.env (firstIterPos [⟨tg,iter,ifs,0⟩] pos) (newList []) false (eval iter X.env) (some (assign (.Name y py) X.env))) _ _ s;have h:zU wi g tt te (own.map (·.2)) σ H (λx H1=>tX i x σ H1 D.nx):=h;refine au (aM (JL (Qf:=λ_ s'=>SP X pins D .next s') hc hN I hi ok hg ht he hs h λL C s' m H' I' q hn f=>?_) λ_ s' hq=>aI (aI hq));show wpAny _ _ (assign (.Name y py) X.env (.ref L)) _ _ _;refine wpAny_assign_Name (HI (v:=V.ref L) I' hN hy (.inl JQ) rfl (λs2 I2 ⟨a,sb,ha⟩=>?_) (.inr JQ));obtain⟨f0,f1,f2,f3,f4,f5⟩:=f;have V5:C≠a:=by
  rcases ha with z|z
  ·rw[z];exact f1
  exact λe=>f4 y a z e.symm
 refine⟨m,hn.sameBut sb V5,λh3 V6=>?_⟩;exact⟨_,H',I2.turned (t':=s2.toks) (λb o hb e=>(V6.2 b hb).trans e) f0 f1 f3 f4 f5,q⟩
def JR(hk:env.scope.kind= .function)(hy:env.scope.names.lookup y=some .local)(hl:(py.line==pos.line)=true)
  (ha:(scope.names.any λ(n,k)=>n==y&&(k== .local||k== .cell))=false):swapsWith (.ListComp elt gs scope pos) (some (.Name y py)) l env=pure true:=by
 have ky:env.kindOf y=some .local:=hy;have hb:env.blockKind= .function:=by unfold Env.blockKind;rw[hk];rfl
 unfold swapsWith;simp only[hb,ky,ha,Expr.pos,hl];rfl
def nF{K:aa}{a:Addr}{xs:List V}{g:TG}{tt:TT}{te:TE}{vs:List Nat}{σ:St}{H1:Hp}{D:Addr}{Qd:Hp->Prop}(Pv:Nat->Hp->Prop)(h0:Pv 0 (upd H1 D (.lst [])))(hl:∀i H,i<=xs.length->Pv i H->aB K H a xs)
  (hs:∀i x H,xs[i]?=some x->Pv i H->g x (wipe σ vs) H λσ2 H2=>wipe σ2 vs=wipe σ vs/\tt σ2 H2 λb H3=>
   if b=true then te σ2 H3 λy H4=>∃acc,H4 D=some (.lst acc)/\acc.length<sizeLine/\Pv (i+1) (upd H4 D (.lst (acc++[y])))else Pv (i+1) H3)(hd:∀H,Pv xs.length H->Qd H):
  ∃W:Nat->Nat->Hp->Prop,(∃m,W 0 m (upd H1 D (.lst [])))/\∀i m H,W i m H->
   ((oU K a).stop i H/\Qd H)\/((oU K a).go i H/\∃Nx:Hp->Prop,(∀H',Nx H'->∃m',m'<m/\W (i+1) m' H')/\∀x H',(oU K a).i4 i H x H'->g x (wipe σ vs) H' λσ2 H2=>wipe σ2 vs=wipe σ vs/\tt σ2 H2 λb H3=>
    if b=true then te σ2 H3 λy H4=>∃acc,H4 D=some (.lst acc)/\acc.length<sizeLine/\Nx (upd H4 D (.lst (acc++[y])))else Nx H3):=by
 refine⟨λi m H=>m=xs.length - i/\i<=xs.length/\Pv i H,⟨xs.length,by simp,bL _,h0⟩,?_⟩;rintro i m H ⟨rfl,hi,p⟩;have q:=hl i H hi p;by_cases bq:i<xs.length
 ·refine .inr ⟨⟨xs,xs[i],q,by simp[bq]⟩,Pv (i+1),λH' p'=>⟨xs.length -(i+1),by grind,rfl,bq,p'⟩,λx H' y=>?_⟩;obtain⟨e,y⟩:=y;subst e;exact hs i x _ (y xs q) p
 have e:i=xs.length:=by lia
 subst e;exact .inl ⟨⟨xs,q,aW _⟩,hd H p⟩
def V7{K:aa}{a:Addr}{xs:List V}{g:TG}{tt:TT}{te:TE}{vs:List Nat}{σ:St}{H1:Hp}{D:Addr}{Qd:Hp->Prop}(Pv:Nat->Hp->Prop)(h0:Pv 0 (upd H1 D (.lst [])))(hl:∀i H,i<=xs.length->Pv i H->aX K H a xs)
  (hs:∀i x H,xs[i]?=some x->Pv i H->g x (wipe σ vs) H λσ2 H2=>wipe σ2 vs=wipe σ vs/\tt σ2 H2 λb H3=>
   if b=true then te σ2 H3 λy H4=>∃acc,H4 D=some (.lst acc)/\acc.length<sizeLine/\Pv (i+1) (upd H4 D (.lst (acc++[y])))else Pv (i+1) H3)(hd:∀H,Pv xs.length H->Qd H):
  ∃W:Nat->Nat->Hp->Prop,(∃m,W 0 m (upd H1 D (.lst [])))/\∀i m H,W i m H->
   ((v_ K a).stop i H/\Qd H)\/((v_ K a).go i H/\∃Nx:Hp->Prop,(∀H',Nx H'->∃m',m'<m/\W (i+1) m' H')/\∀x H',(v_ K a).i4 i H x H'->g x (wipe σ vs) H' λσ2 H2=>wipe σ2 vs=wipe σ vs/\tt σ2 H2 λb H3=>
    if b=true then te σ2 H3 λy H4=>∃acc,H4 D=some (.lst acc)/\acc.length<sizeLine/\Nx (upd H4 D (.lst (acc++[y])))else Nx H3):=by
 refine⟨λi m H=>m=xs.length - i/\i<=xs.length/\Pv i H,⟨xs.length,by simp,bL _,h0⟩,?_⟩;rintro i m H ⟨rfl,hi,p⟩;have q:=hl i H hi p;by_cases bq:i<xs.length
 ·refine .inr ⟨⟨xs,xs[i],q,by simp[bq]⟩,Pv (i+1),λH' p'=>⟨xs.length -(i+1),by grind,rfl,bq,p'⟩,λx H' y=>?_⟩;obtain⟨e,y⟩:=y;subst e;exact hs i x _ (y xs q) p
 have e:i=xs.length:=by lia
 subst e;exact .inl ⟨⟨xs,q,aW _⟩,hd H p⟩
def JS(N:List Str)(sc scope:Scope)(own:List (Str×Nat)):Bool:=
 (match scope.kind with| .function=>true|_=>false)&&(scope.names.all λy=>decide (scope.names.lookup y.1=some y.2))&&(own.all λp=>decide (N[p.2]?=some p.1))&&
  (scope.names.all λy=>match y.2 with
   | .free=>(match sc.names.lookup y.1 with|some .cell=>true|some .free=>true|_=>false)
   | .local=>decide (y.1∈own.map (·.1))||decide (y.1∉N)
   | .cell=>decide (y.1∈own.map (·.1))||decide (y.1∉N)
   |_=>true)
def i7(h:JS N sc scope own=true):wq N sc scope own:=by
 unfold JS at h;simp only[fo,l7,iK]at h;obtain⟨⟨⟨h1,h2⟩,h3⟩,h4⟩:=h;refine⟨?_,h2,h3,λy hy e=>?_,λy hy e=>?_⟩
 ·split at h1
  ·assumption
  cases h1
 ·have q:=h4 y hy;simp only[e]at q;split at q<;>first|exact .inl (by assumption)|exact .inr (by assumption)|cases q
 have q:=h4 y hy;rcases e with e|e<;>(simp only[e,vC,iK]at q;exact q)
section
variable{κ:Type}[DecidableEq κ]
def cI(kvs:List (κ×V))(k:κ):Option V:=(kvs.find? λkv=>decide (kv.1=k)).map (·.2)
def putK(kvs:List (κ×V))(k:κ)(v:V):List (κ×V):=
 if(kvs.any λkv=>decide (kv.1=k))=true then kvs.map (λkv=>if kv.1=k then(kv.1,v)else kv)else kvs++[(k,v)]
def ka{p:κ×V}{r:List (κ×V)}{k:κ}(e:p.1=k):cI (p::r) k=some p.2:=by simp[cI,qw,e]
def ke{p:κ×V}{r:List (κ×V)}{k:κ}(e:¬p.1=k):cI (p::r) k=cI r k:=by simp[cI,qw,e]
theorem wA(k:κ):∀kvs:List (κ×V),(kvs.any λkv=>decide (kv.1=k))=(cI kvs k).isSome
 |[]=>rfl
 |p::r=>by
  rw[l6];by_cases e:p.1=k
  ·simp only[ka e,cq e,Bool.true_or,Option.isSome_some]
  rw[ke e,b7 e,BW];exact wA k r
theorem JT(k j:κ)(y:V):∀kvs:List (κ×V),cI (kvs.map λkv=>if kv.1=k then(kv.1,y)else kv) j=(cI kvs j).map λx=>if j=k then y else x
 |[]=>rfl
 |p::r=>by
  have ih:=JT k j y r;rw[cA];by_cases h:p.1=k
  ·rw[aD h]
   by_cases e:p.1=j
   ·rw[ka (p:=(p.1,y)) e,ka e,vD,aD (e.symm.trans h)]
   rw[ke (p:=(p.1,y)) e,ke e,ih]
  rw[az h];by_cases e:p.1=j
  ·rw[ka (p:=p) e,ka e,vD,az (λz=>h (e.trans z))]
  rw[ke (p:=p) e,ke e,ih]
theorem JU(k j:κ)(y:V):∀kvs:List (κ×V),cI kvs k=none->cI (kvs++[(k,y)]) j=if j=k then some y else cI kvs j
 |[],_=>by
  by_cases e:k=j
  ·rw[aD e.symm];exact ka (p:=(k,y)) e
  rw[az (λz=>e z.symm)];exact ke (p:=(k,y)) e
 |p::r,hn=>by
  rw[GY];have hk:¬p.1=k:=λz=>by rw[ka z]at hn;cases hn
  rw[ke hk]at hn;have ih:=JU k j y r hn;by_cases e:p.1=j
  ·rw[ka e,ka e,az (λz=>hk (e.trans z))]
  rw[ke e,ke e,ih]
def rj(kvs:List (κ×V))(k j:κ)(y:V):cI (putK kvs k y) j=if j=k then some y else cI kvs j:=by
 unfold putK;by_cases a:(kvs.any λkv=>decide (kv.1=k))=true
 ·rw[aD a,JT]
  rw[wA]at a;by_cases e:j=k
  ·obtain⟨x,hx⟩:=kW.mp a;rw[aD e,e,hx,vD,aD rfl]
  simp[*]
 rw[az a];refine JU k j y kvs ?_;rw[wA]at a;simp_all
def nG(kvs:List (κ×V))(k:κ)(v:V):(putK kvs k v).length<=kvs.length+1:=by
 unfold putK;split
 ·rw[aT];simp[*]
 simp[*]
def V8{kvs:List (κ×V)}{k:κ}(v:V)(h:cI kvs k=none):putK kvs k v=kvs++[(k,v)]:=by unfold putK;rw[wA,h];exact az (by decide)
theorem gp.o7(r:gp o u):o.isSome=u.isSome:=by
 cases o with
 |none=>cases u with
  |none=>rfl
  |some _=>exact(show False from r).elim
 |some _=>cases u with
  |none=>exact(show False from r).elim
  |some _=>rfl
theorem gp.getD(r:gp o u)(rd:RelV d d'):RelV (o.getD d) (u.getD d'):=by
 cases o with
 |none=>cases u with
  |none=>exact rd
  |some _=>exact(show False from r).elim
 |some _=>cases u with
  |none=>exact(show False from r).elim
  |some _=>exact r
def KV.val{kvs:List (κ×V)}{vs:List (κ×ao)}(r:KV kvs vs)(k:κ):gp (cI kvs k) (valueAt vs k):=by
 unfold KV at r;induction r with
 |nil=>exact True.intro
 |@cons p q ps qs h t ih=>
  obtain⟨h1,h2⟩:=h;by_cases e:p.1=k
  ·have e':q.1=k:=h1.symm.trans e
   have b:valueAt (q::qs) k=some q.2:=by simp[valueAt,qw,e']
   rw[ka e,b];exact h2
  have e':¬q.1=k:=λz=>e (h1.trans z);have b:valueAt (q::qs) k=valueAt qs k:=by simp[valueAt,qw,e']
  rw[ke e,b];exact ih
theorem KV.any{kvs:List (κ×V)}{vs:List (κ×ao)}(r:KV kvs vs)(k:κ):(kvs.any λkv=>decide (kv.1=k))=vs.any λkv=>decide (kv.1=k):=by
 unfold KV at r;induction r with
 |nil=>rfl
 |cons h t ih=>rw[l6,l6,ih,h.1]
def KV.C_(r:KV kvs vs)(k:κ)(ry:RelV y u):
  KV (kvs.map λkv=>if kv.1=k then(kv.1,y)else kv) (vs.map λkv=>if kv.1=k then(kv.1,u)else kv):=by
 unfold KV at r⊢;induction r with
 |nil=>exact .nil
 |@cons p q ps qs h t ih=>
  rw[cA,cA];refine .cons ?_ ih;obtain⟨h1,h2⟩:=h;by_cases e:p.1=k
  ·rw[aD e,aD (h1.symm.trans e)];exact⟨h1,ry⟩
  rw[az e,az (λz=>e (h1.trans z))];exact⟨h1,h2⟩
def KV.put(r:KV kvs vs)(k:κ)(ry:RelV y u):KV (putK kvs k y) (stored vs k u):=by
 unfold putK stored;rw[r.any k];by_cases e:(vs.any λkv=>decide (kv.1=k))=true
 ·rw[aD e,aD e];exact r.C_ k ry
 rw[az e,az e];exact kX r ⟨rfl,ry⟩
theorem KV.length{kvs:List (κ×V)}{vs:List (κ×ao)}(r:KV kvs vs):kvs.length=vs.length:=bZ r
end
def o8(r:RelV (kV k) u):(fA P w).is k u=true:=by
 cases k with
 |inl i=>obtain⟨t,e⟩:=(show∃t,u=Value.int i t from r);subst e;exact Tb P w i t
 |inr x=>obtain⟨t,e⟩:=(show∃t,u=Value.str x t from r);subst e;exact Tc P w x t
theorem JV:∀{ks:List Key} {us:List ao},aY (ks.map kV) us->ItemsAre (fA P w) ks us
 |[],_,r=>by rw[vA]at r;cases r;exact .nil
 |k::ks,_,r=>by
  rw[cA]at r;cases r with
  |cons h t=>exact .cons (o8 h) (JV t)
abbrev KT(H:Hp):List (List Key×V)->List (List Key×Addr×ao)->Prop:=Paired λp q=>p.1=q.1/\H q.2.1=some (.tup (p.1.map kV))/\RelV p.2 q.2.2
def KT.val{H:Hp}{kvs:List (List Key×V)}{xs:List (List Key×Addr×ao)}(r:KT H kvs xs)(k:List Key):gp (cI kvs k) ((atKey xs k).map (·.2)):=by
 induction r with
 |nil=>exact True.intro
 |@cons p q ps qs h t ih=>
  obtain⟨h1,_,h2⟩:=h;by_cases e:p.1=k
  ·have e':q.1=k:=h1.symm.trans e
   have b:atKey (q::qs) k=some q.2:=by simp[atKey,qw,e']
   rw[ka e,b];exact h2
  have e':¬q.1=k:=λz=>e (h1.trans z);have b:atKey (q::qs) k=atKey qs k:=by simp[atKey,qw,e']
  rw[ke e,b];exact ih
def KT.C_(r:KT H kvs xs)(k:List Key)(ry:RelV y u):
  KT H (kvs.map λkv=>if kv.1=k then(kv.1,y)else kv) (xs.map (putAt k u)):=by
 induction r with
 |nil=>exact .nil
 |@cons p q ps qs h t ih=>
  rw[cA,cA];refine .cons ?_ ih;obtain⟨h1,h2,h3⟩:=h;unfold putAt;by_cases e:p.1=k
  ·rw[aD e,aD (h1.symm.trans e)];exact⟨h1,h2,ry⟩
  rw[az e,az (λz=>e (h1.trans z))];exact⟨h1,h2,h3⟩
def KT.put(r:KT H kvs xs)(k:List Key)(hb:H b=some (.tup (k.map kV)))(ry:RelV y u):
  KT H (putK kvs k y) (storedH xs k b u):=by
 have e:(kvs.any λkv=>decide (kv.1=k))=(atKey xs k).isSome:=by rw[wA,(r.val k).o7,yX]
 unfold putK storedH;rw[e];by_cases q:(atKey xs k).isSome=true
 ·rw[aD q,aD q];exact r.C_ k ry
 rw[az q,az q];exact kX r ⟨rfl,hb,ry⟩
def KT.keeps(r:KT H kvs xs)(ht:∀b ys,H b=some (.tup ys)->H' b=some (.tup ys)):KT H' kvs xs:=
 Paired.cj r λ_ _ z=>⟨z.1,ht _ _ z.2.1,z.2.2⟩
def JW(ok:cQ P w H h)(e:Rd H a u):cP P w H h a u:=e.ok ok
def uh(ok:cQ P w H h)(e:Rd H a (.dK kvs)):kvs.length<=sizeLine/\(a==sysModules)=false/\∃vs,KV kvs vs/\h.DictOf (fA P w) a vs:=
 show cP P w H h a (.dK kvs) from JW ok e
def JX(ok:cQ P w H h)(e:H a=some (.dK kvs)):kvs.length<=sizeLine/\(a==sysModules)=false/\∃vs,KV kvs vs/\h.DictOf (fA P w) a vs:=uh ok (.inl e)
def ui(ok:cQ P w H h)(e:H a=some (.tup (ks.map kV))):(tupleKind (fA P w)).is h ks a:=by obtain⟨_,its,r,o,h1,h2,n,h3⟩:=(show cP P w H h a (.tup (ks.map kV)) from ok a _ e);exact⟨o,its.toArray,n,h1,h2,h3,by simpa using JV r⟩
def uj(ok:cQ P w H h)(e:Rd H a (.dT kvs)):kvs.length<=sizeLine/\(a==sysModules)=false/\
  ∃xs,KT H kvs xs/\h.DictOfH (tupleKind (fA P w)) a xs:=by
 obtain⟨z,y,xs,r,o,es,ep,h1,h2,h3,h4,h5⟩:=(show cP P w H h a (.dT kvs) from JW ok e);refine⟨z,y,xs,r,o,es,ep,h1,h2,h3,h4,λx hx=>?_,h5⟩;have all:∀{l:List (List Key×V)} {m:List (List Key×Addr×ao)},KT H l m->∀x∈m,(tupleKind (fA P w)).is h x.1 x.2.1:=by
  intro l m q;induction q with
  |nil=>intro x hx;exact nomatch hx
  |@cons p q ps qs hq t ih=>
   intro x hx;rcases be.mp hx with e|hx
   ·subst e;exact ui ok (by rw[<-hq.1];exact hq.2.1)
   exact ih x hx
 exact all r x hx
def JY(ok:cQ P w H h)(e:H a=some (.dT kvs)):kvs.length<=sizeLine/\(a==sysModules)=false/\
  ∃xs,KT H kvs xs/\h.DictOfH (tupleKind (fA P w)) a xs:=uj ok (.inl e)
def fD(H:Hp)(a:Addr)(y:V)(r:Option V):Prop:=
 (∃kvs k,Rd H a (.dK kvs)/\y=kV k/\r=cI kvs k)\/∃kvs k b,Rd H a (.dT kvs)/\y= .ref b/\H b=some (.tup (k.map kV))/\r=cI kvs k
def jA(H:Hp)(a:Addr)(y v:V)(H':Hp):Prop:=
 (∃kvs k,H a=some (.dK kvs)/\y=kV k/\kvs.length<sizeLine/\H'=upd H a (.dK (putK kvs k v)))\/
 ∃kvs k b,H a=some (.dT kvs)/\y= .ref b/\H b=some (.tup (k.map kV))/\kvs.length<sizeLine/\H'=upd H a (.dT (putK kvs k v))
theorem fD.k{H:Hp}{a:Addr}{kvs:List (Key×V)}{k:Key}(e:H a=some (.dK kvs)):fD H a (kV k) (cI kvs k):=.inl ⟨kvs,k,.inl e,rfl,rfl⟩
def fD.t{H:Hp}{a b:Addr}{kvs:List (List Key×V)}{k:List Key}(e:H a=some (.dT kvs))(eb:H b=some (.tup (k.map kV))):fD H a (.ref b) (cI kvs k):=.inr ⟨kvs,k,b,.inl e,rfl,eb,rfl⟩
theorem jA.k{H:Hp}{a:Addr}{kvs:List (Key×V)}{k:Key}{v:V}(e:H a=some (.dK kvs))(hl:kvs.length<sizeLine):jA H a (kV k) v (upd H a (.dK (putK kvs k v))):=.inl ⟨kvs,k,e,rfl,hl,rfl⟩
def jA.t{H:Hp}{a b:Addr}{kvs:List (List Key×V)}{k:List Key}{v:V}(e:H a=some (.dT kvs))(eb:H b=some (.tup (k.map kV)))(hl:kvs.length<sizeLine):
  jA H a (.ref b) v (upd H a (.dT (putK kvs k v))):=.inr ⟨kvs,k,b,e,rfl,eb,hl,rfl⟩
def Inv.wB(I:Inv X pins σ H s):sysModules<s.heap.objs.size:=by have h:mainGlobals<s.heap.objs.size:=(I.mod.glob.keeps I.bk).lt;exact Nat.lt_trans (by decide) h
def V9(hu:A.units+1<cLine)(I:Inv X pins σ H s)(g:fD H a y o)(ry:RelV y u)(h:∀s',Inv X pins σ H s'->Q (.bool o.isSome) s'):
  wpAny (model X.prog X.w) A (compareOp .In u (.ref a)) Q E s:=by
 rcases g with⟨kvs,k,e,ey,l⟩|⟨kvs,k,b,e,ey,eb,l⟩
 ·subst ey;obtain⟨z,hd,vs,rel,dd⟩:=uh I.aK e;refine wpAny_in_of (o8 ry) hd dd.mapOf ?_;rw[<-(rel.val k).o7,<-l];exact h _ (I.tok _)
 subst ey;cases(show u=Value.ref b from ry);obtain⟨z,hd,xs,rel,dd⟩:=uj I.aK e;refine wpAny_in_heap (BX hu) (ui I.aK eb) hd dd ?_;have q:=(rel.val k).o7;rw[yX]at q;rw[<-q,<-l];exact h _ (I.tok _)
def V_(hu:A.units+1<cLine)(I:Inv X pins σ H s)(g:fD H a y o)(ry:RelV y u)(h:∀s',Inv X pins σ H s'->Q (.bool (!o.isSome)) s'):
  wpAny (model X.prog X.w) A (compareOp .NotIn u (.ref a)) Q E s:=by
 rcases g with⟨kvs,k,e,ey,l⟩|⟨kvs,k,b,e,ey,eb,l⟩
 ·subst ey;obtain⟨z,hd,vs,rel,dd⟩:=uh I.aK e;refine wpAny_notIn_of (o8 ry) hd dd.mapOf ?_;rw[<-(rel.val k).o7,<-l];exact h _ (I.tok _)
 subst ey;cases(show u=Value.ref b from ry);obtain⟨z,hd,xs,rel,dd⟩:=uj I.aK e;refine wpAny_notIn_heap (BX hu) (ui I.aK eb) hd dd ?_;have q:=(rel.val k).o7;rw[yX]at q;rw[<-q,<-l];exact h _ (I.tok _)
def uk(I:Inv X pins σ H s)(mu:oP (H a))(hs:Heap.SameBut a s.heap h')(he:∃q,h'.get? a=some q)(new:cP X.prog X.w (upd H a ob) h' a ob):
  Inv X pins σ (upd H a ob) {s with heap:=h',toks:=t'}:=
 I.write (x:=a) (e:=a) mu (.inl rfl) (λb q hb z=>(hs.2 b hb).trans z) he new
def JZ(z:kvs.length<=sizeLine)(hd:(a==sysModules)=false)(rel:KV kvs vs)(dd:h'.DictOf (fA P w) a vs):
  cP P w H' h' a (.dK kvs):=⟨z,hd,vs,rel,dd⟩
def Wa(hu:A.units+1<cLine)(I:Inv X pins σ H s)(g:jA H a y v H')(ry:RelV y u)(rv:RelV v r)(h:∀s',Inv X pins σ H' s'->Q () s'):
  wpAny (model X.prog X.w) A (setItem (.ref a) u r) Q E s:=by
 rcases g with⟨kvs,k,e,ey,l,eH⟩|⟨kvs,k,b,e,ey,eb,l,eH⟩
 ·subst ey eH
  obtain⟨z,hd,vs,rel,dd⟩:=JX I.aK e;have hz:vs.length<=sizeLine:=by rw[<-rel.length];exact z
  have hl:(putK kvs k v).length<=sizeLine:=by have:=nG kvs k v;exact cF ‹_› ‹_›
  refine wpAny_setItem_pairs (hsz:=hz) (o8 ry) dd λh' jB hs=>h _ ?_;have he:∃q,h'.get? a=some q:=let⟨q,_,_,hq,_⟩:=jB;⟨q,hq⟩;exact uk I (by rw[e];exact True.intro) hs he (JZ hl hd (rel.put k rv) jB)
 subst ey eH;cases(show u=Value.ref b from ry);obtain⟨z,hd,xs,rel,dd⟩:=JY I.aK e;have hz:xs.length<=sizeLine:=by rw[<-bZ rel];exact z
 have hl:(putK kvs k v).length<=sizeLine:=by have:=nG kvs k v;exact cF ‹_› ‹_›
 refine wpAny_setItem_heap (hsz:=hz) (BX hu) (ui I.aK eb) dd λh' jB hs=>h _ ?_;obtain⟨q,es,ep,hq,h2,h3,h4,_,h5⟩:=jB;refine uk I (by rw[e];exact True.intro) hs ⟨q,hq⟩ ⟨hl,hd,_,(rel.put k eb rv).keeps λc ys ec=>?_,q,es,ep,hq,h2,h3,h4,h5⟩;rw[ay (e9 ec e (λz=>nomatch z))];exact ec
def Dc(i:Expr):Prop:=∀ov iv,subscripted i false ov iv=operate [ov,iv] (getItem ov iv)
def J0{prog:af}{w:ah}{A:ai}{E:ao->ae->Prop}{s:ae}{env:Env}{value slice:Expr}{pos:Pos}{T id:String}{Q:ao->ae->Prop}
  (hl:typeLookup (.type T) "__getitem__"=pure (some (.builtin id)))(hs:Dc slice)
  (h:wpAny (model prog w) A (eval value env) (λo s₁=>wpAny (model prog w) A (eval slice env) (λi s₂=>s₂.TypeIs o T/\wpAny (model prog w) A (getItem o i) Q E s₂) E s₁) E s):
  wpAny (model prog w) A (eval (.Subscript value slice pos) env) Q E s:=by
 refine Subscript_ (kR h (λo s₁ h₁=>kR h₁ (λi s₂ h₂=>?_) λ_ _ x=>x) λ_ _ x=>x);obtain⟨hT,h₂⟩:=h₂;unfold subscriptTail;refine au ?_;rw[getitemInPython_of_ne hT.not_modules];refine au (l8 hT hl ?_);have fin:wpAny (model prog w) A (subscripted slice false o i) (λr s₃=>wpAny (model prog w) A (letTemporaryGo value o r>>=λ_=>pure r) Q E s₃) E s₂:=by rw[hs o i];exact wpAny_operating (kR h₂ (λr s₃ h₃=>au (wpAny_letTemporaryGo (aI h₃))) λ_ _ x=>x)
 first
  |exact aI (au fin)
  |exact au (aI (au fin))
  |exact au fin
inductive J3(Q:VK)(y:V)(x:V)(H2:Hp):Prop
 |mk:∀a o,x= .ref a->fD H2 a y o->Q (.bl o.isSome) H2->J3 Q y x H2
def Wb(ty td:TE):TE:=λσ H Q=>ty σ H λy H1=>td σ H1 λx H2=>J3 Q y x H2
inductive J4(Q:VK)(y:V)(x:V)(H2:Hp):Prop
 |mk:∀a o,x= .ref a->fD H2 a y o->Q (.bl (!o.isSome)) H2->J4 Q y x H2
def Wc(ty td:TE):TE:=λσ H Q=>ty σ H λy H1=>td σ H1 λx H2=>J4 Q y x H2
inductive J5(D:Ends)(σ:L2.St)(v:V)(x:V)(y:V)(H3:Hp):Prop
 |mk:∀a H4,x= .ref a->jA H3 a y v H4->D.nx σ H4->J5 D σ v x y H3
def Wd(td ty tv:TE):TS:=λD σ H=>tv σ H λv H1=>td σ H1 λx H2=>ty σ H2 λy H3=>J5 D σ v x y H3
def wC(hu:X.A.units+1<cLine)(hi:PE X i ty)(ho:PE X o td):PC X .In i o (Wb ty td):=by intro pins s σ H Q I h;refine aM (hi pins s σ H _ I h) λiv s1 ⟨y,H1,I1,ry,q1⟩=>aM (ho pins s1 σ H1 _ I1 q1) λu s2 h_=>?_;obtain⟨x,H2,I2,rx,a,ov,ex,g,q2⟩:=h_;subst ex;obtain rfl:u=Value.ref a:=rx;exact V9 hu I2 g ry λs3 I3=>⟨.bl ov.isSome,H2,I3,rfl,q2⟩
def Dd(hu:X.A.units+1<cLine)(hi:PE X i ty)(ho:PE X o td):PC X .NotIn i o (Wc ty td):=by intro pins s σ H Q I h;refine aM (hi pins s σ H _ I h) λiv s1 ⟨y,H1,I1,ry,q1⟩=>aM (ho pins s1 σ H1 _ I1 q1) λu s2 h_=>?_;obtain⟨x,H2,I2,rx,a,ov,ex,g,q2⟩:=h_;subst ex;obtain rfl:u=Value.ref a:=rx;exact V_ hu I2 g ry λs3 I3=>⟨.bl (!ov.isSome),H2,I3,rfl,q2⟩
def rn(hu:X.A.units+1<cLine)(ho:PE X o td)(hi:PE X i ty)(hv:PE X value tv)(hs:swapsWith value (some (.Subscript o i pos')) pos.line X.env=pure false):
  PS X (.Assign [.Subscript o i pos'] value pos) (Wd td ty tv):=by
 intro pins s σ H D I h;refine wpAny_Assign_Subscript (aM (hv pins s σ H _ I h) λr s1 ⟨v,H1,I1,rv,q1⟩=>aM (ho pins s1 σ H1 _ I1 q1) λu s2 ⟨x,H2,I2,rx,q2⟩=>aM (hi pins s2 σ H2 _ I2 q2) λiv s3 h_=>?_) hs;obtain⟨y,H3,I3,ry,a,H4,ex,g,q3⟩:=h_;subst ex;obtain rfl:u=Value.ref a:=rx;exact Wa hu I3 g ry rv λs4 I4=>⟨σ,H4,I4,q3⟩
def J6(h:Heap)(hb:sysModules<h.objs.size):cP P w H (h.push {cls:=.type "dict",data:=.dict #[]}) h.objs.size (.dK []):=
 ⟨bL _,oK.mpr (aO (dP hb)),[],.nil,Heap.DictOf.new h⟩
def We(h:Heap)(hb:sysModules<h.objs.size):cP P w H (h.push {cls:=.type "dict",data:=.dict #[]}) h.objs.size (.dT []):=
 ⟨bL _,oK.mpr (aO (dP hb)),[],.nil,_,#[],0,cv _ rfl,⟨rfl,rfl,rfl⟩,rfl,rfl,qx⟩
def Wf:TE:=λ_ H Q=>∀p,H p=none->Q (.ref p) (upd H p (.dK []))
def Wg:TE:=λ_ H Q=>∀p,H p=none->Q (.ref p) (upd H p (.dT []))
def zV:PE X (.Dict [] [] pos) Wf:=λpins s σ H Q I h=>
 wpAny_Dict_empty ⟨.ref s.heap.objs.size,_,I.laid (a:=s.heap.objs.size) (o:=.dK []) (t':=s.toks) (λ_ _ q=>bI _ q) (aW _) (J6 s.heap I.wB),rfl,h _ (I.aK.fresh (aW _))⟩
def De:PE X (.Dict [] [] pos) Wg:=λpins s σ H Q I h=>
 wpAny_Dict_empty ⟨.ref s.heap.objs.size,_,I.laid (a:=s.heap.objs.size) (o:=.dT []) (t':=s.toks) (λ_ _ q=>bI _ q) (aW _) (We s.heap I.wB),rfl,h _ (I.aK.fresh (aW _))⟩
def Df:List (TE×TE)->St->Hp->(List (V×V)->Hp->Prop)->Prop
 |[],_,H,Q=>Q [] H
 |(tk,tv)::r,σ,H,Q=>tk σ H λx H1=>tv σ H1 λy H2=>Df r σ H2 λps H3=>Q ((x,y)::ps) H3
abbrev VV:List (V×V)->List (ao×ao)->Prop:=Paired λp q=>RelV p.1 q.1/\RelV p.2 q.2
def zW(X:Cx)(pos:Pos)(keys:List (Option Expr))(values:List Expr)(rq:List (TE×TE)):Prop:=
 ∀(pins:List (Addr×Obj)) (s:ae) (σ:St) (H:Hp) (Q:List (V×V)->Hp->Prop),Inv X pins σ H s->Df rq σ H Q->
  wpAny (model X.prog X.w) X.A (evalPairs (pairTrees keys values X.env pos)) (λvs s'=>∃ps H',Inv X pins σ H' s'/\VV ps vs/\Q ps H') X.xe s
def Wh:zW X pos [] [] []:=λpins s σ H Q I h=>pairTrees_nil_walk ⟨[],H,I,.nil,h⟩
def Wi(hk:PE X k tk)(hv:PE X v tv)(hr:zW X pos ks vs rq):
  zW X pos (some k::ks) (v::vs) ((tk,tv)::rq):=λpins s σ H Q I h=>
 pairTrees_cons_walk (aM (hk pins s σ H _ I h) λu s1 ⟨x,H1,I1,rx,q1⟩=>aM (hv pins s1 σ H1 _ I1 q1) λw2 s2 ⟨y,H2,I2,ry,q2⟩=>
  aM (hr pins s2 σ H2 _ I2 q2) λws s3 ⟨ps,H3,I3,rel,q3⟩=>⟨(x,y)::ps,H3,I3,.cons ⟨rx,ry⟩ rel,q3⟩)
def rC(kvs more:List (Key×V)):List (Key×V):=more.foldl (λacc kv=>putK acc kv.1 kv.2) kvs
def KV.merge:∀{more:List (Key×V)} {rs:List (Key×ao)} {kvs:List (Key×V)} {vs:List (Key×ao)},KV more rs->KV kvs vs->KV (rC kvs more) (merged vs rs):=by
 intro more rs kvs vs r;unfold KV at r;induction r generalizing kvs vs with
 |nil=>intro q;exact q
 |@cons p q ps qs h t ih=>
  intro r0;have e:KV (putK kvs p.1 p.2) (stored vs q.1 q.2):=by have:=r0.put p.1 h.2;rw[<-h.1];exact this
  exact ih e
theorem J7:∀(more kvs:List (Key×V)),(rC kvs more).length<=kvs.length+more.length
 |[],kvs=>by show kvs.length<=kvs.length+0;simp[*]
 |p::r,kvs=>by have h1:=J7 r (putK kvs p.1 p.2);have h2:=nG kvs p.1 p.2;show(rC (putK kvs p.1 p.2) r).length<=_;rw[bG];lia
theorem J8:∀{kvs:List (Key×V)} {ws:List (ao×ao)},VV (kvs.map λkv=>(kV kv.1,kv.2)) ws->∃rs,Carries (fA P w) ws rs/\KV kvs rs
 |[],_,r=>by rw[vA]at r;cases r;exact⟨[],True.intro,.nil⟩
 |p::kvs,_,r=>by
  rw[cA]at r;cases r with
  |@cons a b as bs h t=>obtain⟨rs,c,q⟩:=J8 (P:=P) (w:=w) t;obtain⟨b1,b2⟩:=b;exact⟨(p.1,b2)::rs,⟨o8 h.1,rfl,c⟩,.cons ⟨rfl,h.2⟩ q⟩
def Wj(rq:List (TE×TE)):TE:=λσ H Q=>∀p,H p=none->Df rq σ (upd H p (.dK [])) λps H2=>H2 p=some (.dK [])/\∃kvs:List (Key×V),ps=kvs.map (λkv=>(kV kv.1,kv.2))/\kvs.length<=15/\Q (.ref p) (upd H2 p (.dK (rC [] kvs)))
def Wk(h:zW X pos keys values rq)(cx:keys.all (·.isSome)=true)(hl:keys.length=values.length)(h0:keys≠[])
  (Dg:keys.length<=15):PE X (.Dict keys values pos) (Wj rq):=by
 intro pins s σ H Q I q;have hn:=I.aK.fresh (aW s.heap.objs.size);have I1:=I.laid (a:=s.heap.objs.size) (o:=.dK []) (h':=s.heap.push {cls:=.type "dict",data:=.dict #[]}) (t':=s.toks) (λ_ _ q=>bI _ q) (aW _) (J6 s.heap I.wB);refine wpAny_Dict_walk (knd:=fA X.prog X.w) cx hl h0 Dg (aM (h pins _ σ _ _ I1 (q _ hn)) λws s2 h_=>?_);obtain⟨ps,H2,I2,rel,e,kvs,ep,lk,q2⟩:=h_;subst ep;obtain⟨rs,c,rk⟩:=J8 (P:=X.prog) (w:=X.w) rel;obtain⟨z,hd,vs0,r0,dd⟩:=JX I2.aK e;cases r0;refine⟨rs,c,dd,λh' jB hs=>⟨.ref s.heap.objs.size,_,?_,rfl,q2⟩⟩;have hz:(rC [] kvs).length<=sizeLine:=by have h1:=J7 kvs [];rw[dR]at h1;rw[bP];lia
 have he:∃q,h'.get? s.heap.objs.size=some q:=let⟨q,_,_,hq,_⟩:=jB;⟨q,hq⟩;exact uk I2 (by rw[e];exact True.intro) hs he (JZ hz hd (rk.merge .nil) jB)
structure M1(X:Cx)(o:Expr)(m:Str)(apos:Pos)(e:Expr)(dv:Pos):Prop where
 base:attributeBase o m X.env (eval o X.env)=eval o X.env
 dO:((backTo dv (starEach [e] X.env)).all (λx=>!x.1)&&(backToKw dv (keywordEach [] X.env)).all (λx=>x.1.isSome)
  &&decide (([e]:List Expr).length+([]:List Keyword).length+(if([]:List Keyword).isEmpty then 0 else 1)<30))=true
 line:(apos.endLine==dv.line)=true
 trees:backTo dv (starEach [e] X.env)=[(false,eval e X.env)]
structure M2(X:Cx)(o:Expr)(m:Str)(apos:Pos)(e f:Expr)(dv:Pos):Prop where
 base:attributeBase o m X.env (eval o X.env)=eval o X.env
 dO:((backTo dv (starEach [e,f] X.env)).all (λx=>!x.1)&&(backToKw dv (keywordEach [] X.env)).all (λx=>x.1.isSome)
  &&decide (([e,f]:List Expr).length+([]:List Keyword).length+(if([]:List Keyword).isEmpty then 0 else 1)<30))=true
 line:(apos.endLine==dv.line)=true
 trees:backTo dv (starEach [e,f] X.env)=[(false,eval e X.env),(false,eval f X.env)]
def Dh(H:Hp)(a:Addr):Prop:=(∃kvs,Rd H a (.dK kvs))\/∃kvs,Rd H a (.dT kvs)
def J9(I:Inv X pins σ H s)(d:Dh H a):
  s.TypeIs (.ref a) "dict"/\(∀b,Value.ref a= .ref b->∃ob,s.heap.get? b=some ob/\ob.dict=none)/\(a==sysModules)=false:=by
 rcases d with⟨kvs,e⟩|⟨kvs,e⟩
 ·obtain⟨_,hd,vs,_,dd⟩:=uh I.aK e;refine⟨dd.typeIs,λb q=>?_,hd⟩;cases q;obtain⟨ob,_,_,h1,h2,_⟩:=dd;exact⟨ob,h1,h2.2.1⟩
 obtain⟨_,hd,xs,_,dd⟩:=uj I.aK e;refine⟨dd.typeIs,λb q=>?_,hd⟩;cases q;obtain⟨ob,_,_,h1,h2,_⟩:=dd;exact⟨ob,h1,h2.2.1⟩
def Wl(hu:A.units+1<cLine)(I:Inv X pins σ H s)(g:fD H a y o)(ry:RelV y u)(h:∀w' s',Inv X pins σ H s'->RelV (o.getD .aQ) w'->Q w' s'):
  wpAny (model X.prog X.w) A (call (.builtin "dict.get") [.ref a,u]) Q E s:=by
 rcases g with⟨kvs,k,e,ey,l⟩|⟨kvs,k,b,e,ey,eb,l⟩
 ·subst ey;obtain⟨z,hd,vs,rel,dd⟩:=uh I.aK e;refine qy mY dd.typeIs vE (SF _ _) (meets_dict_get (fA X.prog X.w) a (o8 ry) hd) ⟨_,dd.mapOf,h _ _ (I.tok _) ?_⟩;rw[l];exact(rel.val k).getD rfl
 subst ey;cases(show u=Value.ref b from ry);obtain⟨z,hd,xs,rel,dd⟩:=uj I.aK e;refine qy mY dd.typeIs vE (SF _ _) (meetsH_dict_get (tupleKind (fA X.prog X.w)) a b hd) ⟨BX hu,k,xs,ui I.aK eb,dd,h _ _ (I.tok _) ?_⟩;rw[l];exact(rel.val k).getD rfl
def Wm(hu:A.units+1<cLine)(I:Inv X pins σ H s)(g:fD H a y o)(ry:RelV y u)(rd:RelV d r)(h:∀w' s',Inv X pins σ H s'->RelV (o.getD d) w'->Q w' s'):
  wpAny (model X.prog X.w) A (call (.builtin "dict.get") [.ref a,u,r]) Q E s:=by
 rcases g with⟨kvs,k,e,ey,l⟩|⟨kvs,k,b,e,ey,eb,l⟩
 ·subst ey;obtain⟨z,hd,vs,rel,dd⟩:=uh I.aK e;refine qy mY dd.typeIs vE (GZ _ _ _) (meets_dict_get_default (fA X.prog X.w) a (o8 ry) hd r) ⟨_,dd.mapOf,h _ _ (I.tok _) ?_⟩;rw[l];exact(rel.val k).getD rd
 subst ey;cases(show u=Value.ref b from ry);obtain⟨z,hd,xs,rel,dd⟩:=uj I.aK e;refine qy mY dd.typeIs vE (GZ _ _ _) (meetsH_dict_get_default (tupleKind (fA X.prog X.w)) a b hd r) ⟨BX hu,k,xs,ui I.aK eb,dd,h _ _ (I.tok _) ?_⟩;rw[l];exact(rel.val k).getD rd
inductive J_(ty:TE)(σ:L2.St)(Q:VK)(x:V)(H1:Hp):Prop
 |mk:∀a,x= .ref a->Dh H1 a->(ty σ H1 λy H2=>∃o,fD H2 a y o/\Q (o.getD .aQ) H2)->J_ ty σ Q x H1
def Wn(td ty:TE):TE:=λσ H Q=>td σ H λx H1=>J_ ty σ Q x H1
inductive Ka(ty:TE)(tx:TE)(σ:L2.St)(Q:VK)(x:V)(H1:Hp):Prop
 |mk:∀a,x= .ref a->Dh H1 a->(ty σ H1 λy H2=>tx σ H2 λz H3=>∃o,fD H3 a y o/\Q (o.getD z) H3)->Ka ty tx σ Q x H1
def Wo(td ty tx:TE):TE:=λσ H Q=>td σ H λx H1=>Ka ty tx σ Q x H1
def Kb(hu:X.A.units+1<cLine)(ho:PE X o td)(he:PE X e ty)(m:M1 X o "get" apos e dv):PE X (.Call (.Attribute o "get" apos) [e] [] dv) (Wn td ty):=by intro pins s σ H Q I h;refine yY m.base m.dO m.line BY mY G0 (aM (ho pins s σ H _ I h) λu s1 h_=>?_);obtain⟨x,H1,I1,rx,a,ex,d,q1⟩:=h_;subst ex;obtain rfl:u=Value.ref a:=rx;obtain⟨t1,t2,_⟩:=J9 I1 d;refine⟨t1,t2,?_⟩;rw[m.trees];refine tL rfl (vy (kT (aM (he pins s1 σ H1 _ I1 q1) λiv s2 ⟨y,H2,I2,ry,ov,g,q2⟩=>oJ ?_)));exact Wl hu I2 g ry λw' s3 I3 jx=>⟨_,H2,I3,jx,q2⟩
def Kc(hu:X.A.units+1<cLine)(ho:PE X o td)(he:PE X e ty)(hf:PE X f tx)(m:M2 X o "get" apos e f dv):PE X (.Call (.Attribute o "get" apos) [e,f] [] dv) (Wo td ty tx):=by
 intro pins s σ H Q I h;refine yY m.base m.dO m.line BY mY G0 (aM (ho pins s σ H _ I h) λu s1 h_=>?_);obtain⟨x,H1,I1,rx,a,ex,d,q1⟩:=h_;subst ex;obtain rfl:u=Value.ref a:=rx;obtain⟨t1,t2,_⟩:=J9 I1 d;refine⟨t1,t2,?_⟩;rw[m.trees];refine tL rfl (vy (kT (aM (he pins s1 σ H1 _ I1 q1) λiv s2 ⟨y,H2,I2,ry,q2⟩=>
  kT (aM (hf pins s2 σ H2 _ I2 q2) λfv s3 ⟨z,H3,I3,rz,ov,g,q3⟩=>oJ ?_))))
 exact Wm hu I3 g ry rz λw' s4 I4 jx=>⟨_,H3,I4,jx,q3⟩
def Kd:bootBuiltins "reversed"=some (.type "reversed"):=by decide +kernel
def Inv.Ke{t':Nat}{ch:List Addr}(I:Inv X pins σ H s)(k:∀b o,b∉ch->s.heap.get? b=some o->h'.get? b=some o)(hf:∀b∈ch,jX X pins H b):Inv X pins σ H {s with heap:=h',toks:=t'}:=by
 have oR:∀b u,H b=some u->b∉ch:=λb u e z=>by have q:=(hf b z).1;rw[q]at e;cases e
 refine I.step (g':=s.gens) (d':=s.drawn) (ch:=ch) (λb hb=>⟨(hf b hb).2.2.2.1,(hf b hb).2.1,(hf b hb).2.2.2.2.1,(hf b hb).2.2.2.2.2⟩) (λb o _ _ hc e _=>k b o hc e) (λb o _ _ hc e _=>⟨o.slots,k b o hc e⟩)
  (λ_ _ _ _ n=>n) (λb o hc e=>⟨o,k b o hc e⟩) (λ_ _ e=>e) (λ_ _ _ e=>e) (λb ps e=>⟨#[],by assumption⟩) (λm hm=>?_) (λb u e=>?_) I.bare
 ·obtain⟨o,es,ep,ho,r⟩:=hm;exact⟨o,es,ep,k _ o (λz=>(hf _ z).2.1 rfl) ho,r⟩
 refine(I.aK b u e).dG (λc v hc q=>k c v ?_ q) (λ_ q=>q) λ_ _ q=>q;rcases hc with z|z
 ·rw[z];exact oR b u e
 exact oR c _ z
def Inv.wD{t':Nat}{ch:List Addr}{T:Addr}{ob:HO}(I:Inv X pins σ H s)(k:∀b o,b∉ch->s.heap.get? b=some o->h'.get? b=some o)(hf:∀b∈ch,jX X pins H b)(hT:s.heap.objs.size<=T)
  (new:cP X.prog X.w (upd H T ob) h' T ob):Inv X pins σ (upd H T ob) {s with heap:=h',toks:=t'}:=by
 have hn:H T=none:=I.aK.fresh hT;have oR:∀b u,H b=some u->b∉ch:=λb u e z=>by have q:=(hf b z).1;rw[q]at e;cases e
 refine I.step (g':=s.gens) (d':=s.drawn) (ch:=ch) (λb hb=>⟨(hf b hb).2.2.2.1,(hf b hb).2.1,(hf b hb).2.2.2.2.1,(hf b hb).2.2.2.2.2⟩) (λb o _ _ hc e _=>k b o hc e) (λb o _ _ hc e _=>⟨o.slots,k b o hc e⟩)
  (λb o _ e n=>?_) (λb o hc e=>⟨o,k b o hc e⟩) (λb xs e=>?_) (λb o u e=>?_) (λb ps e=>⟨#[],?_⟩) (λm hm=>?_) (λb u e=>?_) I.bare
 ·rw[ay (dP (ig (bK e) hT))];exact n
 ·rw[ay (bz e hn)];exact e
 ·rw[ay (bz e hn)];exact e
 ·rw[ay (bz e hn),e];simp
 ·obtain⟨o,es,ep,ho,r⟩:=hm;exact⟨o,es,ep,k _ o (λz=>(hf _ z).2.1 rfl) ho,r⟩
 by_cases hb:b=T
 ·subst hb;rw[aA]at e;cases e;exact new
 rw[ay hb]at e;refine(I.aK b u e).dG (λc v hc q=>k c v ?_ q) (λc q=>by rw[ay (bz q hn)];exact q) λc xs q=>by rw[ay (bz q hn)];exact q
 rcases hc with z|z
 ·rw[z];exact oR b u e
 exact oR c _ z
def Inv.lock(I:Inv X pins σ H s)(h:H d=some u)(mu:oP (some u)):∃od,Inv X pins σ (upd H d (.cB od u)) s:=by
 have x:=I.aK d u h;have ex:∃od,s.heap.get? d=some od:=by
  cases u with
  |lst xs=>obtain⟨_,_,_,_,e⟩:=x;exact⟨_,e⟩
  |dK kvs=>obtain⟨_,_,_,_,o,_,_,e,_⟩:=x;exact⟨o,e⟩
  |dT kvs=>obtain⟨_,_,_,_,o,_,_,e,_⟩:=x;exact⟨o,e⟩
  |set S n=>obtain⟨o,_,_,_,e,_⟩:=x;exact⟨o,e⟩
  |ins C dx fs=>obtain⟨_,_,_,e,_⟩:=x;exact⟨_,e⟩
  |ext φ=>obtain⟨_,⟨_,e⟩,_⟩:=x;exact⟨_,e⟩
  |_=>exact False.elim mu
 obtain⟨od,e⟩:=ex;have new:cP X.prog X.w (upd H d (.cB od u)) s.heap d (.cB od u):=by
  refine⟨e,x.dG (λb v _ q=>q) (λb q=>?_) λb xs q=>?_⟩
  ·rw[ay (λz=>by rw[z,h]at q;cases q;exact mu)];exact q
  rw[ay (λz=>by rw[z,h]at q;cases q;exact mu)];exact q
 exact⟨od,I.write (x:=d) (e:=d) (t':=s.toks) (h':=s.heap) (by rw[h];exact mu) (.inl rfl) (λb v _ q=>q) ⟨od,e⟩ new⟩
def Inv.zX(I:Inv X pins σ H s)(h:H d=some u)(mu:oP (some u)):∀o' u',X.qJ d≠some (.cB o' u'):=λo' u' e=>by have q:=I.base.lg d o' u' e;rw[h]at q;cases q;exact mu
def Inv.unlock(I:Inv X pins σ H s)(h:H d=some (.cB od u))(hn:∀o' u',X.qJ d≠some (.cB o' u')):Inv X pins σ (upd H d u) s:=by
 have um:∀b o,H b=some o->(∀o' u',o≠ .cB o' u')->b≠d:=λb o e bO z=>by rw[z,h]at e;cases e;exact bO _ _ rfl
 have neN:∀b,H b=none->b≠d:=λb e z=>by simp_all
 refine⟨I.ok,I.os,I.bare,⟨I.base.keep,I.base.slot,λb o e n hx=>?_,I.base.there,λb xs e=>?_,λb o x e=>?_,λb ps e=>?_⟩,I.loc,I.cell,?_,λx c e=>?_,λp hp=>?_,λb o e=>?_,I.len⟩
 ·rw[ay (neN b (I.base.free b o e n hx))];exact I.base.free b o e n hx
 ·have q:=I.base.i0 b xs e;rw[ay (um b _ q (λ_ _ z=>nomatch z))];exact q
 ·have q:=I.base.lg b o x e;rw[ay (λz=>by rw[z]at e;exact hn _ _ e)];exact q
 ·obtain⟨m,q⟩:=I.base.ng b ps e;exact⟨m,by rw[ay (um b _ q (λ_ _ z=>nomatch z))];exact q⟩
 ·rw[ay (neN _ I.free)];exact I.free
 ·rw[ay (neN c (I.jt x c e))];exact I.jt x c e
 ·obtain⟨e,n,r⟩:=I.pin p hp;exact⟨e,by rw[ay (neN _ n)];exact n,r⟩
 by_cases hb:b=d
 ·rw[hb,aA]at e;cases e;rw[hb];obtain⟨_,x⟩:=I.aK d _ h;exact x.dG (λc v _ q=>q) (λc q=>by rw[ay (um c _ q (λ_ _ z=>nomatch z))];exact q) λc xs q=>by rw[ay (um c _ q (λ_ _ z=>nomatch z))];exact q
 rw[ay hb]at e;exact(I.aK b o e).dG (λc v _ q=>q) (λc q=>by rw[ay (um c _ q (λ_ _ z=>nomatch z))];exact q) λc xs q=>by rw[ay (um c _ q (λ_ _ z=>nomatch z))];exact q
inductive Kf(t:TS)(D:Ends)(σ:L2.St)(H:Hp):Prop
 |mk:∀d u,H d=some u->oP (some u)->(∀od,t ⟨λσ' H'=>H' d=some (.cB od u)/\D.nx σ' (upd H' d u),λv H'=>H' d=some (.cB od u)/\D.rt v (upd H' d u),λσ' H'=>H' d=some (.cB od u)/\D.bk σ' (upd H' d u),λσ' H'=>H' d=some (.cB od u)/\D.ct σ' (upd H' d u)⟩ σ (upd H d (.cB od u)))->Kf t D σ H
def Wp(t:TS):TS:=λD σ H=>Kf t D σ H
def Wq{st:Stmt}{t:TS}(h:PS X st t):PS X st (Wp t):=by
 intro pins s σ H D I hw;obtain⟨d,u,hd,mu,hw⟩:=hw;obtain⟨od,I1⟩:=I.lock hd mu;refine aM (h pins s σ _ _ I1 (hw od)) λf s1 q=>?_;cases f with
 |next=>obtain⟨σ',H',I2,e,q⟩:=q;exact⟨σ',_,I2.unlock e (I.zX hd mu),q⟩
 |brk=>obtain⟨σ',H',I2,e,q⟩:=q;exact⟨σ',_,I2.unlock e (I.zX hd mu),q⟩
 |cont=>obtain⟨σ',H',I2,e,q⟩:=q;exact⟨σ',_,I2.unlock e (I.zX hd mu),q⟩
 |ret v=>obtain⟨x,σ',H',I2,r,e,q⟩:=q;exact⟨x,σ',_,I2.unlock e (I.zX hd mu),r,q⟩
def wF(I:Inv X pins σ H s)(o:Obj)
  (T:Turn X.prog X.w X.K tg J [s.heap.objs.size] s.heap.objs.size tn)(st:tn 0 (s.heap.push o))(q:R J H):zr X pins σ tg R (.ref s.heap.objs.size) {s with heap:=s.heap.push o,toks:=tk}:=by
 refine⟨s.heap.objs.size,[s.heap.objs.size],tn,J,H,rfl,I.kept λb ob e=>bI _ e,T,st,λb hb=>?_,q⟩;have e:b=s.heap.objs.size:=by simpa using hb
 subst e;exact I.nu (aW _) (I.aK.fresh (aW _))
def wG(lo c:Int)(n:Nat):It:=⟨λi _=>i<n,λi H x H'=>H'=H/\x= .int (lo+(i:Nat)*c),λi _=>n<=i⟩
def Wr{P:af}{w:ah}{K:aa}{tg:Expr}(it:Addr)(lo c:Int)(n:Nat):Turn P w K tg (wG lo c n) [it] it (λi h=>IsRangeIter h it (lo+(i:Nat)*c) ((n:Int) -(i:Nat)) c)where
 mem:=by simp
 obj:=λi h st b hb=>by simp_all
 keep:=λi h h' st k=>k it (by simp) _ st
 item:=by intro X hP hw hK hc i pins s σ H E I hf st hg;subst hP hw hK;obtain⟨f0,f1,f2,f3,f4,f5⟩:=hf it (by simp);have W:=Walks.range (prog:=X.prog) (w:=X.w) (I.ok.hd hc) it lo c n;refine W.item i s _ _ hg st λv h' tk hv fB kk=>?_;obtain⟨t,rfl⟩:=hv;have I1:Inv X pins σ H {s with heap:=h',toks:=tk}:=I.turned (λb o hb e=>kk b o (by simpa using hb) e) f0 f1 f3 f4 f5;exact⟨_,rfl,tY (s:={s with heap:=h',toks:=tk}) (n:="range_iterator") fB rfl rfl (by decide) ⟨.int (lo+(i:Nat)*c),H,I1,⟨t,rfl⟩,⟨rfl,rfl⟩,fB,λb hb=>(hf b hb).1⟩⟩
 done:=by intro X hP hw hK hc i pins s σ H E I hf st hg;subst hP hw hK;obtain⟨f0,f1,f2,f3,f4,f5⟩:=hf it (by simp);exact wpAny_pyNext_range_end (I.ok.hd hc) st (by have:n<=i:=hg;lia) λh' eb=>⟨rfl,I.turned (t':=s.toks) (λb o hb e=>eb b o hb e) f0 f1 f3 f4 f5⟩
 self:=λA i s Q E st h=>wpAny_pyIter_rangeiter st h
def nH(i j c:Int)(n:Nat):Prop:=c≠0/\c.natAbs<1073741824/\Builtin.Range.small i j c=true/\Builtin.Range.rangeSize i j c=n
def nH.neg(ha: -(2 ^ 62)<=i)(Di:i<2 ^ 62)(hb: -(2 ^ 62)<=j)(fE:j<2 ^ 62):nH i j (-1) (i - j).toNat:=
 ⟨by decide,by decide,PySem.W.small_down ha Di hb fE,PySem.W.rangeSize_downNat i j⟩
inductive Kg(R:It->Hp->Prop)(vs:List V)(H1:Hp):Prop
 |mk:∀(i j c:Int) (n:Nat),vs=[.int i,.int j,.int c]->nH i j c n->R (wG i c n) H1->Kg R vs H1
def Ws(ta:TA):TI:=λσ H R=>ta σ H λvs H1=>Kg R vs H1
def Dj(hg:Gl X "range")(hm:X.mg "range"=none)(ha:PA X [a,b,c] ta)
  (hs:starEach [a,b,c] X.env=(false,eval a X.env)::starEach [b,c] X.env:=by rfl)(eG:(backTo pos (starEach [b,c] X.env)).any (·.1)=false:=by rfl):
  PI X tg (.Call (.Name "range" p) [a,b,c] [] pos) (Ws ta):=by
 intro pins s σ H R I h;refine Call_ (ju I hg hm boot_range (mX (aM (ha pos pins s σ H _ I h) λus s1 ⟨vs,H1,I1,r1,q1⟩=>?_) hs eG));obtain⟨i,j,k,n,e,⟨c0,c1,c2,c3⟩,q⟩:=q1;subst e;cases r1 with
 |cons r rr=>
  cases rr with
  |cons r' rr=>
   cases rr with
   |cons Wt rr=>
    cases rr;obtain⟨t,rfl⟩:=r;obtain⟨t',rfl⟩:=r';obtain⟨Wu,rfl⟩:=Wt;refine call_range_3 c0 ?_ (.inl (PyProof.noPylong_small c1));refine wpAny_pyIter_range (IsRange.new ..) c2 ?_;have I2:Inv X pins σ H1 {s1 with heap:=s1.heap.push {cls:=.type "range",data:=.fields #[.int i t,.int j t',.int k Wu]}}:=I1.kept (t':=s1.toks) λb o e=>bI _ e
    refine wF (tk:=s1.toks) I2 _ (Wr _ i k n) ?_ q;have e1:i+((0:Nat):Int)*k=i:=by simp
    have e2:(n:Int) -((0:Nat):Int)=Builtin.Range.rangeSize i j k:=by rw[c3];simp
    show IsRangeIter _ _ (i+((0:Nat):Int)*k) ((n:Int) -((0:Nat):Int)) k;rw[e1,e2];exact cv _ rfl
def Dk{lo c:Int}{n:Nat}{g:TG}{tb:TS}{D:Ends}{σ:St}{H:Hp}(Pv:Nat->St->Hp->Prop)(h0:Pv 0 σ H)
  (hs:∀i σ H,i<n->Pv i σ H->g (.int (lo+(i:Nat)*c)) σ H λσ2 H2=>tb {D with nx:=Pv (i+1),ct:=Pv (i+1),bk:=D.nx} σ2 H2)(hd:∀σ H,Pv n σ H->D.nx σ H):
  ∃W:Nat->Nat->St->Hp->Prop,(∃m,W 0 m σ H)/\∀i m σ H,W i m σ H->
   ((wG lo c n).stop i H/\D.nx σ H)\/((wG lo c n).go i H/\∃N:St->Hp->Prop,(∀σ' H',N σ' H'->∃m',m'<m/\W (i+1) m' σ' H')/\∀x H',(wG lo c n).i4 i H x H'->g x σ H' λσ2 H2=>tb {D with nx:=N,ct:=N,bk:=D.nx} σ2 H2):=by
 refine⟨λi m σ H=>m=n - i/\i<=n/\Pv i σ H,⟨n,by simp,bL _,h0⟩,?_⟩;rintro i m σ H ⟨rfl,hi,p⟩;by_cases bq:i<n
 ·refine .inr ⟨bq,Pv (i+1),λσ' H' p'=>⟨n -(i+1),by grind,rfl,bq,p'⟩,λx H' y=>?_⟩;obtain⟨e,y⟩:=y;subst e y;exact hs i σ _ bq p
 have e:i=n:=by lia
 subst e;exact .inl ⟨aW _,hd σ H p⟩
def o9(x:Str):It:=⟨λi _=>i<x.cps.size,λi H v H'=>H'=H/\∃c,x.cps[i]?=some c/\v= .str ⟨#[c]⟩,λi _=>x.cps.size<=i⟩
def Kh{P:af}{w:ah}{K:aa}{tg:Expr}(it:Addr)(x:Str)(t:Tok)(ty:String)(nB:ty="str_ascii_iterator"\/ty="str_iterator"):
  Turn P w K tg (o9 x) [it] it (λi h=>h.IsStrIter it ty x t i)where
 mem:=by simp
 obj:=λi h st b hb=>by
  have e:b=it:=by simpa using hb
  subst e;obtain⟨o,e,c,d⟩:=st;exact⟨o,e,λv z=>by simp_all⟩
 keep:=λi h h' st k=>let⟨o,ho,r⟩:=st;⟨o,k it (by simp) o ho,r⟩
 item:=by
  intro X hP hw hK hc i pins s σ H E I hf st hg;subst hP hw hK;obtain⟨f0,f1,f2,f3,f4,f5⟩:=hf it (by simp);have W:Walks X.prog X.w X.A it [it] [it] x.cps.size (SignAt x) (λi h=>h.IsStrIter it ty x t i):=by
   rcases nB with e|e
   ·rw[e];exact Walks.strAscii (I.ok.hd hc) it x t
   rw[e];exact Walks.strWide (I.ok.hd hc) it x t
  have j0:["enumerate","zip","dict_itemiterator","dict_reverseitemiterator","odict_iterator","itertools.zip_longest","itertools.pairwise"].contains ty=false:=by
   rcases nB with e|e
   ·rw[e];decide
   rw[e];decide
  refine W.item i s _ _ hg st λv h' tk hv fB kk=>?_;obtain⟨c,u,Wv,rfl⟩:=hv;have I1:Inv X pins σ H {s with heap:=h',toks:=tk}:=I.turned (λb o hb e=>kk b o (by simpa using hb) e) f0 f1 f3 f4 f5;obtain⟨oi,e,cc,dd⟩:=id fB;exact⟨_,rfl,tY (s:={s with heap:=h',toks:=tk}) e cc dd j0 ⟨.str ⟨#[c]⟩,H,I1,⟨u,rfl⟩,⟨rfl,c,Wv,rfl⟩,fB,λb hb=>(hf b hb).1⟩⟩
 done:=by
  intro X hP hw hK hc i pins s σ H E I hf st hg;subst hP hw hK;obtain⟨f0,f1,f2,f3,f4,f5⟩:=hf it (by simp);have hx:x.cps[i]?=none:=SG hg;rcases nB with e|e
  ·rw[e]at st;exact wpAny_pyNext_ascii_end (I.ok.hd hc) st hx λh' eb=>⟨rfl,I.turned (t':=s.toks) (λb o hb e=>eb b o hb e) f0 f1 f3 f4 f5⟩
  rw[e]at st;exact wpAny_pyNext_wide_end (I.ok.hd hc) st hx λh' eb=>⟨rfl,I.turned (t':=s.toks) (λb o hb e=>eb b o hb e) f0 f1 f3 f4 f5⟩
 self:=λA i s Q E st h=>by
  rcases nB with e|e
  ·rw[e]at st;exact wpAny_pyIter_striter_ascii st h
  rw[e]at st;exact wpAny_pyIter_striter_wide st h
inductive Ki(R:It->Hp->Prop)(v:V)(H1:Hp):Prop
 |mk:∀x,v= .str x->R (o9 x) H1->Ki R v H1
def Ww(te:TE):TI:=λσ H R=>te σ H λv H1=>Ki R v H1
def Kj{X:Cx}{tg e:Expr}{te:TE}(he:PE X e te):PI X tg e (Ww te):=by
 intro pins s σ H R I h;refine aM (he pins s σ H _ I h) λv s1 h_=>?_;obtain⟨y,H1,I1,r1,x,ex,q⟩:=h_;subst ex;obtain⟨t,rfl⟩:=r1;cases ha:x.cps.all (·<128)
 ·exact wpAny_pyIter_wide ha (wF (tk:=s1.toks) I1 _ (Kh _ x t "str_iterator" (.inr rfl)) ⟨_,cv _ rfl,rfl,rfl⟩ q)
 exact wpAny_pyIter_ascii ha (wF (tk:=s1.toks) I1 _ (Kh _ x t "str_ascii_iterator" (.inl rfl)) ⟨_,cv _ rfl,rfl,rfl⟩ q)
def Wx(hd:(d==sysModules)=false)(ho:s.heap.get? d=some o)(hc:o.ExactDict)(lD:o.data= .dict es ep)
  (hQ:Q (.ref s.heap.objs.size) {s with heap:=s.heap.push {cls:=.type "dict_keyiterator",data:=.fields #[.ref d,.int 0 0,.int es.size 0,.int ep 0]}}):
  wpAny (model prog w) A (pyIter (.ref d)) Q E s:=by
 have hT:s.TypeIs (.ref d) "dict":=⟨o,ho,hc.1⟩;refine G1 hT F.slot_dict_iter (gY F.slot_dict_iter hT F.entry_dict_iter ?_ (F.args_dict_iter_1 _));unfold Builtin.«dict.__iter__»;refine au ?_;unfold Builtin.Dict.dictSlotNone;refine au (wpAny_notOrdered_dict hT ?_);show wpAny _ _ (pure (Value.ref d)) _ _ s;refine aI ?_;show wpAny _ _ (Builtin.Dict.showsAll d>>=_) _ _ s;unfold Builtin.Dict.showsAll;rw[az (by simp[*])];refine au (aI ?_);refine au (qz ho lD ?_);refine au (tM ho lD ?_);refine au (ip (aI ⟨_,rfl,"dict_keyiterator",_,⟨_,cv _ rfl,rfl⟩,yZ.lookup,?_⟩));assumption
def Wy(hit:s.heap.IsKeyIter it d i n ep)(fe:s.heap.get? d=some od)(jC:od.data= .dict es ep)
  (hsz:es.size=n)(hx:es[i]?=some en)(hQ:∀h',h'.IsKeyIter it d (i+1) n ep->Heap.SameBut it s.heap h'->Q (some en.key) {s with heap:=h'}):wpAny (model prog w) A (pyNext (.ref it)) Q E s:=by
 obtain⟨o,ho,hc,hd⟩:=id hit;unfold pyNext;refine au (qA (l5 (name:=Str.ofString "__next__") hit.typeIs yZ
  (gY yZ hit.typeIs F.entry_dict_keyiterator_next ?_ (F.args_dict_keyiterator_next_1 _))))
 refine au (aI ?_);refine au ?_;refine au ?_;first|refine au (G2 hit.typeIs (aI ?_))|refine au (G3 hit.typeIs (aI ?_))
 refine au (wpAny_fieldsOf ho hd ?_);have i8:Builtin.Dict_items.ownsTuple "dict_keyiterator"=false:=by decide
 simp only[i8,iW,fK];show wpAny _ _ (if(Value.ref d==Value.none)=true then _ else _) _ _ s;rw[az (show¬((Value.ref d==Value.none)=true) from fk)];refine au (aI ?_);refine au (qz fe jC ?_);rw[az (by simp[*])];refine au (aI ?_);refine au (tM fe jC ?_);rw[az (by simp)];refine aI ?_;obtain⟨Dl,rD⟩:=G4.mp hx;simp only[show¬((i:Int)<0) from by simp[*],fK,vq,G5 Dl];refine au ?_;first|refine au (G2 hit.typeIs (aI ?_))|refine au (G3 hit.typeIs (aI ?_))
 refine au (wpAny_isOneOf_keyiter hit.typeIs ?_);show wpAny _ _ (setField (.ref it) 1 (rawInt ((i:Int)+1))>>=_) _ _ s;refine au (BZ ho hd (by simp) ?_);have uo:(s.heap.update it (Obj.mapFields (·.setIfInBounds 1 (rawInt ((i:Int)+1))))).IsKeyIter it d (i+1) n ep:=
  ⟨_,vv _ ho (Obj.isFreed_of_fields (G6 hd _)),(Obj.cls_mapFields ..).trans hc,by rw[G6 hd];simp[rawInt]⟩
 refine au (jn ?_);refine au (wpAny_isOneOf_keyiter (s:={s with heap:=s.heap.update it (Obj.mapFields (·.setIfInBounds 1 (rawInt ((i:Int)+1))))}) uo.typeIs ?_);show wpAny _ _ (pure es[i].key) _ _ _;rw[rD];exact aI (aI ⟨_,rfl,aI (hQ _ uo (qB ..))⟩)
def Wz(hh:A.handled=none)(hit:s.heap.IsKeyIter it d i n ep)(fe:s.heap.get? d=some od)(jC:od.data= .dict es ep)
  (hsz:es.size=n)(zY:n<=i)(hQ:∀h',Heap.ExtBut it s.heap h'->Q none {s with heap:=h'}):wpAny (model prog w) A (pyNext (.ref it)) Q E s:=by
 obtain⟨o,ho,hc,hd⟩:=id hit;unfold pyNext;refine au (qA (l5 (name:=Str.ofString "__next__") hit.typeIs yZ
  (gY yZ hit.typeIs F.entry_dict_keyiterator_next ?_ (F.args_dict_keyiterator_next_1 _))))
 refine au (aI ?_);refine au ?_;refine au ?_;first|refine au (G2 hit.typeIs (aI ?_))|refine au (G3 hit.typeIs (aI ?_))
 refine au (wpAny_fieldsOf ho hd ?_);have i8:Builtin.Dict_items.ownsTuple "dict_keyiterator"=false:=by decide
 simp only[i8,iW,fK];show wpAny _ _ (if(Value.ref d==Value.none)=true then _ else _) _ _ s;rw[az (show¬((Value.ref d==Value.none)=true) from fk)];refine au (aI ?_);refine au (qz fe jC ?_);rw[az (by simp[*])];refine au (aI ?_);refine au (tM fe jC ?_);rw[az (by simp)];refine aI ?_;have WA:es.size<=i:=by rw[hsz];exact zY
 simp only[show¬((i:Int)<0) from by simp[*],fK,vq,SG WA];refine au ?_;first|refine au (G2 hit.typeIs (aI ?_))|refine au (G3 hit.typeIs (aI ?_))
 show wpAny _ _ (setField (.ref it) 0 .none>>=_) _ _ s;refine au (BZ ho hd (by simp) ?_);show wpAny _ _ (newExc (.type "StopIteration") []>>=_) _ _ _;refine au ?_;simp only[newExc,newTuple];refine au (ip ?_ (by size_fits));refine au (m:=firstArgMember _ _) (mZ (a:=Value.none) (by first|rfl|(simp only[firstArgMember];rfl)) ?_);refine ip ?_ (by size_fits);simp only[raiseNew];refine au (wpAny_handled ?_);rw[show A.in1.handled=none from hh];refine au (aI (wpAny_throw ?_));refine au (qC (T:="StopIteration") (b:=true) ⟨_,cv _ rfl,rfl⟩ isSubtype_stop ?_);exact aI (hQ _ (((qB ..).extBut.push _).push _))
def WB{α β:Type}{G:α->β->Prop}{l₁:List α}{l₂:List β}(h:Paired G l₁ l₂):∀{i:Nat} {a:α},l₁[i]?=some a->∃b,l₂[i]?=some b/\G a b:=by
 induction h with
 |nil=>intro i a e;simp at e
 |@cons a b l₁ l₂ r t ih=>
  intro i a' e;cases i with
  |zero=>simp_all
  |succ j=>simp_all
def Kk{o:Obj}{es jV:Array DictEntry}{ep oQ:Nat}(h:o.data= .dict es ep)(h':o.data= .dict jV oQ):jV=es/\oQ=ep:=by simp_all
def Kl(K:aa)(a:Addr):It:=
 ⟨λi H=>∃(xs:List V) (x:V),aB K H a xs/\xs[i]?=some x,λi H v H'=>∃T x,v= .ref T/\H T=none/\H'=upd H T (.tup [.int (i:Nat),x])/\∀xs,aB K H a xs->xs[i]?=some x,λi H=>∃xs:List V,aB K H a xs/\xs.length<=i⟩
def WC{P:af}{w:ah}{K:aa}{elts:List Expr}{kk:Nat}{gx:Pos}(a e it:Addr):
  Turn P w K (.Tuple elts kk gx) (Kl K a) [e,it] e (λi h=>(∃old,IsEnum h e it ((i:Nat):Int) old)/\h.IsListIter it a i/\e≠it)where
 mem:=by simp
 obj:=λi h st b hb=>by obtain⟨⟨old,he⟩,⟨o,ho,hc,hd⟩,_⟩:=st;grind
 keep:=λi h h' st k=>let⟨⟨old,he⟩,hi,bO⟩:=st;⟨⟨old,k e (by simp) _ he⟩,hi.at λo q=>k it (by simp) o q,bO⟩
 item:=by
  intro X hP hw hK hc i pins s σ H E I hf st hg;subst hP hw hK;obtain⟨⟨old,he⟩,hit,bO⟩:=st;obtain⟨xs,x,hq,hx⟩:=hg;obtain⟨its,rv,p,hz⟩:=I.list hq;obtain⟨u,hu,ru⟩:=rv.get hx;have rF:e<s.heap.objs.size:=bK he;have gf:it<s.heap.objs.size:=by obtain⟨_,q,_⟩:=hit;exact bK q
  refine wpAny_pyNext_enum_item he hit p.isList (x:=u) (by simpa using hu) bO λh' ho uo hT hsz hk=>?_;refine⟨_,rfl,wpAny_letOwnedTupleGo_enum (s:={s with heap:=h',toks:=s.toks+1}) ho λfC kf sb=>?_⟩;have nJ:fC.get? s.heap.objs.size=some {cls:=.type "tuple",data:=.seq #[.int i s.toks,u]}:=(sb.2 _ (kS rF)).trans hT;have new:cP X.prog X.w (upd H s.heap.objs.size (.tup [.int (i:Nat),x])) fC s.heap.objs.size (.tup [.int (i:Nat),x]):=
   ⟨by show 2<=sizeLine;decide,[.int i s.toks,u],.cons ⟨_,rfl⟩ (.cons ru .nil),⟨_,nJ,rfl,_,rfl⟩⟩
  have I1:Inv X pins σ (upd H s.heap.objs.size (.tup [.int (i:Nat),x])) {s with heap:=fC,toks:=s.toks+1}:=
   I.wD (ch:=[e,it]) (λb ob hb q=>(sb.2 b (λz=>hb (by simp[z]))).trans (hk b ob (λz=>hb (by simp[z])) (λz=>hb (by simp[z])) q)) hf (aW _) new
  refine⟨.ref s.heap.objs.size,_,I1,rfl,⟨_,x,rfl,I.aK.fresh (aW _),rfl,λys hy=>by rw[I.vY hy hq];exact hx⟩,⟨⟨u,?_⟩,uo.at λo q=>(sb.2 it (aO bO)).trans q,bO⟩,λb hb=>?_⟩
  ·assumption
  have fE:b<s.heap.objs.size:=by
   have e':b=e\/b=it:=by simpa using hb
   rcases e' with z|z
   ·rw[z];exact rF
   rw[z];exact gf
  rw[ay (dP fE)];exact(hf b hb).1
 done:=by intro X hP hw hK hc i pins s σ H E I hf st hg;subst hP hw hK;obtain⟨⟨old,he⟩,hit,bO⟩:=st;obtain⟨xs,hq,hx⟩:=hg;obtain⟨its,rv,p,hz⟩:=I.list hq;obtain⟨f0,f1,f2,f3,f4,f5⟩:=hf it (by simp);have hl:=rv.length;exact wpAny_pyNext_enum_end (I.ok.hd hc) he hit p.isList (by simp;simp_all) λh' eb=>⟨rfl,I.turned (t':=s.toks) (λb o hb q=>eb b o hb q) f0 f1 f3 f4 f5⟩
 self:=λA i s Q E st h=>let⟨⟨_,he⟩,_⟩:=st;G7 he h
inductive Km(K:aa)(R:It->Hp->Prop)(vs:List V)(H1:Hp):Prop
 |mk:∀a xs,vs=[.ref a]->aB K H1 a xs->R (Kl K a) H1->Km K R vs H1
def WD(K:aa)(ta:TA):TI:=λσ H R=>ta σ H λvs H1=>Km K R vs H1
def Dm{X:Cx}{e:Expr}{ta:TA}{p pos gx:Pos}{elts:List Expr}{kk:Nat}(hg:Gl X "enumerate")(hm:X.mg "enumerate"=none)(ha:PA X [e] ta)(hs:starEach [e] X.env=[(false,eval e X.env)]:=by rfl):
  PI X (.Tuple elts kk gx) (.Call (.Name "enumerate" p) [e] [] pos) (WD X.K ta):=by
 intro pins s σ H R I h;refine Call_ (ju I hg hm boot_enumerate (mX (aM (ha pos pins s σ H _ I h) λus s1 ⟨vs,H1,I1,r1,q1⟩=>?_) hs rfl));obtain⟨a,xs,ex,hq,q⟩:=q1;subst ex;cases r1 with
 |cons r rr=>
  cases rr;cases r;obtain⟨its,rv,p',hz⟩:=I1.list hq;refine call_enumerate_list p'.isList λh' he hit hsz hk=>G7 he ?_
  have I2:Inv X pins σ H1 {s1 with heap:=h'}:=I1.kept (t':=s1.toks) hk;refine⟨s1.heap.objs.size+1,[s1.heap.objs.size+1,s1.heap.objs.size],_,_,H1,rfl,I2,WC a (s1.heap.objs.size+1) s1.heap.objs.size,⟨⟨.none,he⟩,hit,Nat.succ_ne_self _⟩,λb hb=>?_,q⟩;have e':b=s1.heap.objs.size+1\/b=s1.heap.objs.size:=by simpa using hb
  have hle:s1.heap.objs.size<=b:=by
   rcases e' with z|z
   ·simp[*]
   simp[*]
  exact I1.nu hle (I1.aK.fresh hle)
def Kn:bootBuiltins "zip"=some (.type "zip"):=by decide +kernel
def Ko(K:aa)(a b:Addr):It:=
 ⟨λi H=>∃(xs ys:List V) (x y:V),aB K H a xs/\aB K H b ys/\xs[i]?=some x/\ys[i]?=some y,
  λi H v H'=>∃T x y,v= .ref T/\H T=none/\H'=upd H T (.tup [x,y])/\(∀xs,aB K H a xs->xs[i]?=some x)/\∀ys,aB K H b ys->ys[i]?=some y,
  λi H=>∃xs ys:List V,aB K H a xs/\aB K H b ys/\(xs.length<=i\/ys.length<=i)⟩
def WE{P:af}{w:ah}{K:aa}{elts:List Expr}{kk:Nat}{gx:Pos}{a b z TI TO i1 i2:Addr}(D:ZipApart z TI TO i1 i2 a b):
  Turn P w K (.Tuple elts kk gx) (Ko K a b) [z,TI,TO,i1,i2] z (λi h=>IsZip h z TI TO .none/\IsPair h TI (.ref i1) (.ref i2)/\(∃x y,IsPair h TO x y)/\h.IsListIter i1 a i/\h.IsListIter i2 b i)where
 mem:=by simp
 obj:=λi h st c hc=>by obtain⟨hz,ff,⟨x,y,fZ⟩,⟨o1,e1,_,d1⟩,⟨o2,e2,_,d2⟩⟩:=st;grind
 keep:=λi h h' st k=>by obtain⟨hz,ff,⟨x,y,fZ⟩,h1,h2⟩:=st;exact⟨k z (by simp) _ hz,k TI (by simp) _ ff,⟨x,y,k TO (by simp) _ fZ⟩,h1.at λo q=>k i1 (by simp) o q,h2.at λo q=>k i2 (by simp) o q⟩
 item:=by
  intro X hP hw hK hc i pins s σ H E I hf st hg;subst hP hw hK;obtain⟨hz,ff,⟨x0,y0,fZ⟩,h1,h2⟩:=st;obtain⟨xs,ys,x,y,jD,jE,hx,hy⟩:=hg;obtain⟨its,rv,p,_⟩:=I.list jD;obtain⟨gS,o_,p2,_⟩:=I.list jE;obtain⟨u,hu,ru⟩:=rv.get hx;obtain⟨u2,wj,wk⟩:=o_.get hy;have Kp:z<s.heap.objs.size:=bK hz;refine wpAny_pyNext_zip_item D hz ff fZ h1 h2 p.isList p2.isList (x:=u) (y:=u2) (by simpa using hu) (by simpa using wj) λh' z' Dn iO kh hT hsz hk=>?_;refine⟨_,rfl,wpAny_letOwnedTupleGo_zip (s:={s with heap:=h'}) z' λfC Dq sb=>?_⟩;have nJ:fC.get? s.heap.objs.size=some {cls:=.type "tuple",data:=.seq #[u,u2]}:=(sb.2 _ (kS Kp)).trans hT;have new:cP X.prog X.w (upd H s.heap.objs.size (.tup [x,y])) fC s.heap.objs.size (.tup [x,y]):=
   ⟨by show 2<=sizeLine;decide,[u,u2],.cons ru (.cons wk .nil),⟨_,nJ,rfl,_,rfl⟩⟩
  have I1:Inv X pins σ (upd H s.heap.objs.size (.tup [x,y])) {s with heap:=fC}:=
   I.wD (t':=s.toks) (ch:=[z,TI,TO,i1,i2]) (λc o hb q=>(sb.2 c (λq'=>hb (by simp[q']))).trans (hk c o (λq'=>hb (by simp[q'])) (λq'=>hb (by simp[q'])) (λq'=>hb (by simp[q'])) (λq'=>hb (by simp[q'])) q)) hf (aW _) new
  refine⟨.ref s.heap.objs.size,_,I1,rfl,⟨_,x,y,rfl,I.aK.fresh (aW _),rfl,λl hl=>by rw[I.vY hl jD];exact hx,λl hl=>by rw[I.vY hl jE];exact hy⟩,⟨Dq,?_,⟨u,u2,?_⟩,?_,?_⟩,λc rH=>?_⟩
  ·exact(sb.2 _ D.TIz).trans (hk _ _ D.TIz D.TITO D.TIi1 D.TIi2 ff)
  ·exact(sb.2 _ D.TOz).trans Dn
  ·exact iO.at λo q=>(sb.2 _ D.i1z).trans q
  ·exact kh.at λo q=>(sb.2 _ D.i2z).trans q
  have bq:c<s.heap.objs.size:=by
   have e':c=z\/c=TI\/c=TO\/c=i1\/c=i2:=by simpa using rH
   rcases e' with q|q|q|q|q
   ·rw[q];exact Kp
   ·rw[q];exact bK ff
   ·rw[q];exact bK fZ
   ·rw[q];obtain⟨_,e1,_⟩:=h1;exact bK e1
   rw[q];obtain⟨_,e2,_⟩:=h2;exact bK e2
  rw[ay (dP bq)];exact(hf c rH).1
 done:=by
  intro X hP hw hK hc i pins s σ H E I hf st hg;subst hP hw hK;obtain⟨hz,ff,⟨x0,y0,fZ⟩,h1,h2⟩:=st;obtain⟨xs,ys,jD,jE,nL⟩:=hg;obtain⟨its,rv,p,_⟩:=I.list jD;obtain⟨gS,o_,p2,_⟩:=I.list jE;have l1:=rv.length;have l2:=o_.length;have he:its.toArray[i]?=none\/gS.toArray[i]?=none:=by simp_all
  exact wpAny_pyNext_zip_end (I.ok.hd hc) D hz ff fZ h1 h2 p.isList p2.isList he λh' hk=>⟨rfl,I.Ke (t':=s.toks) (ch:=[z,TI,TO,i1,i2]) (λc o hb q=>
   hk c o (λq'=>hb (by simp[q'])) (λq'=>hb (by simp[q'])) (λq'=>hb (by simp[q'])) (λq'=>hb (by simp[q'])) q) hf⟩
 self:=λA i s Q E st h=>wpAny_pyIter_zip st.1 h
inductive Kq(K:aa)(R:It->Hp->Prop)(vs:List V)(H1:Hp):Prop
 |mk:∀a b xs ys,vs=[.ref a,.ref b]->aB K H1 a xs->aB K H1 b ys->R (Ko K a b) H1->Kq K R vs H1
def WG(K:aa)(ta:TA):TI:=λσ H R=>ta σ H λvs H1=>Kq K R vs H1
def zZ{X:Cx}{e e2:Expr}{ta:TA}{p pos gx:Pos}{elts:List Expr}{kk:Nat}(hg:Gl X "zip")(hm:X.mg "zip"=none)(ha:PA X [e,e2] ta)
  (hs:starEach [e,e2] X.env=(false,eval e X.env)::starEach [e2] X.env:=by rfl)(eG:(backTo pos (starEach [e2] X.env)).any (·.1)=false:=by rfl):
  PI X (.Tuple elts kk gx) (.Call (.Name "zip" p) [e,e2] [] pos) (WG X.K ta):=by
 intro pins s σ H R I h;refine Call_ (ju I hg hm Kn (mX (aM (ha pos pins s σ H _ I h) λus s1 ⟨vs,H1,I1,r1,q1⟩=>?_) hs eG));obtain⟨a,b,xs,ys,ex,jD,jE,q⟩:=q1;subst ex;cases r1 with
 |cons r rr=>
  cases rr with
  |cons r' rr=>
   cases rr;cases r;cases r';obtain⟨its,rv,p1,_⟩:=I1.list jD;obtain⟨gS,o_,p2,_⟩:=I1.list jE;have la:a<s1.heap.objs.size:=p1.lt;have lb:b<s1.heap.objs.size:=p2.lt;refine call_zip_2 p1.isList p2.isList λh' hz ff fZ h1 h2 hsz hk=>wpAny_pyIter_zip hz ?_
   have I2:Inv X pins σ H1 {s1 with heap:=h'}:=I1.kept (t':=s1.toks) hk;refine⟨s1.heap.objs.size+4,[s1.heap.objs.size+4,s1.heap.objs.size+2,s1.heap.objs.size+3,s1.heap.objs.size,s1.heap.objs.size+1],_,_,H1,rfl,I2,WE (PySem.W.ktu_apart s1.heap.objs.size a b la lb),⟨hz,ff,⟨_,_,fZ⟩,h1,h2⟩,λc rH=>?_,q⟩;have e':c=s1.heap.objs.size+4\/c=s1.heap.objs.size+2\/c=s1.heap.objs.size+3\/c=s1.heap.objs.size\/c=s1.heap.objs.size+1:=by simpa using rH
   have hle:s1.heap.objs.size<=c:=by
    rcases e' with z|z|z|z|z
    ·simp[*]
    ·simp[*]
    ·simp[*]
    ·simp[*]
    simp[*]
   exact I1.nu hle (I1.aK.fresh hle)
end L2
namespace TL
open PySem PySem.Builtin PySem.Builtin.Str PySem.StrLaws
abbrev tl(x:Str):List Nat:=x.cps.toList
def wH(x:Str):x.length=(tl x).length:=by simp[tl,Str.length]
def Kr(h:tl x=tl y):x=y:=Str.ext' (Array.toList_inj.mp h)
def Ks(x y:Str):tl (x++y)=tl x++tl y:=by show(x++y).cps.toList=_;rw[Str.cps_append,Array.toList_append]
theorem Kt:∀{l m:List Str},l.map tl=m.map tl->l=m
 |[],[],_=>rfl
 |[],_::_,h=>by simp at h
 |_::_,[],h=>by simp at h
 |x::l,y::m,h=>by rw[cA,cA]at h;injection h with h1 h2;rw[Kr h1,Kt h2]
def pre(S l:List Nat):Bool:=l.take S.length==S
def eR(S:List Nat):Nat->List Nat->List Nat->List (List Nat)
 |_,acc,[]=>[acc]
 |0,acc,c::r=>if pre S (c::r)=true then acc::eR S (S.length - 1) [] r else eR S 0 (acc++[c]) r
 |k+1,acc,_::r=>eR S k acc r
def z3(S:List Nat)(k:Nat)(acc:List Nat):eR S k acc []=[acc]:=by cases k<;>rfl
def Ku(h:pre S (c::r)=true):eR S 0 acc (c::r)=acc::eR S (S.length - 1) [] r:=by show(if pre S (c::r)=true then acc::eR S (S.length - 1) [] r else eR S 0 (acc++[c]) r)=_;rw[aD h]
def Kv{S acc r:List Nat}{c:Nat}(h:pre S (c::r)=false):eR S 0 acc (c::r)=eR S 0 (acc++[c]) r:=by show(if pre S (c::r)=true then acc::eR S (S.length - 1) [] r else eR S 0 (acc++[c]) r)=_;simp[*]
theorem Kw(S:List Nat):∀(k:Nat) (acc l:List Nat),eR S k acc l=eR S 0 acc (l.drop k)
 |0,_,_=>by rw[vF]
 |k+1,acc,[]=>by rw[List.drop_nil,z3,z3]
 |k+1,acc,c::r=>by show eR S k acc r=eR S 0 acc (r.drop k);exact Kw S k acc r
def WH(hS:S≠[]):pre S []=false:=by
 cases S with
 |nil=>exact absurd rfl hS
 |cons s S=>rfl
def WI{L:List Nat}{a:Nat}(h:a<L.length):∃c,L.drop a=c::L.drop (a+1):=⟨L[a],List.drop_eq_getElem_cons h⟩
theorem Dr(S L:List Nat):∀(m a:Nat) (acc:List Nat),a+m<=L.length->(∀k,a<=k->k<a+m->pre S (L.drop k)=false)->
  eR S 0 acc (L.drop a)=eR S 0 (acc++(L.drop a).take m) (L.drop (a+m))
 |0,a,acc,_,_=>by simp[*]
 |m+1,a,acc,h,hn=>by
  have bq:a<L.length:=by lia
  obtain⟨c,e⟩:=WI bq;have h0:=hn a (aW _) (by simp[*]);have ih:=Dr S L m (a+1) (acc++[c]) (by lia) (λk h1 h2=>hn k (by exact gN ‹_›) (by lia));have e2:a+1+m=a+(m+1):=by lia
  rw[e2]at ih;rw[e]at h0;rw[e,Kv h0,ih,G8,tN]<;>rfl
def WJ(L:List Nat)(a b:Nat):(L.drop a).drop b=L.drop (a+b):=by simp[*]
def WK{S L:List Nat}(hS:S≠[]){c:Nat}{acc:List Nat}(h:pre S (L.drop c)=true):eR S 0 acc (L.drop c)=acc::eR S 0 [] (L.drop (c+S.length)):=by
 rw[<-WJ];cases e:L.drop c with
 |nil=>rw[e,WH hS]at h;simp_all
 |cons d r=>
  rw[e]at h;rw[Ku h,Kw];cases S with
  |nil=>exact absurd rfl hS
  |cons s S=>rfl
def Kx(hy:tl y≠[])(i:Nat):At x y x.length i↔pre (tl y) ((tl x).drop i)=true:=by
 have hx:=wH x;have hl:=wH y;constructor
 ·intro h;have h2:=h.2;rw[subAt_eq,hl]at h2;exact h2
 intro h;have e:((tl x).drop i).take (tl y).length=tl y:=eq_of_beq h;have e1:=gP List.length e;rw[dQ,qt]at e1;have e2:0<(tl y).length:=G9.mpr hy;refine⟨by lia,?_⟩;rw[subAt_eq,hl];exact h
def Ky(hy:tl y≠[])(h:¬At x y x.length i):pre (tl y) ((tl x).drop i)=false:=by
 cases hp:pre (tl y) ((tl x).drop i)with
 |false=>rfl
 |true=>exact absurd ((Kx hy i).mpr hp) h
def WL(hy:tl y≠[]):1<=y.length:=by have e2:0<(tl y).length:=G9.mpr hy;assumption
def Kz(x:Str)(i j:Nat):tl (strSub x i j)=((tl x).drop i).take (j - i):=strSub_toList x i j
def WM(x:Str)(i:Nat):tl (strSub x i x.length)=(tl x).drop i:=by rw[Kz,wH x];exact fq (by simp[*])
theorem KA{x y:Str}(hy:tl y≠[]):∀(KC:List Nat) (a f:Nat),a<=(tl x).length->ChainG x y x.length a KC f->(∀k,f<=k->¬At x y x.length k)->
  (partsFrom x y.length a KC).map tl=eR (tl y) 0 [] ((tl x).drop a)
 |[],a,f,ha,h,hn=>by
  have e:f=a:=h;subst e;show [tl (strSub x f x.length)]=_;have run:=Dr (tl y) (tl x) ((tl x).length - f) f [] (by simp_all) (λk h1 _=>Ky hy (hn k h1));have e2:f+((tl x).length - f)=(tl x).length:=by simp_all
  rw[e2,List.drop_length,z3,B0,fq (by simp[*])]at run;rw[run,WM]
 |c::r,a,f,ha,h,hn=>by
  obtain⟨h1,h2,h3,h4⟩:=h;have hc:c+y.length<=x.length:=h2.1;have hx:=wH x;have hl:=wH y;have ih:=KA hy r (c+y.length) f (by assumption) h4 hn;show tl (strSub x a c)::(partsFrom x y.length (c+y.length) r).map tl=_;have run:=Dr (tl y) (tl x) (c - a) a [] (by grind) (λk k1 k2=>Ky hy (h3 k k1 (by simp_all)));have e2:a+(c - a)=c:=by simp[*]
  rw[e2,B0,WK hy ((Kx hy c).mp h2)]at run;rw[run,ih,Kz,hl]
def WN(x y:Str)(hy:tl y≠[])(hk:¬Builtin.Str.strKind x<Builtin.Str.strKind y):(Txt.split x y).map tl=eR (tl y) 0 [] (tl x):=by
 obtain⟨f,g,hn⟩:=occ_tight x y (WL hy);have key:=KA hy _ 0 f (bL _) g hn;rw[vF]at key;have WO:occurrences x y 0 x.length (x.length+1)=[]->[x].map tl=eR (tl y) 0 [] (tl x):=λho=>by rw[ho]at key;rw[<-key];show [tl x]=[tl (strSub x 0 x.length)];rw[sub_whole]
 unfold Txt.split;by_cases h1:(decide (x.length<y.length)||decide (Builtin.Str.strKind x<Builtin.Str.strKind y))=true
 ·rw[aD h1]
  have bq:x.length<y.length:=by
   simp only[vC,iK]at h1;rcases h1 with h|h
   ·exact h
   exact absurd h hk
  refine WO ?_;cases ho:occurrences x y 0 x.length (x.length+1)with
  |nil=>rfl
  |cons c r=>rw[ho]at g;have hc:c+y.length<=x.length:=g.2.1.1;lia
 rw[az h1];by_cases h2:(occurrences x y 0 x.length (x.length+1)).isEmpty=true
 ·simp_all
 rw[az h2,partsBetween_eq];exact key
def WQ(h:y.cps.all (·<256)=true):¬Builtin.Str.strKind x<Builtin.Str.strKind y:=by
 have e:Builtin.Str.strKind y=1:=by unfold PySem.Builtin.Str.strKind;rw[aD h]
 rw[e];unfold PySem.Builtin.Str.strKind;split
 ·decide
 split<;>decide
def uq(S:List Nat):List (List Nat)->List Nat
 |[]=>[]
 |[p]=>p
 |p::q::r=>p++(S++uq S (q::r))
theorem KD(y:Str):∀parts:List Str,tl (Str.join y parts)=uq (tl y) (parts.map tl)
 |[]=>rfl
 |[_]=>rfl
 |x::z::r=>by show tl (x++y++Str.join y (z::r))=tl x++(tl y++uq (tl y) ((z::r).map tl));rw[Ks,Ks,KD y (z::r),tN]
def join_eq(y:Str)(parts:List Str):Txt.join y parts=Str.join y parts:=glued_eq_join y parts
end TL
namespace L2
open PySem PySem.Spec PyProof.Rows
theorem KG:∀l:List (Str×Tok),aY ((l.map (·.1)).map V.str) (strValues l)
 |[]=>.nil
 |p::r=>.cons ⟨p.2,rfl⟩ (KG r)
theorem Ds:∀{ys:List Str} {us:List ao},aY (ys.map V.str) us->StrsAre us ys
 |[],_,.nil=>.nil
 |y::ys,_,.cons r t=>by obtain⟨k,rfl⟩:=r;exact .cons y k (Ds t)
def Dt(ys:List Str):Hp->VK->Prop:=λH Q=>∀p,H p=none->Q (.ref p) (upd H p (.lst (ys.map V.str)))
def Du(I:Inv X pins σ H s)(e:l.map (·.1)=ys)(hz:ys.length<=sizeLine)(h:Dt ys H Q):
  EP X pins σ Q (.ref s.heap.objs.size) {s with toks:=k,heap:=s.heap.push {cls:=.type "list",data:=.seq (strValues l).toArray}}:=by
 have hp:=I.aK.fresh (aW _);refine⟨.ref s.heap.objs.size,upd H s.heap.objs.size (.lst (ys.map V.str)),I.laid (λb u q=>bI _ q) (aW _) ⟨by simp[*],strValues l,_,?_,cv _ rfl⟩,rfl,h _ hp⟩;rw[<-e];exact KG l
def WR:uc X "str.split" (λx xs H Q=>∃a b,x= .str a/\xs=[.str b]/\(b.length==0)=false/\a.length+2<=sizeLine/\Dt (Txt.split a b) H Q):=by
 intro pins s σ H x xs v us Q I rx rs h;obtain⟨a,b,rfl,rfl,hb,hz,h⟩:=h;obtain⟨t,rfl⟩:=rx;cases rs with
 |cons r1 rs=>
  cases rs;obtain⟨u,rfl⟩:=r1;have hl:(Txt.split a b).length<=sizeLine:=cF (PyProof.Rows.split_le a b) hz;have hn:(Builtin.Str.partsBetween a (Builtin.Str.occurrences a b 0 a.length (a.length+1)) b.length).length<=sizeLine:=by have e1:=StrLaws.occ_length_le a b 0 a.length (a.length+1);rw[length_partsBetween];exact tO ‹_› ‹_›
  cases h1:(decide (a.length<b.length)||decide (Builtin.Str.strKind a<Builtin.Str.strKind b))
  ·cases hf:(Builtin.Str.occurrences a b 0 a.length (a.length+1)).isEmpty
   ·refine vz F.slot_str_split (vt _ _ _) F.entry_str_split (F.args_str_split_2 _ _) (meets_str_split_sep a b t u h1 hb hf (by lia) hn) ?_;show EP X pins σ Q (.ref s.heap.objs.size) {s with toks:=_,heap:=s.heap.push {cls:=.type "list",data:=.seq (strsFrom s.toks (Builtin.Str.partsBetween a (Builtin.Str.occurrences a b 0 a.length (a.length+1)) b.length)).toArray}};rw[strsFrom_eq];exact Du (ys:=Txt.split a b) I ((numbered_texts _ _).trans ((az (ne_true_of_eq_false h1)).trans (az (ne_true_of_eq_false hf))).symm) hl h
   refine vz F.slot_str_split (vt _ _ _) F.entry_str_split (F.args_str_split_2 _ _) (meets_str_split_not_found a b t u h1 hb hf) ?_;exact Du (l:=[(a,t)]) (ys:=Txt.split a b) (k:=s.toks) I ((az (ne_true_of_eq_false h1)).trans (aD hf)).symm hl h
  refine vz F.slot_str_split (vt _ _ _) F.entry_str_split (F.args_str_split_2 _ _) (meets_str_split_cannot_occur a b t u h1) ?_;exact Du (l:=[(a,t)]) (ys:=Txt.split a b) (k:=s.toks) I (aD h1).symm hl h
def WS:uc X "str.join" (λx xs H Q=>∃a p,∃ys:List Str,x= .str a/\xs=[.ref p]/\(aB X.K H p (ys.map V.str)\/aX X.K H p (ys.map V.str))/\
  (ys.map (·.length)).sum+ys.length*a.length<=16777216/\Q (.str (Txt.join a ys)) H):=by
 intro pins s σ H x xs v us Q I rx rs h;obtain⟨a,p,ys,rfl,rfl,hp,hz,h⟩:=h;obtain⟨t,rfl⟩:=rx;cases rs with
 |cons r1 rs=>
  cases rs;cases r1;rcases hp with hp|hp
  ·obtain⟨its,r,⟨o,n,ho,hc,_,hd⟩,_⟩:=I.list hp;exact PyProof.Rows.join_list (items:=its.toArray) ⟨o,ho,hc,n,hd⟩ (by rw[List.toList_toArray];exact Ds r) hz λt' k=>⟨.str _,H,I.tok k,⟨t',rfl⟩,h⟩
  obtain⟨its,r,ht,_⟩:=I.tuple hp;exact PyProof.Rows.join_tuple (items:=its.toArray) ht (by rw[List.toList_toArray];exact Ds r) hz λt' k=>⟨.str _,H,I.tok k,⟨t',rfl⟩,h⟩
def WT:i5 X (.type "int") (λxs H Q=>∃a n,xs=[.str a]/\PySem.intText? a=some n/\a.length<=640/\Q (.int n) H):=by
 intro pins s σ H xs us Q I rs h;obtain⟨a,n,rfl,hn,hl,h⟩:=h;cases rs with
 |cons r1 rs=>cases rs;obtain⟨t,rfl⟩:=r1;exact PySem.W.KIN.call_text hn hl ⟨.int n,H,I.tok _,⟨_,rfl⟩,h⟩
def Dv(r:V->List V->Hp->VK->Prop)(to te:TE):TE:=λσ H Q=>to σ H λx H1=>(∃a,x= .str a)/\te σ H1 λy H2=>r x [y] H2 Q
def KH{id:String}{name:Str}{apos pos:Pos}{r:V->List V->Hp->VK->Prop}(slot:Slot "str" name id)(ty:typeOf (.builtin id)=pure (.type "method_descriptor"))(rule:uc X id r)(ho:PE X o to)(he:PE X e te)
  (hs:starEach [e] X.env=[(false,eval e X.env)]:=by rfl)(ls:attributeBase o name X.env (eval o X.env)=eval o X.env:=by rfl)(lx:(apos.endLine==pos.line)=true:=by rfl):
  PE X (.Call (.Attribute o name apos) [e] [] pos) (Dv r to te):=by
 intro pins s σ H Q I h;refine PySem.Call_method1 ls hs lx (aM (ho pins s σ H _ I h) λv s1 ⟨x,H1,I1,r1,q1⟩=>?_);obtain⟨⟨a,rfl⟩,q1⟩:=q1;obtain⟨t,rfl⟩:=_root_.id r1;refine⟨"str",_,F.plainAttrs_str,slot,ty,vt _ _ _,(λ_ e=>nomatch e),tL rfl (vy (kT ?_))⟩;exact aM (he pins s1 σ H1 _ I1 q1) λu s2 ⟨y,H2,I2,r2,q2⟩=>oJ (rule pins s2 σ H2 _ [y] _ [u] Q I2 r1 (.cons r2 .nil) q2)
def KI(ho:PE X o to)(he:PE X e te)(hs:starEach [e] X.env=[(false,eval e X.env)]:=by rfl)(ls:attributeBase o "split" X.env (eval o X.env)=eval o X.env:=by rfl)(lx:(apos.endLine==pos.line)=true:=by rfl):
  PE X (.Call (.Attribute o "split" apos) [e] [] pos) (Dv (λx xs H Q=>∃a b,x= .str a/\xs=[.str b]/\(b.length==0)=false/\a.length+2<=sizeLine/\Dt (Txt.split a b) H Q) to te):=
 KH F.slot_str_split F.type_str_split WR ho he hs ls lx
def WU(ho:PE X o to)(he:PE X e te)(hs:starEach [e] X.env=[(false,eval e X.env)]:=by rfl)(ls:attributeBase o "join" X.env (eval o X.env)=eval o X.env:=by rfl)(lx:(apos.endLine==pos.line)=true:=by rfl):
  PE X (.Call (.Attribute o "join" apos) [e] [] pos) (Dv (λx xs H Q=>∃a p,∃ys:List Str,x= .str a/\xs=[.ref p]/\(aB X.K H p (ys.map V.str)\/aX X.K H p (ys.map V.str))/\
   (ys.map (·.length)).sum+ys.length*a.length<=16777216/\Q (.str (Txt.join a ys)) H) to te):=
 KH F.slot_str_join F.type_str_join WS ho he hs ls lx
def uu:dN X (compareOp .LtE) (λx y H Q=>∃i j,x= .str i/\y= .str j/\Q (.bl (!decide (j.cps.toList<i.cps.toList))) H):=by intro pins s σ H x y v u Q I rx ry h;obtain⟨i,j,rfl,rfl,q⟩:=h;obtain⟨t,rfl⟩:=rx;obtain⟨t',rfl⟩:=ry;exact PySem.P.le_str (dD I q rfl)
def IsPart.raw(p:IsPart v o):∃l:Option (Int×Tok),v=partValue l/\l.map (·.1)=o:=by
 cases p with
 |none=>exact⟨none,rfl,rfl⟩
 |int i t=>exact⟨some (i,t),rfl,rfl⟩
def wI(n d:Nat):Option Int->Int
 |none=>(d:Int)
 |some i=>max 0 (min (if i<0 then i+(n:Int)else i) (n:Int))
def KJ(n d:Nat)(o:Option Int):wI n d o=((HT.ba n d o:Nat):Int):=by
 cases o with
 |none=>rfl
 |some v=>
  show max (0:Int) (min (if v<0 then v+(n:Int)else v) (n:Int))=(((if v<0 then(v+(n:Int)).toNat else min v.toNat n):Nat):Int);by_cases hv:v<0
  ·simp only[aD hv];grind
  simp only[az hv];grind
def WV(a b:Option Int)(n:Nat):Builtin.Str.strSliceIndices a b 1 n=sliceRange (wI n 0 a) (wI n n b) 1:=by
 have h1:((1:Int)>0)=True:=by simp
 cases a<;>cases b<;>first
  |rfl
  |(simp only[Builtin.Str.strSliceIndices,wI,h1,gE];rfl)
  |simp[Builtin.Str.strSliceIndices,wI]
def WW(a b:Option Int)(n:Nat):Builtin.Str.strSliceIndices a b 1 n=(List.range (HT.ba n n b - HT.ba n 0 a)).map (λk=>HT.ba n 0 a+k):=by
 rw[WV,KJ,KJ];generalize HT.ba n 0 a=p;generalize HT.ba n n b=q;simp only[sliceRange,show((1:Int)>0)=True from by simp,gE];by_cases bq:(p:Int)<q
 ·have e3:(((q:Int) - p+1 - 1) /1).toNat=q - p:=by first|simp[*]|(simp;done)|(simp;omega)
  simp only[bq,gE,e3];refine m9 λk _=>?_;lia
 have:q - p=0:=by simp_all
 simp[bq,this]
def wJ(z:Str)(lo hi:Option Int):Str:=
 ⟨((z.cps.toList.drop (HT.ba z.length 0 lo)).take (HT.ba z.length z.length hi - HT.ba z.length 0 lo)).toArray⟩
def KL(z:Str)(lo hi:Option Int):PySem.StrLaws.sliceText z lo hi=wJ z lo hi:=by
 have h1:HT.ba z.length 0 lo<=z.length:=HT.CL _ _ (bL _) _;have h2:HT.ba z.length z.length hi<=z.length:=HT.CL _ _ (aW _) _;have hp:HT.ba z.length 0 lo<=max (HT.ba z.length 0 lo) (HT.ba z.length z.length hi):=Nat.le_max_left _ _;have hq:max (HT.ba z.length 0 lo) (HT.ba z.length z.length hi)<=z.length:=Nat.max_le.mpr ⟨h1,h2⟩;have hd:max (HT.ba z.length 0 lo) (HT.ba z.length z.length hi) - HT.ba z.length 0 lo=HT.ba z.length z.length hi - HT.ba z.length 0 lo:=by grind
 have e:Builtin.Str.strSliceIndices lo hi 1 z.length=
   Builtin.Str.strSliceIndices (some ((HT.ba z.length 0 lo:Nat):Int)) (some ((max (HT.ba z.length 0 lo) (HT.ba z.length z.length hi):Nat):Int)) 1 z.length:=by
  rw[PySem.StrLaws.strSliceIndices_plain hp hq,hd,WW]
 have e2:PySem.StrLaws.sliceText z lo hi=
   PySem.StrLaws.sliceText z (some ((HT.ba z.length 0 lo:Nat):Int)) (some ((max (HT.ba z.length 0 lo) (HT.ba z.length z.length hi):Nat):Int)):=by
  unfold PySem.StrLaws.sliceText;rw[e]
 rw[e2,PySem.StrLaws.sliceText_nat z hp hq,hd];rfl
def WX(z:Str)(lo hi:Option Int):(wJ z lo hi).length<=z.length:=by show(((z.cps.toList.drop (HT.ba z.length 0 lo)).take (HT.ba z.length z.length hi - HT.ba z.length 0 lo)).toArray).size<=z.cps.size;rw[iJ,dQ,qt,qu];lia
inductive KN(x:V)(lo:Option Int)(hi:Option Int)(H:Hp)(Q:VK):Prop
 |mk:∀z,x= .str z->z.length<=sizeLine->Q (.str (wJ z lo hi)) H->KN x lo hi H Q
def WY:V->Option Int->Option Int->Hp->VK->Prop:=λx lo hi H Q=>KN x lo hi H Q
def KO:zK X WY:=by
 intro pins s σ H x v vl vu lo hi sl Q I rx hs pl pu h;obtain⟨z,rfl,hz,q⟩:=h;obtain⟨t,rfl⟩:=rx;obtain⟨os,qZ,gH,ub⟩:=hs;obtain⟨l,rfl,rfl⟩:=IsPart.raw pl;obtain⟨u,rfl,rfl⟩:=IsPart.raw pu;refine⟨"str",_,F.slot_str_getitem.lookup,vt _ _ _,?_⟩;refine wpAny_getItem_str_slice (l:=l) (u:=u) (st:=none) ⟨os,qZ,gH,ub⟩ rfl ?_;have hl:(PySem.StrLaws.sliceText z (l.map (·.1)) (u.map (·.1))).length<=sizeLine:=by rw[KL];exact cF (WX z _ _) hz
 rw[<-KL]at q;unfold PySem.StrLaws.sliceText at q hl;show Made.post (if((1:Int)==1&&(Builtin.Str.strSliceIndices (l.map (·.1)) (u.map (·.1)) 1 z.length).length==z.length)=true then Made.val (.str z t)
  else Made.str ⟨((Builtin.Str.strSliceIndices (l.map (·.1)) (u.map (·.1)) 1 z.length).filterMap (z.cps[·]?)).toArray⟩) (EP X pins σ Q) s
 by_cases c:((1:Int)==1&&(Builtin.Str.strSliceIndices (l.map (·.1)) (u.map (·.1)) 1 z.length).length==z.length)=true
 ·rw[aD c]at q⊢;exact⟨.str z,H,I,⟨t,rfl⟩,q⟩
 rw[az c]at q hl⊢;exact⟨hl,.str _,H,I.tok _,⟨_,rfl⟩,q⟩
open PySem PySem.Spec PyProof.Rows
def inClass(s:Stmt)(j:Nat):Stmt:=match s with
 | .ClassDef _ _ _ body _ _ _ _ _ _ _=>body.getD j (.Pass ⟨0,0,0,0⟩)
 |_=>.Pass ⟨0,0,0,0⟩
def rJ(s:Stmt):Arguments:=match s with
 | .FunctionDef _ a _ _ _ _ _ _ _ _=>a
 |_=>{posonlyargs:=[],args:=[],vararg:=none,kwonlyargs:=[],kw_defaults:=[],kwarg:=none,defaults:=[]}
def mD(s:Stmt):List Stmt:=match s with
 | .FunctionDef _ _ b _ _ _ _ _ _ _=>b
 |_=>[]
def hW(s:Stmt):Scope:=match s with
 | .FunctionDef _ _ _ _ _ _ sc _ _ _=>sc
 |_=>{kind:=.function,names:=[],isGenerator:=false,isCoroutine:=false}
abbrev lE:mn:=λ_ _ _ _ _ _=>False
abbrev E0:XK:=λ_ _ _=>False
def wK:oY lE X E0:=λ_ _ _ _ _ _ _ h=>h.elim
structure pb(K:aa)(x qual:Str)(st:Stmt)(f:Addr)(fd:FuncData):Prop where
 ex:∃(oc:ao) (od:Option Addr) (kV doc pm:ao) (an:Option Addr) (aU ct:ao) (jw:Array (Option ao)),
  fd=PySem.W.fnOf x qual (rJ st) (mD st) (hW st) .none kV doc pm an aU ct/\K.lookup f=some ⟨oc,od,.func fd,jw⟩/\PySem.W.codeIn K aU qual=true
 kp:PySem.W.keepIn K (.ref f)=true
section
variable{P:af}{w:ah}{K:aa}{mg:Str->Option ao}{base:Heap}
def pb.ok{x qual:Str}{st:Stmt}{f:Addr}{fd:FuncData}{N ps:List Str}{k:Nat}{sp:Sp}(F:pb K x qual st f fd)(S:qW N ps (hW st))(len:∀vs H Q E,sp vs H Q E->vs.length=ps.length)
  (qX:∀(aU:ao) (A:ai) (outer:List Env) (s:ae) (H:Hp) (vs:List V) (Q:VK) (E:XK),du k (A.deeper (envOfC qual (hW st) s.heap.objs.size f aU))->sp vs H Q E->
   ∃t,iL (bc lE P w K mg base N qual (hW st) f aU A outer s H E).bf (mD st) t/\t {nx:=λ_ H'=>Q .aQ H',rt:=Q} (start N vs) H):hJ P w K mg base lE (k+1) f fd ps sp:=by
 obtain⟨oc,od,kV,doc,pm,an,aU,ct,jw,rfl,lk,mi⟩:=F.ex;refine UU lk mi S len λA outer s H vs Q E hr mo=>?_
 obtain⟨t,h,q⟩:=qX aU A outer s H vs Q E hr mo;exact⟨t,h.bf,q⟩
theorem pb.binds{x qual:Str}{st:Stmt}{f:Addr}{fd:FuncData}{ps:List Str}(F:pb K x qual st f fd)
  (h:∀(kV doc pm:ao) (an:Option Addr) (aU ct:ao) (us:List ao),us.length=ps.length->bindArgs (PySem.W.fnOf x qual (rJ st) (mD st) (hW st) .none kV doc pm an aU ct) ⟨us,[]⟩=pure (ps.zip us)):Binds K fd ps []:=by
 obtain⟨oc,od,kV,doc,pm,an,aU,ct,jw,rfl,lk,mi⟩:=F.ex;exact .all (h kV doc pm an aU ct)
def KP{x qual:Str}{st:Stmt}{f:Addr}{oc:ao}{od an:Option Addr}{jw:Array (Option ao)}{kV doc pm aU ct:ao}(l:K.lookup f=some ⟨oc,od,.func (PySem.W.fnOf x qual (rJ st) (mD st) (hW st) .none kV doc pm an aU ct),jw⟩)
  (c:PySem.W.codeIn K aU qual=true)(k:PySem.W.keepIn K (.ref f)=true):pb K x qual st f (PySem.W.fnOf x qual (rJ st) (mD st) (hW st) .none kV doc pm an aU ct):=⟨⟨oc,od,kV,doc,pm,an,aU,ct,jw,rfl,l,c⟩,k⟩
end
def gy(hr:du k A):A.units+1<cLine:=tO (Nat.add_le_add_left (by decide:1<=64) _) hr.units
def pv(i:Nat)(hN:X.N[i]?=some x:=by rfl)(hv:tT X.env.scope x:=by first|exact Or.inl rfl|exact Or.inr (Or.inl rfl)|exact Or.inr (Or.inr rfl))(hd:(x==("__debug__":Str))=false:=by decide)
  (mi:(x==("__classdict__":Str))=false:=by decide):PE X (.Name x pos) (HL i):=Tv hN hv hd mi
def bg{A B:Prop}(h:B):if false=true then A else B:=by assumption
def bA{A B:Prop}(h:A):if true=true then A else B:=by assumption
def eC{c A B:Prop}[Decidable c](h1:c->A)(h2:¬c->B):if c then A else B:=by simp_all
def ax(H H':Hp):Prop:=∀b o,H b=some o->H' b=some o
def ax.refl(H:Hp):ax H H:=λ_ _ h=>h
def ax.trans(a:ax H H1)(b:ax H1 H2):ax H H2:=λc o h=>b c o (a c o h)
def ax.free{H H':Hp}(e:ax H H'){l:Addr}(h:H' l=Option.none):H l=Option.none:=by
 cases q:H l with
 |none=>rfl
 |some o=>rw[e l o q]at h;assumption
def ax.seq{K:aa}{H H':Hp}{a:Addr}{xs:List V}(e:ax H H')(h:aB K H a xs):aB K H' a xs:=by
 rcases h with(h|⟨o,h⟩)|h
 ·exact .inl (.inl (e _ _ h))
 ·exact .inl (.inr ⟨o,e _ _ h⟩)
 exact .inr h
open PySem.W (WData Codec OpenSpec Well WellAll ReadsW ReadsAllW)
mutual
inductive Dw(K:aa)(H:Hp):V->WData->Prop
 |aQ:Dw K H .aQ .none
 |bl (b:Bool):Dw K H (.bl b) (.bool b)
 |int (i:Int):Dw K H (.int i) (.int i)
 |str (x:Str):Dw K H (.str x) (.str x)
 |gF (b:Array UInt8):Dw K H (.gF b) (.bytes b.toList)
 |lst {a:Addr} {xs:List V} {ds:List WData}:aB K H a xs->kl K H xs ds->Dw K H (.ref a) (.list ds)
 |tup {a:Addr} {xs:List V} {ds:List WData}:aX K H a xs->kl K H xs ds->Dw K H (.ref a) (.tuple ds)
inductive kl(K:aa)(H:Hp):List V->List WData->Prop
 |nil:kl K H [] []
 |cons {v:V} {vs:List V} {d:WData} {ds:List WData}:Dw K H v d->kl K H vs ds->kl K H (v::vs) (d::ds)
end
theorem KQ{K:aa}{H:Hp}:∀ns:List Int,kl K H (ns.map V.int) (ns.map WData.int)
 |[]=>.nil
 |n::r=>.cons (.int n) (KQ r)
theorem KR{K:aa}{H:Hp}:∀(ns:List Int) (xs:List V),kl K H xs (ns.map WData.int)->xs=ns.map V.int
 |[],xs,h=>by cases h;rfl
 |n::r,xs,h=>by
  cases h with
  |cons h1 h2=>cases h1;rw[KR r _ h2]<;>rfl
section
variable{P:af}{w:ah}{K:aa}{H:Hp}{h:Heap}{R:PySem.W.WRecords}{cl:Str->Option Addr}
theorem WZ(aK:cQ P w H h)(KX:K.In h)(q:aB K H a xs):∃(its:List ao) (o:Obj) (n:Nat),aY xs its/\h.get? a=some o/\o.cls= .type "list"/\o.data= .seq its.toArray n:=by
 rcases q with q|⟨o,its,n,e,hc,_,hd,_,hv⟩
 ·obtain⟨_,its,n,hv,e⟩:=(show cP P w H h a (.lst xs) from q.ok aK);exact⟨its,_,n,hv,e,rfl,rfl⟩
 exact⟨its.toList,o,n,hv,KX _ _ e,hc,by assumption⟩
theorem W0(aK:cQ P w H h)(KX:K.In h)(q:aX K H a xs):∃(its:List ao) (o:Obj) (n:Nat),aY xs its/\h.get? a=some o/\o.cls= .type "tuple"/\o.data= .seq its.toArray n:=by
 rcases q with q|⟨o,its,n,e,hc,hd,_,hv⟩
 ·obtain⟨_,its,hv,o,e,hc,n,hd⟩:=(show cP P w H h a (.tup xs) from q.ok aK);exact⟨its,o,n,hv,e,hc,hd⟩
 exact⟨its.toList,o,n,hv,KX _ _ e,hc,by assumption⟩
mutual
theorem Dw.reads(aK:cQ P w H h)(KX:K.In h):∀(d:WData) (v:V) (u:ao),Dw K H v d->RelV v u->∃as,ReadsW R cl h u d as
 | .none,_,_,x,r=>by cases x;cases r;exact⟨_,ReadsW.none⟩
 | .bool b,_,_,x,r=>by cases x;cases r;exact⟨_,ReadsW.bool b⟩
 | .int i,_,_,x,r=>by cases x;obtain⟨t,rfl⟩:=r;exact⟨_,ReadsW.int i t⟩
 | .str s,_,_,x,r=>by cases x;obtain⟨t,rfl⟩:=r;exact⟨_,ReadsW.str s t⟩
 | .bytes b,_,_,x,r=>by cases x;obtain⟨t,rfl⟩:=r;exact⟨_,ReadsW.bytes _ t⟩
 | .list ds,_,_,x,r=>by
  cases x with
  |lst hs ha=>cases r;obtain⟨its,o,n,rv,ho,hc,hd⟩:=WZ aK KX hs;obtain⟨as,hr⟩:=Dw.readsAll aK KX ds _ its ha rv;exact⟨_,ReadsW.list ho hc hd hr⟩
 | .tuple ds,_,_,x,r=>by
  cases x with
  |tup hs ha=>cases r;obtain⟨its,o,n,rv,ho,hc,hd⟩:=W0 aK KX hs;obtain⟨as,hr⟩:=Dw.readsAll aK KX ds _ its ha rv;exact⟨_,ReadsW.tuple ho hc hd hr⟩
 | .float _,_,_,x,_=>by cases x
 | .dict _,_,_,x,_=>by cases x
 | .bytearray _,_,_,x,_=>by cases x
 | .set _,_,_,x,_=>by cases x
 | .frozenset _,_,_,x,_=>by cases x
 | .obj _ _,_,_,x,_=>by cases x
theorem Dw.readsAll(aK:cQ P w H h)(KX:K.In h):∀(ds:List WData) (vs:List V) (us:List ao),kl K H vs ds->aY vs us->∃as,ReadsAllW R cl h us ds as
 |[],_,_,x,r=>by cases x;cases r;exact⟨_,ReadsAllW.nil⟩
 |d::ds,_,_,x,r=>by
  cases x with
  |cons h1 h2=>
   cases r with
   |cons r1 r2=>obtain⟨as,q1⟩:=Dw.reads aK KX d _ _ h1 r1;obtain⟨bs,q2⟩:=Dw.readsAll aK KX ds _ _ h2 r2;exact⟨_,ReadsAllW.cons q1 q2⟩
end
end
mutual
def i9:WData->Bool
 | .none=>true
 | .bool _=>true
 | .int _=>true
 | .str _=>true
 | .bytes _=>true
 | .list xs=>ko xs
 | .tuple xs=>ko xs
 |_=>false
def ko:List WData->Bool
 |[]=>true
 |x::r=>i9 x&&ko r
end
theorem KS{α:Type}{f:α->WData}(h:∀a,i9 (f a)=true):∀l:List α,ko (l.map f)=true
 |[]=>rfl
 |x::r=>by show(i9 (f x)&&ko (r.map f))=true;rw[h x,KS h r]<;>rfl
theorem pd:∀(c:Codec) (a:c.denote),i9 (c.enc a)=true
 | .unit,_=>rfl
 | .bool,_=>rfl
 | .int _ _,_=>rfl
 | .nat _ _,_=>rfl
 | .u8,_=>rfl
 | .bytes _ _,_=>rfl
 | .text _ _ _ _,_=>rfl
 | .list _ _ c,a=>KS (λx=>pd c x) a
 | .pair c d,a=>by show(i9 (c.enc a.1)&&(i9 (d.enc a.2)&&true))=true;rw[pd c a.1,pd d a.2]<;>rfl
 | .triple c d e,a=>by show(i9 (c.enc a.1)&&(i9 (d.enc a.2.1)&&(i9 (e.enc a.2.2)&&true)))=true;rw[pd c a.1,pd d a.2.1,pd e a.2.2]<;>rfl
 | .option c,none=>rfl
 | .option c,some x=>pd c x
theorem KU:∀(cs:List Codec) (a:Codec.denoteAll cs),ko (Codec.encAll cs a)=true
 |[],_=>rfl
 |c::cs,a=>by show(i9 (c.enc a.1)&&ko (Codec.encAll cs a.2))=true;rw[pd c a.1,KU cs a.2]<;>rfl
theorem Dx:∀{xs:List WData} {d:WData},d∈xs->d.weight<=WData.weightAll xs
 |[],d,h=>absurd h (by simp)
 |x::r,d,h=>by
  show d.weight<=x.weight+1+WData.weightAll r;rcases be.mp h with e|m
  ·rw[e];lia
  have z:=Dx m;lia
def toV:ao->V
 | .none=>.aQ
 | .bool b=>.bl b
 | .int i _=>.int i
 | .str x _=>.str x
 | .bytes b _=>.gF b
 | .ref a=>.ref a
 |_=>.aQ
def jF(A:List Addr):ao->Prop
 | .none=>True
 | .bool _=>True
 | .int _ _=>True
 | .str _ _=>True
 | .bytes _ _=>True
 | .ref a=>a∈A
 |_=>False
theorem jF.mono(h:∀a∈A,a∈B):∀{u:ao},jF A u->jF B u:=λ{u} x=>by
 cases u with
 |ref a=>exact h a x
 |none=>trivial
 |bool b=>trivial
 |int i t=>trivial
 |str s t=>trivial
 |bytes b t=>trivial
 |_=>exact False.elim x
def W1(x:jF A u):RelV (toV u) u:=by
 cases u with
 |ref a=>rfl
 |none=>rfl
 |bool b=>rfl
 |int i t=>exact⟨t,rfl⟩
 |str s t=>exact⟨t,rfl⟩
 |bytes b t=>exact⟨t,rfl⟩
 |_=>exact False.elim x
theorem uv:∀{vs:List ao},(∀u∈vs,jF A u)->aY (vs.map toV) vs
 |[],_=>.nil
 |u::r,h=>.cons (W1 (h u (cT ..))) (uv λx hx=>h x (bU _ hx))
def ku(h:Heap)(A:List Addr)(a:Addr):Prop:=∃vs:List ao,vs.length<=sizeLine/\(∀u∈vs,jF A u)/\
 (h.get? a=some {cls:=.type "list",data:=.seq vs.toArray}\/h.get? a=some {cls:=.type "tuple",data:=.seq vs.toArray})
theorem ku.mono(k:∀a∈A,a∈B)(x:ku h A a):ku h B a:=by obtain⟨vs,h1,h2,h3⟩:=x;exact⟨vs,h1,λu hu=>(h2 u hu).mono k,h3⟩
theorem z4:∀{vs:List ao} {ds:List WData},WellAll P h vs ds->vs.length=ds.length
 |_,_,.nil=>rfl
 |_,_,.cons _ b=>by show _+1=_+1;rw[z4 b]
def KW(x:Well P h v (.list ds)):∃(a:Addr) (vs:List ao),v= .ref a/\h.get? a=some {cls:=.type "list",data:=.seq vs.toArray}/\WellAll P h vs ds:=by
 cases x with
 |list ho cx=>exact⟨_,_,rfl,ho,cx⟩
def KY(x:Well P h v (.tuple ds)):∃(a:Addr) (vs:List ao),v= .ref a/\h.get? a=some {cls:=.type "tuple",data:=.seq vs.toArray}/\WellAll P h vs ds:=by
 cases x with
 |tuple ho cx=>exact⟨_,_,rfl,ho,cx⟩
def KZ(x:WellAll P h us (d::ds)):∃(v:ao) (vs:List ao),us=v::vs/\Well P h v d/\WellAll P h vs ds:=by
 cases x with
 |cons a b=>exact⟨_,_,rfl,a,b⟩
def K0(h:n<=1048576):n<=sizeLine:=cF h (by decide)
mutual
theorem W2:∀(d:WData) (v:ao),Well P h v d->i9 d=true->d.weight<=1048576->∃A:List Addr,jF A v/\∀a∈A,ku h A a
 | .none,_,x,_,_=>by cases x;exact⟨[],trivial,λa m=>absurd m (by simp)⟩
 | .bool b,_,x,_,_=>by cases x;exact⟨[],trivial,λa m=>absurd m (by simp)⟩
 | .int i,_,x,_,_=>by cases x;exact⟨[],trivial,λa m=>absurd m (by simp)⟩
 | .str s,_,x,_,_=>by cases x;exact⟨[],trivial,λa m=>absurd m (by simp)⟩
 | .bytes b,_,x,_,_=>by cases x;exact⟨[],trivial,λa m=>absurd m (by simp)⟩
 | .list ds,_,x,p,z=>by
  obtain⟨a,vs,rfl,ho,cx⟩:=KW x;have z2:WData.weightAll ds<=1048576:=z;obtain⟨A,h1,h2⟩:=z9 ds _ cx p λd hd=>cF (Dx hd) z2
  have k:∀b∈A,b∈a::A:=λb hb=>bU _ hb;refine⟨a::A,cT ..,λb hb=>?_⟩;rcases be.mp hb with e|m
  ·rw[e];exact⟨vs,K0 (by rw[z4 cx];exact cF (PySem.W.length_le_weightAllW ds) z2),λu hu=>(h1 u hu).mono k,.inl ho⟩
  exact(h2 b m).mono k
 | .tuple ds,_,x,p,z=>by
  obtain⟨a,vs,rfl,ho,cx⟩:=KY x;have z2:WData.weightAll ds<=1048576:=z;obtain⟨A,h1,h2⟩:=z9 ds _ cx p λd hd=>cF (Dx hd) z2
  have k:∀b∈A,b∈a::A:=λb hb=>bU _ hb;refine⟨a::A,cT ..,λb hb=>?_⟩;rcases be.mp hb with e|m
  ·rw[e];exact⟨vs,K0 (by rw[z4 cx];exact cF (PySem.W.length_le_weightAllW ds) z2),λu hu=>(h1 u hu).mono k,.inr ho⟩
  exact(h2 b m).mono k
 | .float _,_,_,p,_=>Bool.noConfusion (show false=true from p)
 | .dict _,_,_,p,_=>Bool.noConfusion (show false=true from p)
 | .bytearray _,_,_,p,_=>Bool.noConfusion (show false=true from p)
 | .set _,_,_,p,_=>Bool.noConfusion (show false=true from p)
 | .frozenset _,_,_,p,_=>Bool.noConfusion (show false=true from p)
 | .obj _ _,_,_,p,_=>Bool.noConfusion (show false=true from p)
theorem z9:∀(ds:List WData) (vs:List ao),WellAll P h vs ds->ko ds=true->(∀d∈ds,d.weight<=1048576)->∃A:List Addr,(∀u∈vs,jF A u)/\∀a∈A,ku h A a
 |[],_,x,_,_=>by cases x;exact⟨[],λu m=>absurd m (by simp),λa m=>absurd m (by simp)⟩
 |d::ds,_,x,p,z=>by
  obtain⟨v,vs,rfl,x1,x2⟩:=KZ x;have q:i9 d=true/\ko ds=true:=Bool.and_eq_true_iff.mp p;obtain⟨A,a1,a2⟩:=W2 d v x1 q.1 (z d (cT ..));obtain⟨B,b1,b2⟩:=z9 ds vs x2 q.2 λe he=>z e (bU _ he)
  have kA:∀b∈A,b∈A++B:=λb hb=>gO.mpr (.inl hb);have kB:∀b∈B,b∈A++B:=λb hb=>gO.mpr (.inr hb);refine⟨A++B,λu hu=>?_,λb hb=>?_⟩
  ·rcases be.mp hu with e|m
   ·rw[e];exact a1.mono kA
   exact(b1 u m).mono kB
  rcases gO.mp hb with m|m
  ·exact(a2 b m).mono kA
  exact(b2 b m).mono kB
end
def z_(o:Obj):Option HO:=match o.data with
 | .seq vs _=>if(o.cls==Value.type "list")=true then some (.cB o (.lst (vs.toList.map toV)))else some (.cB o (.tup (vs.toList.map toV)))
 |_=>none
def gJ(K:aa)(h:Heap)(A:List Addr):Hp:=λb=>if b∈A then(if(K.lookup b).isNone=true then(h.get? b).bind z_ else none)else none
def wL(H:Hp):Prop:=∀b,H b=none\/∃o u,H b=some (.cB o u)
def K1(vs:List ao):z_ {cls:=.type "list",data:=.seq vs.toArray}=some (.cB {cls:=.type "list",data:=.seq vs.toArray} (.lst (vs.map toV))):=by show(if(Value.type "list"==Value.type "list")=true then some (HO.cB {cls:=.type "list",data:=.seq vs.toArray} (.lst (vs.toArray.toList.map toV)))else some (HO.cB {cls:=.type "list",data:=.seq vs.toArray} (.tup (vs.toArray.toList.map toV))))=_;simp[*]
def K2(vs:List ao):z_ {cls:=.type "tuple",data:=.seq vs.toArray}=some (.cB {cls:=.type "tuple",data:=.seq vs.toArray} (.tup (vs.map toV))):=by show(if(Value.type "tuple"==Value.type "list")=true then some (HO.cB {cls:=.type "tuple",data:=.seq vs.toArray} (.lst (vs.toArray.toList.map toV)))else some (HO.cB {cls:=.type "tuple",data:=.seq vs.toArray} (.tup (vs.toArray.toList.map toV))))=_;rw[az (by decide)]
section
variable{P:af}{w:ah}{K:aa}{h:Heap}{A:List Addr}
theorem Aa(hb:b∈A)(hk:K.lookup b=none)(e:h.get? b=some o):gJ K h A b=z_ o:=by unfold gJ;simp[*]
theorem W4(q:gJ K h A b=some u):b∈A/\K.lookup b=none:=by
 unfold gJ at q;by_cases hb:b∈A
 ·rw[aD hb]at q
  cases hk:K.lookup b with
  |none=>exact⟨hb,rfl⟩
  |some o=>simp_all
 simp_all
theorem Ab(ar:∀a∈A,ku h A a)(q:gJ K h A b=some u):K.lookup b=none/\∃vs:List ao,vs.length<=sizeLine/\(∀u∈vs,jF A u)/\
  ((h.get? b=some {cls:=.type "list",data:=.seq vs.toArray}/\u= .cB {cls:=.type "list",data:=.seq vs.toArray} (.lst (vs.map toV)))\/
   (h.get? b=some {cls:=.type "tuple",data:=.seq vs.toArray}/\u= .cB {cls:=.type "tuple",data:=.seq vs.toArray} (.tup (vs.map toV)))):=by
 obtain⟨hb,hk⟩:=W4 q;obtain⟨vs,h1,h2,h3⟩:=ar b hb;refine⟨hk,vs,h1,h2,?_⟩;rcases h3 with e|e
 ·rw[Aa hb hk e,K1]at q;exact .inl ⟨e,(bC q).symm⟩
 rw[Aa hb hk e,K2]at q;exact .inr ⟨e,(bC q).symm⟩
theorem W5(ar:∀a∈A,ku h A a):wL (gJ K h A):=λb=>by
 cases q:gJ K h A b with
 |none=>exact .inl rfl
 |some u=>
  obtain⟨_,vs,_,_,⟨_,e⟩|⟨_,e⟩⟩:=Ab ar q
  ·exact .inr ⟨_,_,by rw[e]⟩
  exact .inr ⟨_,_,by rw[e]⟩
def W6(ar:∀a∈A,ku h A a):cQ P w (gJ K h A) h:=λb u q=>by
 obtain⟨_,vs,h1,h2,⟨e,rfl⟩|⟨e,rfl⟩⟩:=Ab ar q
 ·exact⟨e,by simp[*],vs,_,uv h2,e⟩
 exact⟨e,by simp[*],vs,uv h2,_,e,rfl,_,rfl⟩
theorem akq{c c':ao}{vs us:List ao}(e:(some {cls:=c,data:=.seq vs.toArray}:Option Obj)=some {cls:=c',data:=.seq us.toArray}):c=c'/\vs=us:=by lia
theorem W7(KX:K.In h)(ar:∀a∈A,ku h A a){a:Addr}{vs:List ao}(ha:a∈A)(e:h.get? a=some {cls:=.type "list",data:=.seq vs.toArray}):(∀u∈vs,jF A u)/\aB K (gJ K h A) a (vs.map toV):=by
 obtain⟨us,h1,h2,h3⟩:=ar a ha;have hu:us=vs:=by lia
 subst hu;refine⟨h2,?_⟩;cases hk:K.lookup a with
 |none=>exact .inl (.inr ⟨_,by rw[Aa ha hk e,K1]⟩)
 |some o=>have e2:=KX a o hk;rw[e]at e2;obtain rfl:=bC e2;exact .inr ⟨_,us.toArray,_,hk,rfl,rfl,rfl,by assumption,by simpa using uv h2⟩
theorem W8(KX:K.In h)(ar:∀a∈A,ku h A a){a:Addr}{vs:List ao}(ha:a∈A)(e:h.get? a=some {cls:=.type "tuple",data:=.seq vs.toArray}):(∀u∈vs,jF A u)/\aX K (gJ K h A) a (vs.map toV):=by
 obtain⟨us,h1,h2,h3⟩:=ar a ha;have hu:us=vs:=by lia
 subst hu;refine⟨h2,?_⟩;cases hk:K.lookup a with
 |none=>exact .inl (.inr ⟨_,by rw[Aa ha hk e,K2]⟩)
 |some o=>have e2:=KX a o hk;rw[e]at e2;obtain rfl:=bC e2;exact .inr ⟨_,us.toArray,_,hk,rfl,rfl,by assumption,by simpa using uv h2⟩
mutual
theorem W9{Pm:Params}(KX:K.In h)(ar:∀a∈A,ku h A a):∀(d:WData) (v:ao),Well Pm h v d->i9 d=true->jF A v->Dw K (gJ K h A) (toV v) d
 | .none,_,x,_,_=>by cases x;exact .aQ
 | .bool b,_,x,_,_=>by cases x;exact .bl b
 | .int i,_,x,_,_=>by cases x;exact .int i
 | .str s,_,x,_,_=>by cases x;exact .str s
 | .bytes b,_,x,_,_=>by cases x;have z:=Dw.gF (K:=K) (H:=gJ K h A) b.toArray;exact z
 | .list ds,_,x,p,hu=>by obtain⟨a,vs,rfl,ho,cx⟩:=KW x;obtain⟨h2,hs⟩:=W7 KX ar hu ho;exact .lst hs (Ac KX ar ds _ cx p h2)
 | .tuple ds,_,x,p,hu=>by obtain⟨a,vs,rfl,ho,cx⟩:=KY x;obtain⟨h2,hs⟩:=W8 KX ar hu ho;exact .tup hs (Ac KX ar ds _ cx p h2)
 | .float _,_,_,p,_=>Bool.noConfusion (show false=true from p)
 | .dict _,_,_,p,_=>Bool.noConfusion (show false=true from p)
 | .bytearray _,_,_,p,_=>Bool.noConfusion (show false=true from p)
 | .set _,_,_,p,_=>Bool.noConfusion (show false=true from p)
 | .frozenset _,_,_,p,_=>Bool.noConfusion (show false=true from p)
 | .obj _ _,_,_,p,_=>Bool.noConfusion (show false=true from p)
theorem Ac{Pm:Params}(KX:K.In h)(ar:∀a∈A,ku h A a):∀(ds:List WData) (vs:List ao),WellAll Pm h vs ds->ko ds=true->(∀u∈vs,jF A u)->kl K (gJ K h A) (vs.map toV) ds
 |[],_,x,_,_=>by cases x;exact .nil
 |d::ds,_,x,p,hu=>by obtain⟨v,vs,rfl,x1,x2⟩:=KZ x;have q:i9 d=true/\ko ds=true:=Bool.and_eq_true_iff.mp p;exact .cons (W9 KX ar d v x1 q.1 (hu _ (cT ..))) (Ac KX ar ds vs x2 q.2 λu m=>hu u (bU _ m))
end
end
def W_{P:af}{w:ah}{K:aa}{mg mb:Str->Option ao}{CX:mn}{k:Nat}{fa:Addr}{fd:FuncData}{ps:List Str}{sp:Sp}{s₁:ae}{vals:List ao}{ds:List WData}{R:PySem.W.WRecords}{cl:Str->Option Addr}{d0:WData}
  (KX:K.In s₁.heap)(K3:s₁.heap.Ns mainGlobals mg)(hb:s₁.heap.Ns builtinsNs mb)(Dy:∀x:Str,x≠"__name__"->mb x=bootBuiltins x)(Xa:s₁.heap.NoLimit)(hg:s₁.gens=#[])
  (rK:WellAll w.params s₁.heap vals ds)(eG:ko ds=true)(Xb:∀d∈ds,d.weight<=1048576)(hr:du k callerA)
  (F:∀base:Heap,K.In base->base.Ns mainGlobals mg->hJ P w K mg base CX k fa fd ps sp)(Xc:∀(s:ae) (us:List ao),us.length=ps.length->BindsTo s fd ⟨us,[]⟩ (ps.zip us))(hlen:ds.length=ps.length)
  (mo:∀(H:Hp) (xs:List V),wL H->kl K H xs ds->sp xs H (λv H'=>Dw K H' v d0) λ_ _ _=>False)
  (wM:∀H e s',CX [] H s₁ (λ_ _ _=>False) e s'->False):
  codeAny (model P w) callerA (.call (.ref fa) ⟨vals,[]⟩) (λr s'=>∃u as,r= .ok (.ret u)/\ReadsW R cl s'.heap u d0 as/\OldK s₁.heap s'.heap/\s'.os=s₁.os/\AllBare s'.gens) s₁:=by
 obtain⟨A,ho,ar⟩:=z9 ds vals rK eG Xb;have hO:wL (gJ K s₁.heap A):=W5 ar;have aK:cQ P w (gJ K s₁.heap A) s₁.heap:=W6 ar;have hS:=Ac KX ar ds vals rK eG ho;have hV:=uv ho;have hK:∀b u,gJ K s₁.heap A b=some u->K.lookup b=none:=λb u q=>(Ab ar q).1
 have ua:∀{b:Addr} {o:Obj} {es:Array DictEntry} {ep:Nat},s₁.heap.get? b=some o->o.data= .dict es ep->gJ K s₁.heap A b=none:=λ{b o es ep} e d=>by
  cases q:gJ K s₁.heap A b with
  |none=>rfl
  |some u=>
   obtain⟨_,vs,_,_,⟨e2,_⟩|⟨e2,_⟩⟩:=Ab ar q
   ·lia
   lia
 generalize gJ K s₁.heap A=H at hO aK hS hK ua;have K4:∀{b:Addr} {o:Obj},s₁.heap.get? b=some o->H b=none->(nh s₁.heap H).get? b=some o:=λe n=>Th e n;have Ad:∀{b:Addr} {m:Str->Option ao},s₁.heap.Ns b m->(nh s₁.heap H).Ns b m:=λ{b m} ⟨o,es,ep,e,d,r⟩=>⟨o,es,ep,K4 e (ua e d),d,r⟩;have nK:∀b o,K.lookup b=some o->H b=none:=λb o e=>by
  cases q:H b with
  |none=>rfl
  |some u=>rw[hK b u q]at e;cases e
 have K5:K.In (nh s₁.heap H):=λb o e=>K4 (KX b o e) (nK b o e);have hM:Mod K mg (nh s₁.heap H):=⟨K5,Ad K3,⟨mb,Ad hb,Dy⟩,let⟨mc,h1,h2⟩:=Xa;⟨mc,Ad h1,h2⟩⟩;have e0:qU P w K mg (nh s₁.heap H) callerA [] s₁ H:=⟨rfl,hM,λb o e=>Ti e,Nat.le_of_eq (Tg _ _),trivial,λb hb=>absurd (show b∈([]:List Addr) from hb) (by simp),aK,.of_eq hg⟩;have hl:vals.length=ps.length:=by rw[z4 rK];exact hlen
 refine codeAny_mono ((F _ K5 (Ad K3)).run callerA [] s₁ H ⟨vals,[]⟩ vals (vals.map toV) _ _ hr e0 (Xc s₁ vals hl) hV (mo H _ hO hS)) λr s' x=>?_;cases r with
 |error e=>exact(wM H e s' x).elim
 |ok fl=>
  cases fl with
  |next=>exact False.elim x
  |brk=>exact False.elim x
  |cont=>exact False.elim x
  |ret u=>
   obtain⟨v,H',os,bare,un,K6,r',q⟩:=x;have kept:∀b o,s₁.heap.get? b=some o->s'.heap.get? b=some o:=λb o e=>by
    cases q2:H b with
    |none=>exact un.keep b o e q2 (by intro z;exact absurd (show b∈([]:List Addr) from z) (by simp)) (by simp)
    |some u2=>
     rcases hO b with z|⟨ob,u3,z⟩
     ·simp_all
     have z2:=un.lg b ob _ z;obtain⟨e1,_⟩:=aK b _ z;obtain⟨e2,_⟩:=K6 b _ z2;simp_all
   have Xd:K.In s'.heap:=λb o e=>kept b o (KX b o e);obtain⟨as,mE⟩:=Dw.reads (R:=R) (cl:=cl) K6 Xd d0 v u q r';exact⟨u,as,rfl,mE,OldK.of_keep kept,os,bare⟩
def Xe(h:WData.layableAll ds=true):∀d∈ds,d.weight<=1048576:=λd hd=>
 (PySem.W.layableW_iff.mp (l7.mp h d hd)).2.2
theorem K7:∀(cs:List Codec) (a:Codec.denoteAll cs),(Codec.encAll cs a).length=cs.length
 |[],_=>rfl
 |c::cs,a=>by show(Codec.encAll cs a.2).length+1=cs.length+1;rw[K7 cs a.2]
def Xf{r:OpenSpec}{k:Nat}{q:af}{loose:List Str}{XP:(Str->Option ao)->Heap->Prop}{YP:ah->Heap->Prop}{d:DefRec}{K:Params->aa}{CX:ah->mn}{ps:List Str}{sp:ah->Sp}
  (Dz:r.wellSaid=true)(K8:d.params.defaults=[])(hlen:r.args.length=ps.length)(hr:du k callerA)
  (hY:∀(w:ah) (h:Heap),YP w h->(K w.params).In h)
  (F:∀(w:ah) (mg:Str->Option ao) (fa:Addr) (h:Heap),YP w h->(K w.params).In h->h.Ns mainGlobals mg->mg d.name=some (.ref fa)->
   ∃fd:FuncData,(∀(s:ae) (us:List ao),us.length=ps.length->BindsTo s fd ⟨us,[]⟩ (ps.zip us))/\
    ∀base:Heap,(K w.params).In base->base.Ns mainGlobals mg->hJ r.prog w (K w.params) mg base (CX w) k fa fd ps (sp w))
  (mo:∀(w:ah) (H:Hp) (xs:List V) (a:Codec.denoteAll r.args),wL H->Codec.withinAll r.args a=true->Codec.app r.args r.asked a=true->kl (K w.params) H xs (Codec.encAll r.args a)->
   sp w xs H (λv H'=>Dw (K w.params) H' v (r.ret.enc (Codec.app r.args r.f a))) λ_ _ _=>False)
  (wM:∀(w:ah) (H:Hp) (s:ae) (e:ao) (s':ae),CX w [] H s (λ_ _ _=>False) e s'->False):
  PySem.W.WalkOS q loose XP YP r d [] (λf vs=>PySem.call f vs):=by
 intro w gq s₁ mg mb G Y fa o pm cd doc dV kV ho hd mi hD DA hg args vals as Xg Xh mE rK Xi;obtain⟨a,e1,e2⟩:=PySem.W.os_pre_some Xg;obtain⟨e3,Ae⟩:=Codec.encAll_of_decAll r.args args a e1;subst e3;have KX:=hY w _ Y;obtain⟨fd,hb,hF⟩:=F w mg fa _ Y KX G.T.g DA;refine PySem.W.enter_call (codeAny_mono (W_ (R:=[]) (cl:=classAt gq.heap) (d0:=r.ret.enc (Codec.app r.args r.f a)) KX G.T.g G.T.b G.T.builtins G.T.nolimit hg rK (KU _ _) (Xe Xh) hr hF hb (by rw[K7];exact hlen)
  (λH xs hO hS=>mo w H xs a hO Ae e2 hS) λH e s'=>wM w H s₁ e s') λr' s' hq=>?_)
 obtain⟨u,Xj,rfl,h1,h2,h3,h4⟩:=hq;exact⟨.inl ⟨u,_,Xj,rfl,λ_=>rfl,h1,(OpenSpec.post_iff Dz Ae _ _).mpr rfl,λz=>Bool.noConfusion (show false=true from z)⟩,h2,h3,h4⟩
def Xk{r:OpenSpec}{k:Nat}{q:af}{loose:List Str}{XP:(Str->Option ao)->Heap->Prop}{YP:ah->Heap->Prop}{d:DefRec}{K:Params->aa}{CX:mn}{ps:List Str}{sp:aa->Sp}
  (Dz:r.wellSaid=true)(K8:d.params.defaults=[])(hlen:r.args.length=ps.length)(hr:du k callerA)
  (hY:∀(w:ah) (h:Heap),YP w h->(K w.params).In h)
  (F:∀(w:ah) (mg:Str->Option ao) (fa:Addr) (h:Heap),YP w h->(K w.params).In h->h.Ns mainGlobals mg->mg d.name=some (.ref fa)->
   ∃fd:FuncData,(∀(s:ae) (us:List ao),us.length=ps.length->BindsTo s fd ⟨us,[]⟩ (ps.zip us))/\
    ∀base:Heap,(K w.params).In base->base.Ns mainGlobals mg->hJ r.prog w (K w.params) mg base CX k fa fd ps (sp (K w.params)))
  (mo:∀(K:aa) (H:Hp) (xs:List V) (a:Codec.denoteAll r.args),wL H->Codec.withinAll r.args a=true->Codec.app r.args r.asked a=true->kl K H xs (Codec.encAll r.args a)->
   sp K xs H (λv H'=>Dw K H' v (r.ret.enc (Codec.app r.args r.f a))) λ_ _ _=>False)
  (wM:∀(H:Hp) (s:ae) (e:ao) (s':ae),CX [] H s (λ_ _ _=>False) e s'->False):
  PySem.W.WalkOS q loose XP YP r d [] (λf vs=>PySem.call f vs):=
 Xf (K:=K) (CX:=λ_=>CX) (sp:=λw=>sp (K w.params)) Dz K8 hlen hr hY F (λw H xs a h1 h2 h3 h4=>mo (K w.params) H xs a h1 h2 h3 h4) λ_ H s e s'=>wM H s e s'
end L2
namespace Yd
open PySem PySem.Spec PyProof.Rows L2
def K9(a1:s.heap.IsTupleIter it t i)(a2:s.heap.IsTuple t its)(hx:its[i]?=some x)
  (k:∀h',h'.IsTupleIter it t (i+1)->Heap.SameBut it s.heap h'->Q x {s with heap:=h'}):wpAny (model prog w) A (Builtin.SmallTypes.nextOf (.ref it)) Q E s:=by
 obtain⟨o,ho,hc,hd⟩:=id a1;obtain⟨ot,DB,_,nt,i_⟩:=a2;unfold Builtin.SmallTypes.nextOf;refine au (l5 (name:=Str.ofString "__next__") a1.typeIs G_ (gY G_ a1.typeIs F.entry_tuple_iterator_next ?_ (F.args_tuple_iterator_next_1 _)));show wpAny _ _ (field (.ref it) 0>>=_) _ _ s;refine au (fV ho hd (x:=.ref t) rfl ?_);show wpAny _ _ (if(Value.ref t==Value.none)=true then _ else _) _ _ s;rw[az (show¬((Value.ref t==Value.none)=true) from fk)];show wpAny _ _ (field (.ref it) 1>>=_) _ _ s;refine au (fV ho hd (x:=.int i 0) rfl ?_);show wpAny _ _ (seqItems? (.ref t)>>=_) _ _ s;refine au (l9 DB i_ ?_);simp only[vq,hx];refine au (BZ ho hd (by simp) (aI ⟨x,rfl,aI (k _ ?_ (qB ..))⟩));exact⟨_,vv _ ho (Obj.isFreed_of_fields (G6 hd _)),(Obj.cls_mapFields ..).trans hc,by rw[G6 hd];simp[rawInt]⟩
def K_(hh:A.handled=none)(a1:s.heap.IsTupleIter it t i)(a2:s.heap.IsTuple t its)(hx:its[i]?=none)
  (k:∀h' e,Heap.ExtBut it s.heap h'->(∃o,h'.get? e=some o/\o.cls= .type "StopIteration")->E (.ref e) {s with heap:=h'}):wpAny (model prog w) A (Builtin.SmallTypes.nextOf (.ref it)) Q E s:=by
 obtain⟨o,ho,hc,hd⟩:=id a1;obtain⟨ot,DB,_,nt,i_⟩:=a2;unfold Builtin.SmallTypes.nextOf;refine au (l5 (name:=Str.ofString "__next__") a1.typeIs G_ (gY G_ a1.typeIs F.entry_tuple_iterator_next ?_ (F.args_tuple_iterator_next_1 _)));show wpAny _ _ (field (.ref it) 0>>=_) _ _ s;refine au (fV ho hd (x:=.ref t) rfl ?_);show wpAny _ _ (if(Value.ref t==Value.none)=true then _ else _) _ _ s;rw[az (show¬((Value.ref t==Value.none)=true) from fk)];show wpAny _ _ (field (.ref it) 1>>=_) _ _ s;refine au (fV ho hd (x:=.int i 0) rfl ?_);show wpAny _ _ (seqItems? (.ref t)>>=_) _ _ s;refine au (l9 DB i_ ?_);simp only[vq,hx];refine au (oM (au (BZ ho hd (by simp) ?_)));show wpAny _ _ (newExc (.type "StopIteration") []>>=_) _ _ _;refine au ?_;simp only[newExc,newTuple];refine au (ip ?_ (by size_fits));refine au (m:=firstArgMember _ _) (mZ (a:=Value.none) (by first|rfl|(simp only[firstArgMember];rfl)) ?_);refine ip ?_ (by size_fits);simp only[raiseNew];refine au (wpAny_handled ?_);first|rw[show A.in1.handled=none from hh]|rw[hh]
 refine au (aI (wpAny_throw ?_));exact k _ _ (((qB ..).extBut.push _).push _) ⟨_,cv _ rfl,rfl⟩
def Af{h h':Heap}{a b:Addr}{its:Array ao}(x:h.IsTuple a its)(e:∀o,h.get? a=some o->h'.get? a=some o):h'.IsTuple a its:=let⟨o,ho,r⟩:=x;⟨o,e o ho,r⟩
def nM{h h':Heap}{a t:Addr}{i:Nat}(x:h.IsTupleIter a t i)(e:∀o,h.get? a=some o->h'.get? a=some o):h'.IsTupleIter a t i:=let⟨o,ho,r⟩:=x;⟨o,e o ho,r⟩
def La{prog:af}{w:ah}{A:ai}(hh:A.handled=none)(it t:Addr)(bO:t≠it)(its:Array ao):
  Draws prog w A it [it,t] its.size (λi v=>its[i]?=some v) (λi h=>h.IsTupleIter it t i/\h.IsTuple t its)where
 live:=λ_ _ st=>let⟨o,ho,_⟩:=st.1;⟨o,ho⟩
 frame:=λ_ _ _ st hk=>⟨nM st.1 λo e=>hk it (by simp) o e,Af (b:=it) st.2 λo e=>hk t (by simp) o e⟩
 item:=λi s Q E hi st hQ=>K9 st.1 st.2 (x:=its[i]) (by simp[hi]) λh' uo jG=>hQ _ h' s.toks (by simp[hi]) ⟨uo,Af (b:=it) st.2 λo e=>jG.extBut _ _ bO e⟩ jG
 done:=λs Q E st hE=>K_ hh st.1 st.2 (by simp) hE
def Xl(t:Addr)(its:Array ao)(n:Nat)(DC:Option Addr)(sl:Array (Option ao)):
  Meets (Builtin.«enumerate.__new__» ⟨[.type "enumerate",.ref t],[]⟩) (λ_ R s=>s.heap.get? t=some {cls:=.type "tuple",dict:=DC,data:=.seq its n,slots:=sl}/\
   R (.ok (.ret (.ref (s.heap.push {cls:=.type "tuple_iterator",data:=.fields #[.ref t,.int 0 0]}).objs.size)))
    {s with heap:=(s.heap.push {cls:=.type "tuple_iterator",data:=.fields #[.ref t,.int 0 0]}).push {cls:=.type "enumerate",data:=.fields #[.none,.bool false,.ref s.heap.objs.size,rawInt 0,.none,.none]}}):=
 .of_wp λprog w A R s h=>by
  obtain⟨hp,g,d,tk,os⟩:=s;obtain⟨hl,h⟩:=h;have rL:=sub_enumerate;have hL:Heap.IsTuple (Shared.heap ⟨hp,g,d,tk,os⟩) t its:=⟨_,hl,rfl,n,rfl⟩
  wp_walk using Ha hl
  refine wpAny_stack_any λst=>aI ?_;split
  ·rename_i c _ _ _ _ _
   cases(c==Value.type "enumerate")
   ·wp_walk using Ha hl,BP hL
    exact⟨_,rfl,h⟩
   wp_walk using Ha hl,BP hL
   exact⟨_,rfl,h⟩
  wp_walk using Ha hl,BP hL
  exact⟨_,rfl,h⟩
def Xm(hT:s.heap.IsTuple t its)
  (h:∀h',IsEnum h' (s.heap.objs.size+1) s.heap.objs.size 0 .none->h'.IsTupleIter s.heap.objs.size t 0->h'.objs.size=s.heap.objs.size+2->(∀b o,s.heap.get? b=some o->h'.get? b=some o)->Q (.ref (s.heap.objs.size+1)) {s with heap:=h'}):
  wpAny (model prog w) A (call (.type "enumerate") [.ref t]) Q E s:=by
 obtain⟨⟨c,DC,dt,sl⟩,hl,hc,n,hd⟩:=hT;replace hc:c= .type "tuple":=hc;replace hd:dt= .seq its n:=hd;subst hc hd;refine callType_new F.called_enumerate (by decide) (F.typeCall_enumerate_1 _) (F.newCall_enumerate_1 _) (λobj=>F.args_object_init_2 obj _) F.entry_enumerate_new (Xl t its n DC sl) ⟨hl,?_⟩;have hz:(s.heap.push {cls:=.type "tuple_iterator",data:=.fields #[.ref t,.int 0 0]}).objs.size=s.heap.objs.size+1:=ij ..;show _/\_;rw[hz];have he:=cv (s.heap.push {cls:=.type "tuple_iterator",data:=.fields #[.ref t,.int 0 0]}) (o:={cls:=.type "enumerate",data:=.fields #[.none,.bool false,.ref s.heap.objs.size,rawInt 0,.none,.none]}) rfl;rw[hz]at he;exact⟨⟨_,he,rfl⟩,h _ he ⟨_,bI _ (cv _ rfl),rfl,rfl⟩ (by rw[ij,hz]) λb o x=>bI _ (bI _ x)⟩
def Lb(K:aa)(a:Addr):It:=⟨λi H=>dB λ(xs:List V) (x:V)=>aX K H a xs/\xs[i]?=some x,λi H v H'=>dB λT x=>gR (v= .ref T) (H T=none) (H'=upd H T (.tup [.int (i:Nat),x])) (∀xs,aX K H a xs->xs[i]?=some x),λi H=>∃xs:List V,aX K H a xs/\xs.length=i⟩
def Xn{P:af}{w:ah}{K:aa}{elts:List Expr}{kk:Nat}{gx:Pos}(a e it:Addr):
  Turn P w K (.Tuple elts kk gx) (Lb K a) [e,it] e (λi h=>(∃old,IsEnum h e it ((i:Nat):Int) old)/\h.IsTupleIter it a i/\e≠it)where
 mem:=by simp
 obj:=λi h st b hb=>by obtain⟨⟨old,he⟩,⟨o,ho,hc,hd⟩,_⟩:=st;grind
 keep:=λi h h' st k=>let⟨⟨old,he⟩,hi,bO⟩:=st;⟨⟨old,k e (by simp) _ he⟩,nM hi λo q=>k it (by simp) o q,bO⟩
 item:=by
  intro X hP hw hK hc i pins s σ H E I hf st hg;subst hP hw hK;obtain⟨⟨old,he⟩,hit,bO⟩:=st;obtain⟨xs,x,hq,hx⟩:=hg;obtain⟨its,rv,pt,hz⟩:=I.tuple hq;obtain⟨u,hu,ru⟩:=rv.get hx;have rF:e<s.heap.objs.size:=bK he;have gf:it<s.heap.objs.size:=by obtain⟨_,q,_⟩:=hit;exact bK q
  have uw:s.heap.IsTuple a its.toArray:=pt;have Xo:a≠e:=λq=>by obtain⟨o,ho,jz,_⟩:=uw;lia
  have DD:a≠it:=λq=>by obtain⟨o,ho,jz,_⟩:=uw;obtain⟨o2,nA,mq,_⟩:=hit;lia
  have Xp:i<its.toArray.size:=by have:=(dq.mp hu).1;assumption
  refine wpAny_pyNext_enum_itemD (i:=i) (La (A:=X.A.in1) (I.ok.hd hc) it a DD its.toArray) he ⟨hit,uw⟩ Xp bO (by simp[bO,aO Xo]) λx' h' tk mF ho b4 hT hsz hk=>?_;have ex:x'=u:=by simp_all
  subst ex;refine⟨_,rfl,wpAny_letOwnedTupleGo_enum (s:={s with heap:=h',toks:=tk+1}) ho λfC kf sb=>?_⟩;have nJ:fC.get? s.heap.objs.size=some {cls:=.type "tuple",data:=.seq #[.int i tk,x']}:=(sb.2 _ (kS rF)).trans hT;have new:cP X.prog X.w (upd H s.heap.objs.size (.tup [.int (i:Nat),x])) fC s.heap.objs.size (.tup [.int (i:Nat),x]):=⟨iq,[.int i tk,x'],.cons ⟨_,rfl⟩ (.cons ru .nil),⟨_,nJ,rfl,_,rfl⟩⟩;have I1:Inv X pins σ (upd H s.heap.objs.size (.tup [.int (i:Nat),x])) {s with heap:=fC,toks:=tk+1}:=
   I.wD (ch:=[e,it]) (λb ob hb q=>(sb.2 b (λz=>hb (by simp[z]))).trans (hk b ob (λz=>hb (by simp[z])) (λz=>hb (by simp[z])) q)) hf (aW _) new
  refine⟨.ref s.heap.objs.size,_,I1,rfl,⟨_,x,rfl,I.aK.fresh (aW _),rfl,λys hy=>by rw[I.zm hy hq];exact hx⟩,⟨⟨x',?_⟩,nM b4.1 λo q=>(sb.2 it (aO bO)).trans q,bO⟩,λb hb=>?_⟩
  ·assumption
  have fE:b<s.heap.objs.size:=by
   simp only[be,fL,fM]at hb;rcases hb with rfl|rfl
   ·exact rF
   exact gf
  rw[ay (dP fE)];exact(hf b hb).1
 done:=by
  intro X hP hw hK hc i pins s σ H E I hf st hg;subst hP hw hK;obtain⟨⟨old,he⟩,hit,bO⟩:=st;obtain⟨xs,hq,hx⟩:=hg;obtain⟨its,rv,pt,hz⟩:=I.tuple hq;obtain⟨f0,f1,f2,f3,f4,f5⟩:=hf it (by simp);have uw:s.heap.IsTuple a its.toArray:=pt;have DD:a≠it:=λq=>by obtain⟨o,ho,jz,_⟩:=uw;obtain⟨o2,nA,mq,_⟩:=hit;lia
  have hl:=rv.length;have hn:i=its.toArray.size:=by simp;simp_all
  subst hn;exact wpAny_pyNext_enum_endD (La (A:=X.A.in1) (I.ok.hd hc) it a DD its.toArray) he ⟨hit,uw⟩ λh' eb=>⟨rfl,I.turned (t':=s.toks) (λb o hb q=>eb b o hb q) f0 f1 f3 f4 f5⟩
 self:=λA i s Q E st h=>let⟨⟨_,he⟩,_⟩:=st;G7 he h
inductive Lc(K:aa)(R:It->Hp->Prop)(vs:List V)(H1:Hp):Prop
 |mk:∀a xs,vs=[.ref a]->aX K H1 a xs->R (Lb K a) H1->Lc K R vs H1
def Xq(K:aa)(ta:TA):TI:=λσ H R=>ta σ H λvs H1=>Lc K R vs H1
def Xr{X:Cx}{e:Expr}{ta:TA}{p pos gx:Pos}{elts:List Expr}{kk:Nat}(hg:Gl X "enumerate")(hm:X.mg "enumerate"=none)(ha:PA X [e] ta)(hs:starEach [e] X.env=[(false,eval e X.env)]:=by rfl):
  PI X (.Tuple elts kk gx) (.Call (.Name "enumerate" p) [e] [] pos) (Xq X.K ta):=by
 intro pins s σ H R I h;refine Call_ (ju I hg hm boot_enumerate (mX (aM (ha pos pins s σ H _ I h) λus s1 ⟨vs,H1,I1,r1,q1⟩=>?_) hs rfl));obtain⟨a,xs,ex,hq,q⟩:=q1;subst ex;obtain⟨u,rfl,ru⟩:=vals1 r1;cases ru;obtain⟨its,rv,p',hz⟩:=I1.tuple hq;refine Xm (its:=its.toArray) p' λh' he hit hsz hk=>G7 he ?_;have I2:Inv X pins σ H1 {s1 with heap:=h'}:=I1.kept (t':=s1.toks) hk;refine⟨s1.heap.objs.size+1,[s1.heap.objs.size+1,s1.heap.objs.size],_,_,H1,rfl,I2,Xn a (s1.heap.objs.size+1) s1.heap.objs.size,⟨⟨.none,he⟩,hit,Nat.succ_ne_self _⟩,λb hb=>?_,q⟩;have hle:s1.heap.objs.size<=b:=by grind
 exact I1.nu hle (I1.aK.fresh hle)
def Ld:Manifest.owners.lookup (String.ofList ['d','e','s','r','e','v','e','r'].reverse)=some Manifest.sig_reversed:=by kernel_rfl
def wN:Slot "reversed" "__next__" "reversed.__next__":=
 .of (owner:="reversed") (n:="__next__") (by rw[typeLookup_type,builtinLookup_eq_fast];kernel_rfl) (by decide +kernel) (by decide +kernel) (by decide +kernel) (by first|exact .inl (by decide +kernel)|exact .inr (by decide +kernel)) (by rw[B2];kernel_rfl)
def Le:entryFor table "reversed.__next__"=some Builtin.«reversed.__next__»:=entryFor_of_tree (by kernel_rfl)
def Lf(a:ao):argsOk "reversed.__next__" ⟨[a],[]⟩:=by unfold argsOk;rw[signature?_of (id:="reversed.__next__") (n:=['_','_','t','x','e','n','_','_']) (o:=['d','e','s','r','e','v','e','r']) (by kernel_rfl) Ld];kernel_rfl
def Lg:Slot "reversed" "__iter__" "reversed.__iter__":=
 .of (owner:="reversed") (n:="__iter__") (by rw[typeLookup_type,builtinLookup_eq_fast];kernel_rfl) (by decide +kernel) (by decide +kernel) (by decide +kernel) (by first|exact .inl (by decide +kernel)|exact .inr (by decide +kernel)) (by rw[B2];kernel_rfl)
def Xs(a:ao):argsOk "reversed.__iter__" ⟨[a],[]⟩:=by unfold argsOk;rw[signature?_of (id:="reversed.__iter__") (n:=['_','_','r','e','t','i','_','_']) (o:=['d','e','s','r','e','v','e','r']) (by kernel_rfl) Ld];kernel_rfl
def Xt:entryFor table "reversed.__iter__"=some Builtin.«dict_keyiterator.__iter__»:=
 entryFor_alias (id':="dict_keyiterator.__iter__") (by kernel_rfl) (by first|rfl|decide +kernel|(unfold String.splitOn;simp +decide [String.splitOnAux])) (by decide +kernel) (by kernel_rfl)
def Xu:Slot "reversed" "__init__" "object.__init__":=
 .of (owner:="object") (n:="__init__") (by rw[typeLookup_type,builtinLookup_eq_fast];kernel_rfl) (by decide +kernel) (by decide +kernel) (by decide +kernel) (by first|exact .inl (by decide +kernel)|exact .inr (by decide +kernel)) (by rw[B2];kernel_rfl)
def Xv:TypeCalled "reversed" "reversed.__new__" "object.__init__":=
 ⟨by decide +kernel,by decide +kernel,⟨_,_,F.mro_reversed⟩,F.made_reversed,by decide +kernel,by rw[B2];kernel_rfl,Xu⟩
def Xw:typeLookup (.type "tuple") "__reversed__"=pure none:=am_miss_of_fast (by first|decide +kernel|rfl)
def Xx:isSubtype (.type "tuple") (.type "dict")=pure false:=by rw[B2];kernel_rfl
def ph(h:Heap)(it t:Addr)(i:Int):Prop:=h.get? it=some {cls:=.type "reversed",dict:=none,data:=.fields #[.ref t,rawInt i],slots:=#[]}
def Xy(t:Addr)(its:Array ao):
  Meets (Builtin.«reversed.__new__» ⟨[.type "reversed",.ref t],[]⟩) (λ_ R s=>IsTup s.heap t its/\(its.size:Int)<2 ^ 63/\
   ∀tk,R (.ok (.ret (.ref s.heap.objs.size))) {s with heap:=s.heap.push {cls:=.type "reversed",data:=.fields #[.ref t,rawInt ((its.size:Int) - 1)]},toks:=tk}):=
 .of_wp λprog w A R s h=>by
  obtain⟨ht,wO,h⟩:=h;unfold Builtin.«reversed.__new__»;refine au (mZ (newClass_reversed _) ?_);try dsimp only
  refine au (mZ (a:=()) (by first|rfl|kernel_rfl) ?_);refine au (mZ (a:=()) (by first|rfl|kernel_rfl) ?_);try dsimp only
  refine au (l8 ht.typeIs Xw ?_);try dsimp only
  refine au ?_;show wpAny _ _ (isInstance (.ref t) (.type "dict")>>=_) _ _ s;refine au (qC ht.typeIs Xx ?_);simp only[iW,fK];refine au (l8 ht.typeIs slot_tuple_getitem.lookup ?_);refine aI ?_;show wpAny _ _ (call (.builtin "len") [.ref t]>>=_) _ _ s;refine au (len_tuple ht wO ?_);refine au (mZ (a:=some (its.size:Int)) (by first|rfl|kernel_rfl) ?_);try dsimp only
  refine au ?_;show wpAny _ _ (newObj (.type "reversed") (.fields #[.ref t,rawInt ((its.size:Int) - 1)])) _ _ _;refine ip ?_;exact aI ⟨_,rfl,h _⟩
section
variable{prog:af}{w:ah}{A:ai}{E:ao->ae->Prop}{s:ae}
def rM(x:ph s.heap it t i):s.TypeIs (.ref it) "reversed":=⟨_,x,rfl⟩
def Xz(x:ph h it t i)(e:∀o,h.get? it=some o->h'.get? it=some o):ph h' it t i:=e _ x
def XA(ht:IsTup s.heap t its)(wO:(its.size:Int)<2 ^ 63)
  (h:∀tk,Q (.ref s.heap.objs.size) {s with heap:=s.heap.push {cls:=.type "reversed",data:=.fields #[.ref t,rawInt ((its.size:Int) - 1)]},toks:=tk}):wpAny (model prog w) A (call (.type "reversed") [.ref t]) Q E s:=by
 refine callType_new Xv (by decide) (F.typeCall_reversed_1 _) (F.newCall_reversed_1 _) (λobj=>F.args_object_init_2 obj _) F.entry_reversed_new (Xy t its) ⟨ht,wO,λtk=>?_⟩;exact⟨⟨_,cv _ rfl,rfl⟩,h tk⟩
def Lh(hit:ph s.heap it t i)(h:Q (.ref it) s):wpAny (model prog w) A (pyIter (.ref it)) Q E s:=by refine G1 (rM hit) Lg (gY Lg (rM hit) Xt ?_ (Xs _));show wpAny _ _ (ret (.ref it)) _ _ s;exact aI ⟨_,rfl,"reversed",_,rM hit,wN.lookup,h⟩
def XB{it t:Addr}{i:Nat}{its:Array ao}{x:ao}{Q:Option ao->ae->Prop}(hit:ph s.heap it t (i:Int))(ht:IsTup s.heap t its)(hx:its[i]?=some x)(wO:(its.size:Int)<2 ^ 63)
  (k:∀h' tk,ph h' it t ((i:Int) - 1)->Heap.SameBut it s.heap h'->Q (some x) {s with heap:=h',toks:=tk}):wpAny (model prog w) A (pyNext (.ref it)) Q E s:=by
 have ho:s.heap.get? it=some _:=hit;have hi:i<its.size:=(G4.mp hx).1;unfold pyNext;refine au (qA (l5 (name:=Str.ofString "__next__") (rM hit) wN (gY wN (rM hit) Le ?_ (Lf _))));unfold Builtin.«reversed.__next__»;refine au (mZ (a:=(Value.ref it,[])) rfl ?_);try dsimp only
 refine au (fV ho rfl (x:=.ref t) rfl ?_);refine au (fV ho rfl (x:=rawInt (i:Int)) rfl ?_);show wpAny _ _ (if(i:Int)<0 then _ else _) _ _ s;rw[az (by omega)];refine au (l8 ht.typeIs slot_tuple_getitem.lookup ?_);simp only[Option.isNone_some,iW,fK];refine au (wpAny_mkInt ?_);refine au (qA (getItem_tuple (j:=i) ht (by omega) (by omega) (by unfold seqIndex?;simp;omega) hx ?_));try dsimp only
 refine au (fV ho rfl (x:=rawInt (i:Int)) rfl ?_);show wpAny _ _ (setField (.ref it) 1 _>>=_) _ _ _;exact au (kY ho (by simp) λh' a1 a2=>aI ⟨x,rfl,aI (k _ _ a1 a2)⟩)
def XC(hh:A.handled=none)(hit:ph s.heap it t (-1))(k:∀h',Heap.ExtBut it s.heap h'->Q none {s with heap:=h'}):wpAny (model prog w) A (pyNext (.ref it)) Q E s:=by
 have ho:s.heap.get? it=some _:=hit;unfold pyNext;refine au (qA (l5 (name:=Str.ofString "__next__") (rM hit) wN (gY wN (rM hit) Le ?_ (Lf _))));unfold Builtin.«reversed.__next__»;refine au (mZ (a:=(Value.ref it,[])) rfl ?_);try dsimp only
 refine au (fV ho rfl (x:=.ref t) rfl ?_);refine au (fV ho rfl (x:=rawInt (-1)) rfl ?_);show wpAny _ _ (if(-1:Int)<0 then _ else _) _ _ s;rw[aD (by decide)];refine au (oM ?_);refine au ?_;show wpAny _ _ (setField (.ref it) 1 (rawInt (-1))>>=_) _ _ _;refine au (kY ho (by simp) λh1 a1 a2=>?_);refine kY a1 (by simp) λh2 b1 b2=>?_;show wpAny _ _ (Builtin.SmallTypes.stopIteration>>=_) _ _ _;refine au ?_;unfold Builtin.SmallTypes.stopIteration;refine au ?_;simp only[newExc,newTuple];refine au (ip ?_ (by size_fits));refine au (m:=firstArgMember _ _) (mZ (a:=Value.none) (by first|rfl|(simp only[firstArgMember];rfl)) ?_);refine ip ?_ (by size_fits);simp only[raiseNew];refine au (wpAny_handled ?_);first|rw[show A.in1.handled=none from hh]|rw[hh]
 refine au (aI (wpAny_throw ?_));refine au (qC (T:="StopIteration") (b:=true) ⟨_,cv _ rfl,rfl⟩ isSubtype_stop ?_);refine aI (k _ (((?_:Heap.ExtBut it s.heap h2).push _).push _));exact λb o hb e=>b2.extBut b o hb (a2.extBut b o hb e)
end
def Li(K:aa)(a:Addr)(n:Nat):It:=
 ⟨λi H=>i<n/\dB λ(xs:List V) (x:V)=>aX K H a xs/\xs[n - 1 - i]?=some x,λi H x H'=>H'=H/\∀xs,aX K H a xs->xs[n - 1 - i]?=some x,λi _=>n<=i⟩
def XD{P:af}{w:ah}{K:aa}{tg:Expr}(a it:Addr)(n:Nat):Turn P w K tg (Li K a n) [it] it (λi h=>i<=n/\ph h it a ((n:Int) - 1 -(i:Nat)))where
 mem:=by simp
 obj:=λi h st b hb=>by
  obtain rfl:b=it:=by simpa using hb
  exact⟨_,st.2,λv z=>nomatch z⟩
 keep:=λi h h' st k=>⟨st.1,Xz st.2 λo e=>k it (by simp) o e⟩
 item:=by
  intro X hP hw hK hc i pins s σ H E I hf st hg;subst hP hw hK;obtain⟨lF,xs,x,hq,hx⟩:=hg;obtain⟨its,rv,p,hz⟩:=I.tuple hq;obtain⟨u,hu,ru⟩:=rv.get hx;obtain⟨f0,f1,f2,f3,f4,f5⟩:=hf it (by simp);obtain⟨_,hit⟩:=st;have e1:(n:Int) - 1 -((i:Nat):Int)=((n - 1 - i:Nat):Int):=by grind
  rw[e1]at hit;have hl:=rv.length;have hn:=nz;refine XB hit p (x:=u) (by simpa using hu) (by simp only[iJ];lia) λh' tk fB sb=>?_;have e2:((n - 1 - i:Nat):Int) - 1=(n:Int) - 1 -((i+1:Nat):Int):=by lia
  rw[e2]at fB;have I1:Inv X pins σ H {s with heap:=h',toks:=tk}:=I.turned (t':=tk) (λb o hb e=>(sb.2 b hb).trans e) f0 f1 f3 f4 f5;exact⟨u,rfl,tY (s:={s with heap:=h',toks:=tk}) fB rfl rfl (by decide) ⟨x,H,I1,ru,⟨rfl,λys hy=>by rw[I.zm hy hq];exact hx⟩,⟨lF,fB⟩,λb hb=>(hf b hb).1⟩⟩
 done:=by
  intro X hP hw hK hc i pins s σ H E I hf st hg;subst hP hw hK;obtain⟨f0,f1,f2,f3,f4,f5⟩:=hf it (by simp);obtain⟨lF,hit⟩:=st;have zY:n<=i:=hg;have e1:(n:Int) - 1 -((i:Nat):Int)= -1:=by lia
  rw[e1]at hit;exact XC (I.ok.hd hc) hit λh' eb=>⟨rfl,I.turned (t':=s.toks) (λb o hb e=>eb b o hb e) f0 f1 f3 f4 f5⟩
 self:=λA i s Q E st h=>Lh st.2 h
inductive Lj(K:aa)(R:It->Hp->Prop)(vs:List V)(H1:Hp):Prop
 |mk:∀(a:Addr) (xs:List V),vs=[.ref a]->aX K H1 a xs->R (Li K a xs.length) H1->Lj K R vs H1
def XE(K:aa)(ta:TA):TI:=λσ H R=>ta σ H λvs H1=>Lj K R vs H1
def XF{X:Cx}{tg:Expr}{e:Expr}{ta:TA}{p pos:Pos}(hg:Gl X "reversed")(hm:X.mg "reversed"=none)(ha:PA X [e] ta)(hs:starEach [e] X.env=[(false,eval e X.env)]:=by rfl):PI X tg (.Call (.Name "reversed" p) [e] [] pos) (XE X.K ta):=by
 intro pins s σ H R I h;refine Call_ (ju I hg hm Kd (mX (aM (ha pos pins s σ H _ I h) λus s1 ⟨vs,H1,I1,r1,q1⟩=>?_) hs rfl));obtain⟨a,xs,e,hq,q⟩:=q1;subst e;obtain⟨u,rfl,ru⟩:=vals1 r1;cases ru;obtain⟨its,rv,p',hz⟩:=I1.tuple hq;have hl:=rv.length;have hn:=nz;refine XA p' (by simp only[iJ];lia) λtk=>?_;refine Lh (t:=a) (i:=(its.toArray.size:Int) - 1) (cv _ rfl) ?_;refine wF (tk:=tk) I1 _ (XD a _ xs.length) ⟨bL _,?_⟩ q;have e1:(xs.length:Int) - 1 -((0:Nat):Int)=(its.toArray.size:Int) - 1:=by simp only[iJ];simp[*]
 rw[e1];exact cv _ rfl
def XG{z TI TO i1 i2 t l:Addr}{k1 k2:Nat}{xs ys:Array ao}{x y a b:ao}{Q:ao->ae->Prop}(D:ZipApart z TI TO i1 i2 t l)
  (hz:IsZip s.heap z TI TO .none)(ff:IsPair s.heap TI (.ref i1) (.ref i2))(fZ:IsPair s.heap TO a b)(g1:s.heap.IsTupleIter i1 t k1)(g2:s.heap.IsListIter i2 l k2)(e1:s.heap.IsTuple t xs)(e2:s.heap.IsList l ys)(hx:xs[k1]?=some x)(hy:ys[k2]?=some y)
  (hQ:∀h',IsZip h' z TI TO (rawInt s.heap.objs.size)->IsPair h' TO x y->h'.IsTupleIter i1 t (k1+1)->h'.IsListIter i2 l (k2+1)->IsPair h' s.heap.objs.size x y->h'.objs.size=s.heap.objs.size+1->
   (∀c o,c≠z->c≠TO->c≠i1->c≠i2->s.heap.get? c=some o->h'.get? c=some o)->Q (.ref s.heap.objs.size) {s with heap:=h'}):
  wpAny (model prog w) A (Builtin.«zip.__next__» ⟨[.ref z],[]⟩) (λfin s'=>∃v,fin= .done (.ret v)/\Q v s') E s:=by
 show wpAny _ _ (field (.ref z) 2>>=_) _ _ _;refine au (fV hz rfl (x:=.bool false) rfl ?_);show wpAny _ _ (field (.ref z) 3>>=_) _ _ _;refine au (fV hz rfl (x:=.ref TI) rfl ?_);refine au (l9 ff rfl ?_);show wpAny _ _ (Builtin.SmallTypes.ownedTupleIsFree (.ref z)>>=_) _ _ _;refine au ?_;unfold Builtin.SmallTypes.ownedTupleIsFree;refine au (fV hz rfl (x:=.none) rfl (aI ?_));simp only[gE];refine au (oM ?_);refine au (fV hz rfl (x:=.ref TO) rfl ?_);refine au (kY hz (by simp) λp1 z1 d1=>?_);replace z1:IsZip p1 z TI TO .ellipsis:=z1;refine au ?_;simp only[List.zipIdx_cons,List.zipIdx_nil,GV,List.forIn_nil];refine au (au (wpAny_onRaise ?_));show wpAny _ _ (Builtin.SmallTypes.nextOf (.ref i1)>>=_) _ _ _;refine au (K9 (nM g1 λo e=>d1.extBut _ _ D.i1z e) (Af (b:=z) e1 λo e=>d1.extBut _ _ D.l1z e) hx λp2 XH d2=>aI ?_);have t2:IsPair p2 TO a b:=d2.extBut _ _ D.TOi1 (d1.extBut _ _ D.TOz fZ);refine au (l9 t2 rfl ?_);refine au (wpAny_updateSeq_pair t2 λp3 t3 d3=>?_);replace t3:IsPair p3 TO x b:=t3;refine au (qD (aI ?_));refine au (au (wpAny_onRaise ?_));show wpAny _ _ (Builtin.SmallTypes.nextOf (.ref i2)>>=_) _ _ _;have XI:p3.IsListIter i2 l k2:=g2.at λo e=>d3.extBut _ _ D.TOi2.symm (d2.extBut _ _ D.i12.symm (d1.extBut _ _ D.i2z e));have XJ:p3.IsList l ys:=e2.at λo e=>d3.extBut _ _ D.l2TO (d2.extBut _ _ D.l2i1 (d1.extBut _ _ D.l2z e));refine au (wpAny_nextOf_list_item XI XJ hy λp4 XM d4=>aI ?_);have t4:IsPair p4 TO x b:=d4.extBut _ _ D.TOi2 t3;refine au (l9 t4 rfl ?_);refine au (wpAny_updateSeq_pair t4 λp5 t5 d5=>?_);replace t5:IsPair p5 TO x y:=t5;refine au (qD (aI (aI ?_)));refine au (l9 t5 rfl ?_);refine au (wpAny_newTuple ?_);have Lk:p5.objs.size=s.heap.objs.size:=by rw[d5.1,d4.1,d3.1,d2.1,d1.1]
 have z5:IsZip p5 z TI TO .ellipsis:=d5.extBut _ _ D.TOz.symm (d4.extBut _ _ D.i2z.symm (d3.extBut _ _ D.TOz.symm (d2.extBut _ _ D.i1z.symm z1)));have kp:∀c o,c≠z->c≠TO->c≠i1->c≠i2->s.heap.get? c=some o->p5.get? c=some o:=λc o c1 c2 c3 c4 e=>d5.extBut _ _ c2 (d4.extBut _ _ c4 (d3.extBut _ _ c2 (d2.extBut _ _ c3 (d1.extBut _ _ c1 e))));have XN:p5.IsTupleIter i1 t (k1+1):=nM XH λo e=>d5.extBut _ _ D.TOi1.symm (d4.extBut _ _ D.i12 (d3.extBut _ _ D.TOi1.symm e));have XO:p5.IsListIter i2 l (k2+1):=XM.at λo e=>d5.extBut _ _ D.TOi2.symm e;have Ll:z<p5.objs.size:=bK z5;show wpAny _ _ (Builtin.SmallTypes.ownedTupleHandOut (.ref z) (.ref p5.objs.size)>>=_) _ _ _;refine au ?_;unfold Builtin.SmallTypes.ownedTupleHandOut;have z6:IsZip (p5.push {cls:=.type "tuple",data:=.seq #[x,y]}) z TI TO .ellipsis:=bI _ z5;refine au (kY z6 (by simp) λp7 z7 d7=>?_);replace z7:IsZip p7 z TI TO (rawInt p5.objs.size):=z7;refine kY z7 (by simp) λp8 z8 d8=>?_;replace z8:IsZip p8 z TI TO (rawInt p5.objs.size):=z8;have up:∀c o,c≠z->p5.get? c=some o->p8.get? c=some o:=λc o c1 e=>d8.extBut _ _ c1 (d7.extBut _ _ c1 (bI _ e));have t8:IsPair p8 p5.objs.size x y:=d8.extBut _ _ (kS Ll) (d7.extBut _ _ (kS Ll) (cv _ rfl));have Lm:p8.objs.size=p5.objs.size+1:=by rw[d8.1,d7.1,ij]
 rw[Lk]at z8 t8 Lm;refine aI ⟨_,rfl,?_⟩;show Q (.ref p5.objs.size) _;rw[Lk];exact hQ p8 z8 (up _ _ D.TOz t5) (nM XN λo e=>up _ o D.i1z e) (XO.at λo e=>up _ o D.i2z e) t8 Lm λc o c1 c2 c3 c4 e=>up c o c1 (kp c o c1 c2 c3 c4 e)
def XQ{z TI TO i1 i2 t l:Addr}{k1 k2:Nat}{xs ys:Array ao}{a b:ao}{Q:Fin->ae->Prop}(hh:A.handled=none)(D:ZipApart z TI TO i1 i2 t l)
  (hz:IsZip s.heap z TI TO .none)(ff:IsPair s.heap TI (.ref i1) (.ref i2))(fZ:IsPair s.heap TO a b)(g1:s.heap.IsTupleIter i1 t k1)(g2:s.heap.IsListIter i2 l k2)(e1:s.heap.IsTuple t xs)(e2:s.heap.IsList l ys)(hx:xs[k1]?=none)
  (hE:∀h' e,(∀c o,c≠z->c≠TO->c≠i1->c≠i2->s.heap.get? c=some o->h'.get? c=some o)->(∃o,h'.get? e=some o/\o.cls= .type "StopIteration")->E (.ref e) {s with heap:=h'}):
  wpAny (model prog w) A (Builtin.«zip.__next__» ⟨[.ref z],[]⟩) Q E s:=by
 show wpAny _ _ (field (.ref z) 2>>=_) _ _ _;refine au (fV hz rfl (x:=.bool false) rfl ?_);show wpAny _ _ (field (.ref z) 3>>=_) _ _ _;refine au (fV hz rfl (x:=.ref TI) rfl ?_);refine au (l9 ff rfl ?_);show wpAny _ _ (Builtin.SmallTypes.ownedTupleIsFree (.ref z)>>=_) _ _ _;refine au ?_;unfold Builtin.SmallTypes.ownedTupleIsFree;refine au (fV hz rfl (x:=.none) rfl (aI ?_));simp only[gE];refine au (oM ?_);refine au (fV hz rfl (x:=.ref TO) rfl ?_);refine au (kY hz (by simp) λp1 z1 d1=>?_);replace z1:IsZip p1 z TI TO .ellipsis:=z1;refine au ?_;simp only[List.zipIdx_cons,List.zipIdx_nil,GV,List.forIn_nil];refine au (au (wpAny_onRaise ?_));show wpAny _ _ (Builtin.SmallTypes.nextOf (.ref i1)>>=_) _ _ _;refine au (K_ hh (nM g1 λo e=>d1.extBut _ _ D.i1z e) (Af (b:=z) e1 λo e=>d1.extBut _ _ D.l1z e) hx λp2 e d2 he=>?_);obtain⟨oe,XR,C7⟩:=he;have z2:IsZip p2 z TI TO .ellipsis:=d2 _ _ D.i1z.symm z1;have ez:e≠z:=λq=>by lia
 refine kY z2 (by simp) λp3 _ d3=>hE p3 e (λc o c1 _ c3 _ q=>d3.extBut _ _ c1 (d2 _ _ c3 (d1.extBut _ _ c1 q))) ⟨oe,d3.extBut _ _ ez XR,C7⟩
def XS(t l:Addr)(xs ys:Array ao):
  Meets (Builtin.«zip.__new__» ⟨[.type "zip",.ref t,.ref l],[]⟩) (λ_ R s=>s.heap.IsTuple t xs/\s.heap.IsList l ys/\
   R (.ok (.ret (.ref (s.heap.objs.size+4)))) {s with heap:=((((s.heap.push {cls:=.type "tuple_iterator",data:=.fields #[.ref t,.int 0 0]}).push {cls:=.type "list_iterator",data:=.fields #[.ref l,.int 0 0]}).push {cls:=.type "tuple",data:=.seq #[.ref s.heap.objs.size,.ref (s.heap.objs.size+1)]}).push {cls:=.type "tuple",data:=.seq #[.none,.none]}).push {cls:=.type "zip",data:=.fields #[.none,.bool false,.bool false,.ref (s.heap.objs.size+2),.ref (s.heap.objs.size+3)]}}):=
 .of_wp λprog w A R s h=>by
  obtain⟨hp,g,d,tk,os⟩:=s;obtain⟨iw,mB,h⟩:=h;have rL:=sub_zip;have XT:Heap.IsTuple (Shared.heap ⟨hp,g,d,tk,os⟩) t xs:=iw;have XU:Heap.IsList (Shared.heap ⟨hp.push {cls:=.type "tuple_iterator",data:=.fields #[.ref t,.int 0 0]},g,d,tk,os⟩) l ys:=Heap.IsList.push mB _;have y1:∀(h:Heap) (o:Obj),(h.push o).objs.size=h.objs.size+1:=λh o=>ij ..
  wp_walk using BP XT,wpAny_pyIter_list XU
  simp only[y1]at h⊢;exact⟨_,rfl,h⟩
def XW(e1:s.heap.IsTuple t xs)(e2:s.heap.IsList l ys)
  (h:∀h',IsZip h' (s.heap.objs.size+4) (s.heap.objs.size+2) (s.heap.objs.size+3) .none->IsPair h' (s.heap.objs.size+2) (.ref s.heap.objs.size) (.ref (s.heap.objs.size+1))->
   IsPair h' (s.heap.objs.size+3) .none .none->h'.IsTupleIter s.heap.objs.size t 0->h'.IsListIter (s.heap.objs.size+1) l 0->h'.objs.size=s.heap.objs.size+5->(∀c o,s.heap.get? c=some o->h'.get? c=some o)->Q (.ref (s.heap.objs.size+4)) {s with heap:=h'}):
  wpAny (model prog w) A (call (.type "zip") [.ref t,.ref l]) Q E s:=by
 refine callType_new F.called_zip (by decide) (F.typeCall_zip_2 _ _) (F.newCall_zip_2 _ _) (λobj=>F.args_object_init_3 obj _ _) F.entry_zip_new (XS t l xs ys) ⟨e1,e2,?_⟩;have key:∀(h0:Heap) (o1 o2 o3 o4 o5:Obj),o1.isFreed=false->o2.isFreed=false->o3.isFreed=false->o4.isFreed=false->o5.isFreed=false->
   let hp:=((((h0.push o1).push o2).push o3).push o4).push o5
   hp.get? h0.objs.size=some o1/\hp.get? (h0.objs.size+1)=some o2/\hp.get? (h0.objs.size+2)=some o3/\hp.get? (h0.objs.size+3)=some o4/\hp.get? (h0.objs.size+4)=some o5/\hp.objs.size=h0.objs.size+5/\∀c o,h0.get? c=some o->hp.get? c=some o:=by
  intro h0 o1 o2 o3 o4 o5 f1 f2 f3 f4 f5;have y:∀(h:Heap) (o:Obj),(h.push o).objs.size=h.objs.size+1:=λh o=>ij ..;have q2:=cv (h0.push o1) f2;have q3:=cv ((h0.push o1).push o2) f3;have q4:=cv (((h0.push o1).push o2).push o3) f4;have q5:=cv ((((h0.push o1).push o2).push o3).push o4) f5;simp only[y]at q2 q3 q4 q5;refine⟨bI _ (bI _ (bI _ (bI _ (cv _ f1)))),bI _ (bI _ (bI _ q2)),bI _ (bI _ q3),bI _ q4,q5,by simp only[y],λc o e=>?_⟩;exact bI _ (bI _ (bI _ (bI _ (bI _ e))))
 obtain⟨k1,k2,k3,k4,k5,k6,k7⟩:=key s.heap {cls:=.type "tuple_iterator",data:=.fields #[.ref t,.int 0 0]} {cls:=.type "list_iterator",data:=.fields #[.ref l,.int 0 0]} {cls:=.type "tuple",data:=.seq #[.ref s.heap.objs.size,.ref (s.heap.objs.size+1)]} {cls:=.type "tuple",data:=.seq #[.none,.none]} {cls:=.type "zip",data:=.fields #[.none,.bool false,.bool false,.ref (s.heap.objs.size+2),.ref (s.heap.objs.size+3)]} rfl rfl rfl rfl rfl;exact⟨⟨_,k5,rfl⟩,h _ k5 k3 k4 ⟨_,k1,rfl,rfl⟩ ⟨_,k2,rfl,rfl⟩ k6 k7⟩
def Ln(K:aa)(a b:Addr):It:=
 ⟨λi H=>k9 λ(xs ys:List V) (x y:V)=>gR (aX K H a xs) (aB K H b ys) (xs[i]?=some x) (ys[i]?=some y),
  λi H v H'=>iY λT x y=>ma (v= .ref T) (H T=none) (H'=upd H T (.tup [x,y])) (∀xs,aX K H a xs->xs[i]?=some x) (∀ys,aB K H b ys->ys[i]?=some y),
  λi H=>dB λ(xs ys:List V)=>fN (aX K H a xs) (aB K H b ys) (xs.length<=i)⟩
def XX{P:af}{w:ah}{K:aa}{elts:List Expr}{kk:Nat}{gx:Pos}{a b z TI TO i1 i2:Addr}(D:ZipApart z TI TO i1 i2 a b):
  Turn P w K (.Tuple elts kk gx) (Ln K a b) [z,TI,TO,i1,i2] z (λi h=>IsZip h z TI TO .none/\IsPair h TI (.ref i1) (.ref i2)/\(dB λx y=>IsPair h TO x y)/\h.IsTupleIter i1 a i/\h.IsListIter i2 b i)where
 mem:=by simp
 obj:=λi h st c hc=>by obtain⟨hz,ff,⟨x,y,fZ⟩,⟨o1,e1,_,d1⟩,⟨o2,e2,_,d2⟩⟩:=st;grind
 keep:=λi h h' st k=>by obtain⟨hz,ff,⟨x,y,fZ⟩,h1,h2⟩:=st;exact⟨k z (by simp) _ hz,k TI (by simp) _ ff,⟨x,y,k TO (by simp) _ fZ⟩,nM h1 λo q=>k i1 (by simp) o q,h2.at λo q=>k i2 (by simp) o q⟩
 item:=by
  intro X hP hw hK hc i pins s σ H E I hf st hg;subst hP hw hK;obtain⟨hz,ff,⟨x0,y0,fZ⟩,h1,h2⟩:=st;obtain⟨xs,ys,x,y,jD,jE,hx,hy⟩:=hg;obtain⟨its,rv,p,_⟩:=I.tuple jD;obtain⟨gS,o_,p2,_⟩:=I.list jE;obtain⟨u,hu,ru⟩:=rv.get hx;obtain⟨u2,wj,wk⟩:=o_.get hy;have zl:z<s.heap.objs.size:=bK hz;have hT:s.TypeIs (.ref z) "zip":=⟨_,hz,rfl⟩;unfold pyNext;refine au (qA (l5 (name:=Str.ofString "__next__") hT F.slot_zip_next (gY F.slot_zip_next hT F.entry_zip_next
   (XG D hz ff fZ h1 h2 (xs:=its.toArray) p p2.isList (x:=u) (y:=u2) (by simpa using hu) (by simpa using wj) λh' z' Dn iO kh hT hsz hk=>aI ?_) (F.args_zip_next_1 _))))
  refine⟨_,rfl,wpAny_letOwnedTupleGo_zip (s:={s with heap:=h'}) z' λfC Dq sb=>?_⟩;have nJ:fC.get? s.heap.objs.size=some {cls:=.type "tuple",data:=.seq #[u,u2]}:=(sb.2 _ (kS zl)).trans hT;have new:cP X.prog X.w (upd H s.heap.objs.size (.tup [x,y])) fC s.heap.objs.size (.tup [x,y]):=⟨iq,[u,u2],.cons ru (.cons wk .nil),⟨_,nJ,rfl,_,rfl⟩⟩;have I1:Inv X pins σ (upd H s.heap.objs.size (.tup [x,y])) {s with heap:=fC}:=
   I.wD (t':=s.toks) (ch:=[z,TI,TO,i1,i2]) (λc o hb q=>(sb.2 c (λq'=>hb (by simp[q']))).trans (hk c o (λq'=>hb (by simp[q'])) (λq'=>hb (by simp[q'])) (λq'=>hb (by simp[q'])) (λq'=>hb (by simp[q'])) q)) hf (aW _) new
  refine⟨.ref s.heap.objs.size,_,I1,rfl,⟨_,x,y,rfl,I.aK.fresh (aW _),rfl,(λl hl=>by rw[I.zm hl jD];exact hx),λl hl=>by rw[I.vY hl jE];exact hy⟩,⟨Dq,(sb.2 _ D.TIz).trans (hk _ _ D.TIz D.TITO D.TIi1 D.TIi2 ff),⟨u,u2,(sb.2 _ D.TOz).trans Dn⟩,nM iO λo q=>(sb.2 _ D.i1z).trans q,kh.at λo q=>(sb.2 _ D.i2z).trans q⟩,λc rH=>?_⟩;have bq:c<s.heap.objs.size:=by
   have Lo:=rH;simp only[be,fL,fM]at Lo;rcases Lo with rfl|rfl|rfl|rfl|rfl
   ·exact zl
   ·exact bK ff
   ·exact bK fZ
   ·obtain⟨_,e1,_⟩:=h1;exact bK e1
   obtain⟨_,e2,_⟩:=h2;exact bK e2
  rw[ay (dP bq)];exact(hf c rH).1
 done:=by
  intro X hP hw hK hc i pins s σ H E I hf st hg;subst hP hw hK;obtain⟨hz,ff,⟨x0,y0,fZ⟩,h1,h2⟩:=st;obtain⟨xs,ys,jD,jE,nL⟩:=hg;obtain⟨its,rv,p,_⟩:=I.tuple jD;obtain⟨gS,o_,p2,_⟩:=I.list jE;have l1:=rv.length;have hT:s.TypeIs (.ref z) "zip":=⟨_,hz,rfl⟩;unfold pyNext;refine au (qA (l5 (name:=Str.ofString "__next__") hT F.slot_zip_next (gY F.slot_zip_next hT F.entry_zip_next
   (XQ (I.ok.hd hc) D hz ff fZ h1 h2 (xs:=its.toArray) p p2.isList (by simp;simp_all) λh' e hk he=>?_) (F.args_zip_next_1 _))))
  obtain⟨o,ho,XY⟩:=he;refine au (qC (T:="StopIteration") (b:=true) ⟨o,ho,XY⟩ isSubtype_stop ?_);exact aI ⟨rfl,I.Ke (t':=s.toks) (ch:=[z,TI,TO,i1,i2]) (λc o hb q=>hk c o (λq'=>hb (by simp[q'])) (λq'=>hb (by simp[q'])) (λq'=>hb (by simp[q'])) (λq'=>hb (by simp[q'])) q) hf⟩
 self:=λA i s Q E st h=>wpAny_pyIter_zip st.1 h
def XZ(n a b:Nat)(ha:a<n)(hb:b<n):ZipApart (n+4) (n+2) (n+3) n (n+1) a b:=by constructor<;>(intro(q:@Eq Nat _ _);omega)
inductive Lp(K:aa)(R:It->Hp->Prop)(vs:List V)(H1:Hp):Prop
 |mk:∀a b xs ys,vs=[.ref a,.ref b]->aX K H1 a xs->aB K H1 b ys->R (Ln K a b) H1->Lp K R vs H1
def X0(K:aa)(ta:TA):TI:=λσ H R=>ta σ H λvs H1=>Lp K R vs H1
def X1{X:Cx}{e e2:Expr}{ta:TA}{p pos gx:Pos}{elts:List Expr}{kk:Nat}(hg:Gl X "zip")(hm:X.mg "zip"=none)(ha:PA X [e,e2] ta)
  (hs:starEach [e,e2] X.env=(false,eval e X.env)::starEach [e2] X.env:=by rfl)(eG:(backTo pos (starEach [e2] X.env)).any (·.1)=false:=by rfl):PI X (.Tuple elts kk gx) (.Call (.Name "zip" p) [e,e2] [] pos) (X0 X.K ta):=by
 intro pins s σ H R I h;refine Call_ (ju I hg hm Kn (mX (aM (ha pos pins s σ H _ I h) λus s1 ⟨vs,H1,I1,r1,q1⟩=>?_) hs eG));obtain⟨a,b,xs,ys,ex,jD,jE,q⟩:=q1;subst ex;obtain⟨u,u',rfl,ru,X3⟩:=vals2 r1;cases ru;cases X3;obtain⟨its,rv,p',_⟩:=I1.tuple jD;obtain⟨gS,o_,p2,_⟩:=I1.list jE;refine XW (xs:=its.toArray) p' p2.isList λh' hz ff fZ h1 h2 hsz hk=>wpAny_pyIter_zip hz ?_;have I2:Inv X pins σ H1 {s1 with heap:=h'}:=I1.kept (t':=s1.toks) hk;have la:a<s1.heap.objs.size:=by obtain⟨o,ho,_⟩:=p';exact bK ho
 have lb:b<s1.heap.objs.size:=by obtain⟨o,ho,_⟩:=p2.isList;exact bK ho
 have D:ZipApart (s1.heap.objs.size+4) (s1.heap.objs.size+2) (s1.heap.objs.size+3) s1.heap.objs.size (s1.heap.objs.size+1) a b:=XZ s1.heap.objs.size a b la lb;refine⟨s1.heap.objs.size+4,[s1.heap.objs.size+4,s1.heap.objs.size+2,s1.heap.objs.size+3,s1.heap.objs.size,s1.heap.objs.size+1],_,_,H1,rfl,I2,XX D,⟨hz,ff,⟨_,_,fZ⟩,h1,h2⟩,λc hc=>?_,q⟩;have hle:s1.heap.objs.size<=c:=by
  simp only[be,fL,fM]at hc;rcases hc with rfl|rfl|rfl|rfl|rfl
  ·simp[*]
  ·simp[*]
  ·simp[*]
  ·exact aW _
  simp[*]
 exact I1.nu hle (I1.aK.fresh hle)
def fg{α:Type}(ix:List Nat)(xs:List α):List α:=ix.filterMap λi=>xs[i]?
theorem Lq(r:aY xs us):∀ix:List Nat,aY (fg ix xs) (fg ix us)
 |[]=>.nil
 |i::ix=>by
  have ih:=Lq r ix;unfold fg at ih⊢;rw[tG,tG];cases q:xs[i]? with
  |none=>rw[r.none_of q];exact ih
  |some x=>obtain⟨u,hu,ru⟩:=r.get q;rw[hu];exact .cons ru ih
def gg(lo:Option Int)(c:Int)(n:Nat):List Nat:=sliceRange (sliceBounds lo none (some c) n).1 (sliceBounds lo none (some c) n).2.1 (sliceBounds lo none (some c) n).2.2
inductive Lr(K:aa)(Q:VK)(x:V)(l:Option Int)(st:Option Int)(H3:Hp):Prop
 |mk:∀a xs c,x= .ref a->aB K H3 a xs->st=some c->c≠0->(∀p,H3 p=none->Q (.ref p) (upd H3 p (.lst (fg (gg l c xs.length) xs))))->Lr K Q x l st H3
def X4(K:aa)(te:TE)(tl ts:TO):TE:=λσ H Q=>te σ H λx H1=>tl σ H1 λl H2=>ts σ H2 λst H3=>Lr K Q x l st H3
def Ls{X:Cx}{e:Expr}{te:TE}{lo:Option Expr}{st:Expr}{tl ts:TO}{pos p2:Pos}(he:PE X e te)(hl:PO X lo tl)(hs:PO X (some st) ts):PE X (.Subscript e (.Slice lo none (some st) p2) pos) (X4 X.K te tl ts):=by
 intro pins s σ H Q I h;refine Subscript_ (aM (he pins s σ H _ I h) λv s1 ⟨x,H1,I1,r1,q1⟩=>?_);refine wpAny_Slice (aM (hl pins s1 σ H1 _ I1 q1) λvl s2 ⟨l,H2,I2,pl,q2⟩=>?_);rw[evalPart_none];refine aI (aM (hs pins s2 σ H2 _ I2 q2) λvs s3 ⟨u,H3,I3,pu,q3⟩=>?_);obtain⟨a,xs,c,ex,hx,ec,c0,q⟩:=q3;subst ex ec;cases r1;have I4:Inv X pins σ H3 {s3 with heap:=s3.heap.push {cls:=.type "slice",data:=.fields #[vl,.none,vs]}}:=I3.kept λb ob q=>bI _ q;obtain⟨its,r,ht,hz⟩:=I4.list hx;have hlen:=r.length;refine tail_any ht.isList.typeIs slot_list_getitem.lookup ?_ (by with_unfolding_all rfl);refine wpAny_getItem_list_slice ht.isList (Heap.IsSliceOf.new ..) pl .none pu (by simpa using c0) ?_ (by simp_all);have e1:slicePick its.toArray l none (some c)=(fg (gg l c xs.length) its).toArray:=by unfold slicePick gg fg;simp[*]
 rw[e1];refine⟨.ref (s3.heap.push {cls:=.type "slice",data:=.fields #[vl,.none,vs]}).objs.size,_,I4.laid (λb ob q=>bI _ q) (aW _) ?_,rfl,q _ (I4.aK.fresh (aW _))⟩;have rs:=Lq r (gg l c xs.length);have lz:(fg (gg l c xs.length) its).length<=its.length:=by have:=slicePick_size_le its.toArray l none (some c);rw[e1]at this;assumption
 exact⟨by rw[rs.length];lia,_,0,rs,cv _ rfl⟩
theorem DE{α:Type}(f:Nat->Nat)(xs:List α):∀n:Nat,(∀k,k<n->f k<xs.length)->(fg ((List.range n).map f) xs).length=n/\∀i,i<n->(fg ((List.range n).map f) xs)[i]?=xs[f i]?
 |0,_=>⟨rfl,λi h=>by simp_all⟩
 |n+1,h=>by
  obtain⟨h1,h2⟩:=DE f xs n λk hk=>h k (by lia)
  have e:fg ((List.range (n+1)).map f) xs=fg ((List.range n).map f) xs++[xs[f n]'(h n (by simp[*]))]:=by unfold fg;rw[List.range_succ,ft,B3,cA,vA,tG,List.filterMap_nil,cp (h n (by simp[*]))]
  rw[e];refine⟨by simp[*],λi hi=>?_⟩;by_cases q:i<n
  ·rw[tI (by simp[*])];exact h2 i q
  have:i=n:=by lia
  simp[*]
def X5{α:Type}(xs:List α):(fg (gg none 2 xs.length) xs).length=(xs.length+1) /2/\∀i,i<(xs.length+1) /2->(fg (gg none 2 xs.length) xs)[i]?=xs[2*i]?:=by
 have e:gg none 2 xs.length=(List.range ((xs.length+1) /2)).map λk=>2*k:=by
  show(List.range (if(2:Int)>0 then(if(0:Int)<(xs.length:Int)then((xs.length:Int) - 0+2 - 1) /2 else 0)else _).toNat).map _=_;rw[aD (by decide)];have ec:(if(0:Int)<(xs.length:Int)then((xs.length:Int) - 0+2 - 1) /2 else 0).toNat=(xs.length+1) /2:=by split<;>lia
  rw[ec];refine m9 λk _=>?_;show((0:Int)+2*(k:Int)).toNat=_;lia
 rw[e];exact DE _ xs _ λk hk=>by lia
def X6{α:Type}(xs:List α):(fg (gg (some 1) 2 xs.length) xs).length=xs.length /2/\∀i,i<xs.length /2->(fg (gg (some 1) 2 xs.length) xs)[i]?=xs[2*i+1]?:=by
 have e:gg (some 1) 2 xs.length=(List.range (xs.length /2)).map λk=>2*k+1:=by
  unfold gg sliceRange;have eb:(sliceBounds (some 1) none (some 2) xs.length).1=max 0 (min 1 (xs.length:Int)):=rfl;rw[eb];show(List.range (if(2:Int)>0 then(if max 0 (min 1 (xs.length:Int))<(xs.length:Int)then((xs.length:Int) - max 0 (min 1 (xs.length:Int))+2 - 1) /2 else 0)else _).toNat).map _=_;rw[aD (by decide)];have ec:(if max 0 (min 1 (xs.length:Int))<(xs.length:Int)then((xs.length:Int) - max 0 (min 1 (xs.length:Int))+2 - 1) /2 else 0).toNat=xs.length /2:=by split<;>lia
  rw[ec];refine m9 λk hk=>?_;have:=List.mem_range.mp hk;show(max 0 (min 1 (xs.length:Int))+2*(k:Int)).toNat=_;grind
 rw[e];exact DE _ xs _ λk hk=>by lia
def X7(a d:ao):argsOk "max" ⟨[a],[("default",d)]⟩:=by unfold argsOk;kernel_rfl
section
variable{prog:af}{w:ah}{A:ai}{R:Result->ae->Prop}{I:Addr}{fp wr:List Addr}{n:Nat}{P:Nat->ao->Prop}{St:Nat->Heap->Prop}{kw:List (Str×ao)}
def X8(W:Walks prog w A.in1 I fp wr n P St)(bt:Nat->Nat->Bool)(Ag:CmpOf prog w A.in1 .Gt P bt)(S:Addr)(mG:S∉fp):
  ∀(k j:Nat) (s:ae) (vb:ao) (c:Nat),n -(j+1)=k->j+1<=n->St (j+1) s.heap->P (argBest bt j) vb->s.heap.get? S=some {cls:=.type "list",dict:=none,data:=.seq #[vb,vb] c,slots:=#[]}->
   (∀v h' tk,P (argBest bt (n - 1)) v->(∀b o,b∉wr->b≠S->s.heap.get? b=some o->h'.get? b=some o)->R (.ok (.ret v)) {s with heap:=h',toks:=tk})->codeAny (model prog w) A (.builtin "max.loop" ⟨[.ref I,.none,.ref S],kw⟩) R s:=by
 have Ah:=λh=>mG (W.sub _ h);have iy:(toString "max"++toString ".loop":String)="max.loop":=by decide
 intro k;induction k with
 |zero=>
  intro j s vb c hk hj b4 Ai hS hR;have lF:j+1=n:=by grind
  refine codeAny_builtin F.entry_max_loop ?_;rw[Hc tP _];refine au (l9 hS rfl ?_);refine au (B4 (W.done s _ _ (lF▸b4) λh' tk dc=>?_));have pj:=dc S _ Ah hS;refine au ?_;refine wpAny_updateSeq pj rfl (au (qD (aI ?_)));exact hR vb _ tk (by rw[<-lF];exact Ai) λb o mH nN e=>(vx _ _ (aO nN)).trans (dc b o mH e)
 |succ k ih=>
  intro j s vb c hk hj b4 Ai hS hR;have bq:j+1<n:=by omega
  refine codeAny_builtin F.entry_max_loop ?_;rw[Hc tP _];refine au (l9 hS rfl ?_);refine au (B4 (W.item (j+1) s _ _ bq b4 λv h' tk hP Aj dc=>?_));have pj:=dc S _ Ah hS;show wpAny _ A.in1 (tryCatch (holding [v,v] (richCompare .Gt v vb>>=_)) _>>=_) _ _ _;refine au (B4 (jn (au (Ag (j+1) (argBest bt j) v vb _ _ _ hP Ai ?_))));refine au (jn (lZ ?_));refine au (qD (aI ?_));cases hb:bt (j+1) (argBest bt j)with
  |true=>simp only[gE];refine au ?_;refine wpAny_updateSeq pj rfl (au (qD ?_));rw[iy];refine aI ⟨B5 tP _,ih (j+1) _ v _ (by grind) bq (W.frame _ _ _ Aj λb DF o e=>(vx _ _ (λh:S=b=>mG (by rw[h];exact DF))).trans e) (by simp only[argBest,hb,gE];exact hP) (vv _ pj rfl) λv' fC wQ dw wR=>?_⟩;exact hR v' fC wQ dw λb o mH nN e=>wR b o mH nN ((vx _ _ (aO nN)).trans (dc b o mH e))
  |false=>simp only[iW,fK];refine au (qD ?_);rw[iy];refine aI ⟨B5 tP _,ih (j+1) _ vb c (by grind) bq Aj (by simp only[argBest,hb,iW,fK];exact Ai) pj λv' fC wQ dw wR=>?_⟩;exact hR v' fC wQ dw λb o mH nN e=>wR b o mH nN (dc b o mH e)
def X9(W:Walks prog w A.in1 I fp wr n P St)(bt:Nat->Nat->Bool)(Ag:CmpOf prog w A.in1 .Gt P bt)(S:Addr)(mG:S∉fp)(hn:0<n)(b4:St 0 s.heap)(hS:s.heap.get? S=some {cls:=.type "list",dict:=none,data:=.seq #[] c,slots:=#[]})
  (hR:∀v h' tk,P (argBest bt (n - 1)) v->(∀b o,b∉wr->b≠S->s.heap.get? b=some o->h'.get? b=some o)->R (.ok (.ret v)) {s with heap:=h',toks:=tk}):codeAny (model prog w) A (.builtin "max.loop" ⟨[.ref I,.none,.ref S],kw⟩) R s:=by
 have Ah:=λh=>mG (W.sub _ h);have iy:(toString "max"++toString ".loop":String)="max.loop":=by decide
 refine codeAny_builtin F.entry_max_loop ?_;rw[Hc tP _];refine au (l9 hS rfl ?_);refine au (B4 (W.item 0 s _ _ hn b4 λv h' tk hP Aj dc=>?_));have pj:=dc S _ Ah hS;show wpAny _ A.in1 (updateSeq S (λ_=>#[v,v])>>=_) _ _ _;refine au ?_;refine wpAny_updateSeq pj rfl ?_;rw[iy];refine aI ⟨B5 tP _,X8 W bt Ag S mG _ 0 _ v _ rfl hn (W.frame _ _ _ Aj λb DF o e=>(vx _ _ (λh:S=b=>mG (by rw[h];exact DF))).trans e) hP (vv _ pj rfl) λv' fC wQ dw wR=>?_⟩;exact hR v' fC wQ dw λb o mH nN e=>wR b o mH nN ((vx _ _ (aO nN)).trans (dc b o mH e))
theorem X_(W:Walks prog w A.in1 I fp wr n P St)(hn:n=0)(S:Addr)(mG:S∉fp)(b4:St 0 s.heap)(hS:s.heap.get? S=some {cls:=.type "list",dict:=none,data:=.seq #[] c,slots:=#[]})
  (hR:∀h' tk,(∀b o,b∉wr->b≠S->s.heap.get? b=some o->h'.get? b=some o)->R (.ok (.ret d)) {s with heap:=h',toks:=tk}):codeAny (model prog w) A (.builtin "max.loop" ⟨[.ref I,.none,.ref S],[(x,d)]⟩) R s:=by
 refine codeAny_builtin F.entry_max_loop ?_;rw[Hc tP _];refine au (l9 hS rfl ?_);refine au (B4 (W.done s _ _ (by rw[hn];exact b4) λh' tk dc=>?_));refine au (oM ?_);exact aI (hR h' tk λb o hb _ e=>dc b o hb e)
end
def Lu{prog:af}{w:ah}{A:ai}{E:ao->ae->Prop}{s:ae}{id:String}{b:Builtin}{args:List ao}{kw:List (Str×ao)}{Q:ao->ae->Prop}(hk:builtinKind id=none)(hp:plainId id=true)(hb:entryFor table id=some b)(ha:argsOk id ⟨args,kw⟩)
  (hc:wpAny (model prog w) A.in1 (b ⟨args,kw⟩) (λfin s'=>match fin with
   | .done f=>(match(Except.ok f:Result)with| .ok (.ret v)=>Q v s'| .ok _=>False| .error e=>E e s')
   | .again c'=>c'.quiet=true/\codeAny (model prog w) A c' (λr s'=>match r with| .ok (.ret v)=>Q v s'| .ok _=>False| .error e=>E e s') s') E s):wpAny (model prog w) A (call (.builtin id) args kw) Q E s:=by
 refine wpAny_call (codeAny_call_builtin hp hb ?_);simp only[checkBuiltinCall,hk];cases Ak:Manifest.signature? id with
 |none=>exact aI hc
 |some sig=>
  have Di:Bind.checkArgs id sig ⟨args,kw⟩=pure ():=by simpa only[argsOk,Ak]using ha
  simp only[Di];exact aI hc
section
variable{prog:af}{w:ah}{A:ai}{E:ao->ae->Prop}{s:ae}{l:Addr}{its:List ao}{ns:List Int}{Q:ao->ae->Prop}
def Ya(hh:A.handled=none)(hl:s.heap.IsList l its.toArray)(hi:IntsAre its ns)
  (h0:ns=[]->∀h' tk,(∀b o,s.heap.get? b=some o->h'.get? b=some o)->Q d {s with heap:=h',toks:=tk})
  (h:∀h' tk M t',(∀b o,s.heap.get? b=some o->h'.get? b=some o)->M∈ns->(∀a,a∈ns->a<=M)->Q (.int M t') {s with heap:=h',toks:=tk}):wpAny (model prog w) A (call (.builtin "max") [.ref l] [("default",d)]) Q E s:=by
 obtain⟨xs,e⟩:=hi.allInts.items;have hn:numsOf (intItems xs).toList=ns:=by rw[<-e];exact hi.numsOf
 rw[nums_intItems]at hn;subst hn;rw[e]at hl;have iy:(toString "max"++toString ".loop":String)="max.loop":=by decide
 refine Lu F.kind_max F.plain_max F.entry_max (X7 _ _) ?_;refine au (mZ (show Builtin.Builtins.bindParams "max" ["key","default"] 0 ⟨[],[("default",d)]⟩=pure [none,some d] from by kernel_rfl) ?_);refine au (aI ?_);refine au (iter_intList hl λs2 e st o6 Yb=>?_);subst e;refine au (ip ?_);rw[iy];have W:=Walks.list (prog:=prog) (w:=w) (A:=A.in1) hh s.heap.objs.size l Yb (intItems xs);have mG:=λhm=>mW _ (o6 _ hm);refine aI ⟨B5 tP _,?_⟩;have kp:∀{h':Heap},(∀b o,b∉[s.heap.objs.size]->b≠(s.heap.push {cls:=.type "list_iterator",data:=.fields #[.ref l,.int 0 0]}).objs.size->((s.heap.push {cls:=.type "list_iterator",data:=.fields #[.ref l,.int 0 0]}).push {cls:=.type "list",data:=.seq #[]}).get? b=some o->h'.get? b=some o)->∀b o,s.heap.get? b=some o->h'.get? b=some o:=by
  intro h' hk b o e;have lt:=bK e;refine hk b o (λq=>?_) (λq=>?_) (bI _ (bI _ e))
  ·rw[dA.mp q]at lt;exact mW _ lt
  rw[q,ij]at lt;lia
 by_cases hz:0<xs.size
 ·refine X9 W _ (CmpOf.ints_gt (numAt xs) (λ_ _=>intItems_at)) _ mG (by simpa[intItems]using hz) (W.frame _ _ _ st λb _ o e=>bI _ e) (cv _ rfl) λv h' tk hP hk=>?_
  have dw:(intItems xs)[argBest (λi j=>decide (numAt xs i>numAt xs j)) (xs.size - 1)]?=some v:=by simpa[intItems]using hP
  obtain⟨t,rfl⟩:=intItems_at dw;obtain⟨h1,h2⟩:=argBest_gt (numAt xs) (xs.size - 1);refine h h' tk _ t (kp hk) ?_ λa ha=>?_
  ·rw[numAt_eq];exact PySem.getD_mem (by rw[aT,qu];omega)
  obtain⟨j,hj,rfl⟩:=mem_getD ha;rw[aT,qu]at hj;rw[<-numAt_eq];exact h2 j (by lia)
 have ux:xs=#[]:=Array.eq_empty_of_size_eq_zero (by simp_all);subst ux;exact X_ W (by simp[intItems]) _ mG (W.frame _ _ _ st λb _ o e=>bI _ e) (cv _ rfl) λh' tk hk=>h0 rfl h' tk (kp hk)
end
def Yc(K:aa)(ta td:TE):TE:=λσ H Q=>ta σ H λx H1=>td σ H1 λy H2=>dB λ(a:Addr) (ns:List Int)=>gR (x= .ref a) (aB K H2 a (ns.map V.int)) (ns=[]->Q y H2) (∀m,m∈ns->(∀z,z∈ns->z<=m)->Q (.int m) H2)
def Ye(hc:X.calm=true)(hg:Gl X "max")(hm:X.mg "max"=none)(hv:bootBuiltins "max"=some (.builtin "max"))(ha:PE X e ta)(hd:PE X d td)
  (he:starEach [e] X.env=[(false,eval e X.env)]:=by rfl):PE X (.Call (.Name "max" p) [e] [⟨some "default",d,kpos⟩] pos) (Yc X.K ta td):=by
 intro pins s σ H Q I h;refine yV (ju I hg hm hv ?_ (by decide) (by decide));refine callWith_kw ?_ (by rw[he];rfl) (by rw[he];rfl);rw[he];refine kT (aM (ha pins s σ H _ I h) λu s1 ⟨x,H1,I1,r1,q1⟩=>oJ ?_);have hk:PK X [⟨some "default",d,kpos⟩] (CI td qS):=UR hd UQ;refine aM (hk pos pins s1 σ H1 (λys H2=>match ys with
  |[y]=>dB λ(a:Addr) (ns:List Int)=>gR (x= .ref a) (aB X.K H2 a (ns.map V.int)) (ns=[]->Q y H2) (∀m,m∈ns->(∀z,z∈ns->z<=m)->Q (.int m) H2)
  |_=>False) I1 q1) λks s2 ⟨ys,H2,I2,r2,q2⟩=>?_
 match ys,q2 with
 |[y],q2=>obtain⟨a,ns,ex,hs,q0,q⟩:=q2;subst ex;cases r1;obtain⟨k,rfl,rk⟩:=vals1 r2;obtain⟨its,rv,hl,_⟩:=I2.list hs;exact Ya (I2.ok.hd hc) hl.isList rv.ints (λe h' tk hk=>⟨y,H2,I2.kept hk,rk,q0 e⟩) λh' tk m t' hk h1 h2=>⟨.int _,H2,I2.kept hk,⟨_,rfl⟩,q m h1 h2⟩
structure Ik(prog:af)(w:ah)(K:Type)[DecidableEq K]where
 is:Heap->K->ao->Prop
 hash:K->Int
 draws:K->Nat
 iz:Nat
 inj:∀{h:Heap} {v:ao} {x y:K},is h x v->is h y v->x=y
 keeps:∀{h h':Heap} {k:K} {v:ao} {d:Addr} {o:Obj} {es ep},is h k v->h.get? d=some o->o.data= .dict es ep->Heap.SameBut d h h'->is h' k v
 pyHash:∀{A:ai} {E:ao->ae->Prop} {s:ae} {k:K} {v:ao} {Q:Int->ae->Prop},A.units+iz<cLine->is s.heap k v->Q (hash k) {s with toks:=s.toks+draws k}->wpAny (model prog w) A (PySem.pyHash v) Q E s
 eqBool:∀{A:ai} {E:ao->ae->Prop} {s:ae} {x y:K} {u v:ao} {Q:Bool->ae->Prop},A.units+iz<cLine->is s.heap x u->is s.heap y v->Q (decide (x=y)) s->wpAny (model prog w) A (PySem.eqBool u v) Q E s
 quiet:∀{A:ai} {E:ao->ae->Prop} {s:ae} {k:K} {v:ao} {Q:Bool->ae->Prop} (n:Nat),iz<=n->is s.heap k v->Q true s->wpAny (model prog w) A (eqIsQuiet n v) Q E s
section
variable{prog:af}{w:ah}{K:Type}[DecidableEq K](ik:Ik prog w K)
def hX(h:Heap)(ks:List K)(a:Addr):Prop:=∃o its n,h.get? a=some o/\o.cls= .type "tuple"/\o.data= .seq its n/\Paired (ik.is h) ks its.toList
variable{ik}
def uz{s:ae}{ks:List K}{a:Addr}(x:hX ik s.heap ks a):s.TypeIs (.ref a) "tuple":=let⟨o,_,_,ho,hc,_⟩:=x;⟨o,ho,hc⟩
theorem Lv:∀{x y:List K} {vs:List ao},Paired (ik.is h) x vs->Paired (ik.is h) y vs->x=y
 |_,_,_,.nil,.nil=>rfl
 |_,_,_,.cons r t,.cons r' t'=>by rw[ik.inj r r',Lv t t']
theorem Al(hx:hX ik h x a)(hy:hX ik h y a):x=y:=by obtain⟨o,its,n,ho,_,hd,hi⟩:=hx;obtain⟨o',its',n',g8,_,gu,wU⟩:=hy;rw[ho]at g8;cases g8;rw[hd]at gu;injection gu with h1 _;subst h1;exact Lv hi wU
theorem DG{es ep}(x:hX ik h ks a)(ho:h.get? d=some o)(hd:o.data= .dict es ep)(hs:Heap.SameBut d h h'):hX ik h' ks a:=by
 obtain⟨o',its,n,g8,hc,gu,hi⟩:=x;have bO:a≠d:=by rintro rfl;simp_all
 exact⟨o',its,n,(hs.2 a bO).trans g8,hc,gu,Paired.cj hi λk v r=>ik.keeps r ho hd hs⟩
def kx(ik:Ik prog w K):List K->Nat
 |[]=>0
 |k::r=>ik.draws k+kx ik r
theorem Lw(k:K):∀l:List K,kx ik (l++[k])=kx ik l+ik.draws k
 |[]=>by simp[kx]
 |x::l=>by simp[kx,Lw k l];lia
def wV(ik:Ik prog w K)(ks:List K):Int:=reduceHash (Builtin.Tuple.tupleHashOf (ks.map ik.hash))
variable{A:ai}{E:ao->ae->Prop}{s:ae}
def DH{ks:List K}{a:Addr}{Q:Int->ae->Prop}(hu:A.units+(ik.iz+1)<cLine)(hk:hX ik s.heap ks a)(h:Q (wV ik ks) {s with toks:=s.toks+(kx ik ks+1)}):wpAny (model prog w) A (pyHash (.ref a)) Q E s:=by
 have hT:=uz hk;obtain⟨o,its,n,ho,_,hd,hi⟩:=hk;unfold pyHash;first|unfold pyHashByItsType|skip
 first|refine au (wpAny_cRoomFor_or (.inr (by lia)) ?_)|skip
 refine au (l8 hT Hd.lookup ?_);show wpAny _ _ (if(some (Value.builtin "tuple.__hash__")==some Value.none)=true then _ else _) Q E s;rw[az (by simp[*])];refine au (l8 hT Hd.lookup ?_);show wpAny _ _ (callSpecialIfBoundUnlessNone? (.ref a) "__hash__" _>>=_) Q E s;refine au (wpAny_callSpecialIfBoundUnlessNone?_slot hT Hd (gY Hd hT F.entry_tuple_hash ?_ (F.args_tuple_hash_1 _)));show wpAny _ _ (Builtin.Tuple.tupleItemsOf (.ref a)>>=_) _ _ s;refine au (wpAny_tupleItemsOf ho hd ?_);refine au ?_;rw[<-Array.forIn_toList];refine B6 _ (λrest (b:Array Int) s'=>dB λdone left=>gR (ks=done++left) (Paired (ik.is s.heap) left rest) (b.toList=done.map ik.hash) (s'={s with toks:=s.toks+kx ik done})) _ ?_ ?_ _ _ ⟨[],ks,rfl,hi,rfl,rfl⟩
 ·rintro x rest b s' ⟨done,left,rfl,hl,hb,rfl⟩
  cases hl with
  |@cons k _ Lx _ h1 qM=>
   refine au (ik.pyHash (by show A.units+1+ik.iz<cLine;lia) h1 ?_);have fin:dB λd2 l2=>gR (done++k::Lx=d2++l2) (Paired (ik.is s.heap) l2 rest) ((b.push (ik.hash k)).toList=d2.map ik.hash) (({s with toks:=s.toks+kx ik done+ik.draws k}:ae)={s with toks:=s.toks+kx ik d2}):=
    ⟨done++[k],Lx,by simp,qM,by simp[hb],by rw[Lw,Nat.add_assoc]⟩
   first
    |exact aI fin
    |exact au (aI (aI fin))
 rintro b s' ⟨done,left,rfl,hl,hb,rfl⟩;cases hl;rw[kU]at h;show wpAny _ _ (retInt (Builtin.Tuple.tupleHashOf b.toList)) _ _ _;rw[hb];refine wpAny_ret_mkInt ?_;show wpAny _ _ (if(decide (-(2:Int) ^ 63<=Builtin.Tuple.tupleHashOf (done.map ik.hash))&&decide (Builtin.Tuple.tupleHashOf (done.map ik.hash)<2 ^ 63))=true then _ else _) Q E _;unfold wV reduceHash at h;by_cases hr:(decide (-(2:Int) ^ 63<=Builtin.Tuple.tupleHashOf (done.map ik.hash))&&decide (Builtin.Tuple.tupleHashOf (done.map ik.hash)<2 ^ 63))=true
 ·rw[aD hr]at h⊢;exact aI (by assumption)
 rw[az hr]at h⊢;exact au (oM (aI (by assumption)))
def Yf{x y:List K}{a b:Addr}{P:Fin->ae->Prop}(hu:A.units+ik.iz<cLine)(hx:hX ik s.heap x a)(hy:hX ik s.heap y b)(h:P (.done (.ret (.bool (decide (x=y))))) s):wpAny (model prog w) A (Builtin.«tuple.__eq__» ⟨[.ref a,.ref b],[]⟩) P E s:=by
 have Yg:=uz hy;obtain⟨oa,xs,na,Yi,_,Yj,Yk⟩:=hx;obtain⟨ob,ys,nb,Yl,_,hU,Yo⟩:=hy;show wpAny _ _ (isInstance (.ref b) (.type "tuple")>>=_) _ _ s;refine au (qC Yg isSubtype_tuple_tuple ?_);simp only[y8,iW,fK];refine au (wpAny_tupleItemsOf Yi Yj ?_);refine au (wpAny_tupleItemsOf Yl hU ?_);refine au ?_;refine B6 _ (λrest r s'=>r.1=none/\s'=s/\k9 λx' y' wW wX=>ma (rest=List.zip wW wX) (Paired (ik.is s.heap) x' wW) (Paired (ik.is s.heap) y' wX) (decide (x'=y')=decide (x=y)) ((wW.length==wX.length)=(xs.size==ys.size))) _ ?_ ?_ _ _
  ⟨rfl,rfl,x,y,xs.toList,ys.toList,rfl,Yk,Yo,rfl,by simp⟩
 ·rintro⟨u,v⟩ rest r s' ⟨hr,rfl,x',y',wW,wX,hz,mF,mC,wY,hlen⟩
  cases mF with
  |nil=>simp at hz
  |@cons k1 u' Yp Yq h1 Yr=>
   cases mC with
   |nil=>simp at hz
   |@cons k2 v' Ys Yt h2 Yu=>
    simp only[List.zip_cons_cons,List.cons.injEq,Prod.mk.injEq]at hz;obtain⟨⟨rfl,rfl⟩,rfl⟩:=hz;refine au (ik.eqBool (x:=k1) (y:=k2) hu h1 h2 ?_);by_cases hk:k1=k2
    ·subst hk;rw[cq rfl];simp only[y8,iW,fK];refine aI ⟨rfl,rfl,Yp,Ys,Yq,Yt,rfl,Yr,Yu,?_,by simpa using hlen⟩;simp_all
    rw[b7 hk];simp only[Bool.not_false,gE];have hf:decide (x=y)=false:=by rw[<-wY];simp[hk]
    rw[hf]at h;exact au (aI (aI (aI h)))
 rintro⟨r1,r2⟩ s' ⟨hr,rfl,x',y',wW,wX,hz,mF,mC,wY,hlen⟩;simp only at hr;subst hr;refine aI ?_;have Yv:(xs.size==ys.size)=decide (x=y):=by
  rw[<-wY,<-hlen];cases mF with
  |nil=>
   cases mC with
   |nil=>simp
   |cons _ _=>simp
  |cons _ _=>
   cases mC with
   |nil=>simp
   |cons _ _=>simp at hz
 show P (.done (.ret (.bool (xs.size==ys.size)))) s';rw[Yv];exact h
def DI{x y:List K}{a b:Addr}{Q:Bool->ae->Prop}(hu:A.units+(ik.iz+1)<cLine)(hx:hX ik s.heap x a)(hy:hX ik s.heap y b)(h:Q (decide (x=y)) s):wpAny (model prog w) A (eqBool (.ref a) (.ref b)) Q E s:=by
 unfold eqBool;try with_reducible refine jn ?_
 show wpAny _ _ (if(Value.ref a==Value.ref b)=true then _ else _) Q E s;by_cases DJ:(Value.ref a==Value.ref b)=true
 ·rw[aD DJ]
  have e:a=b:=by have:=eq_of_beq DJ;injection this
  subst e;obtain rfl:=Al hx hy;exact au (oM (aI (by simpa using h)))
 rw[az DJ];exact au (wpAny_richCompare_same_room (op:=.Eq) (uz hx) (uz hy) F.slot_tuple_eq (gY F.slot_tuple_eq (uz hx) F.entry_tuple_eq (Yf (by show A.units+1+ik.iz<cLine;lia) hx hy ⟨_,rfl,(λe=>nomatch e),lZ h⟩) (F.args_tuple_eq_2 _ _)) (by lia))
def DK{ks:List K}{a:Addr}{Q:Bool->ae->Prop}(n:Nat)(hn:ik.iz+1<=n)(hk:hX ik s.heap ks a)(h:Q true s):wpAny (model prog w) A (eqIsQuiet n (.ref a)) Q E s:=by
 have hT:=uz hk;obtain⟨o,its,m,ho,_,hd,hi⟩:=hk;obtain⟨n,rfl⟩:∃n',n=n'+1:=⟨n - 1,by lia⟩;unfold eqIsQuiet;refine au (l8 hT F.slot_tuple_eq.lookup ?_);show wpAny _ _ (isInstance (.ref a) (.type "tuple")>>=_) _ _ s;refine au (qC hT isSubtype_tuple_tuple ?_);simp only[y8,iW,fK];refine au (l9 ho hd ?_);refine au ?_;show wpAny _ _ (forIn its _ _) _ _ s;rw[<-Array.forIn_toList];refine B6 _ (λrest r s'=>r.1=none/\s'=s/\∃l,Paired (ik.is s.heap) l rest) _ ?_ ?_ _ _ ⟨rfl,rfl,_,hi⟩
 ·rintro v rest r s' ⟨hr,rfl,l,hp⟩
  cases hp with
  |@cons k _ l' _ h1 h2=>refine au (ik.quiet n (by simp_all) h1 ?_);simp only[y8,iW,fK];exact aI ⟨rfl,rfl,l',h2⟩
 rintro⟨r1,r2⟩ s' ⟨hr,rfl,_⟩;simp only at hr;subst hr;exact aI h
end
def DL{prog:af}{w:ah}{K:Type}[DecidableEq K](ik:Ik prog w K)(hd:ik.iz<=6):HeapKind prog w (List K)where
 is:=hX ik
 hash:=wV ik
 draws:=λks=>kx ik ks+1
 room:=λA=>A.units+(ik.iz+1)<cLine
 inj:=λhx hy=>Al hx hy
 keeps:=λx ho hd hs=>DG x ho hd hs
 pyHash:=λhu hk h=>DH hu hk h
 eqBool:=λhu hx hy h=>DI hu hx hy h
 quiet:=λhk h=>DK 8 (by lia) hk h
def rN(prog:af)(w:ah):Ik prog w Key where
 is:=λ_ k v=>qH k v=true
 hash:=HD w
 draws:=λ_=>1
 iz:=0
 inj:=λa b=>(fA prog w).inj _ _ _ a b
 keeps:=λa _ _ _=>a
 pyHash:=λ_ hv h=>(fA prog w).pyHash hv h
 eqBool:=λ_ hu hv h=>(fA prog w).eqBool hu hv h
 quiet:=λn _ hv h=>by rw[He _ ((fA prog w).byValue _ _ hv)];exact aI h
def Ly(h:Q 0xFCA86420 {s with toks:=s.toks+1}):wpAny (model prog w) A (pyHash .none) Q E s:=by
 have hT:s.TypeIs .none "NoneType":=typeIs_none s;unfold pyHash;first|unfold pyHashByItsType|skip
 have hv:[Value.none].any Value.onHeap=false:=rfl;refine au ?_;rw[cRoomFor,az (by lia)];refine aI ?_;refine au (l8 hT Hf.lookup ?_);show wpAny _ _ (if(some (Value.builtin "NoneType.__hash__")==some Value.none)=true then _ else _) Q E s;rw[az (by simp[*])];refine au (l8 hT Hf.lookup ?_);show wpAny _ _ (callSpecialIfBoundUnlessNone? .none "__hash__" _>>=_) Q E s;refine au (wpAny_callSpecialIfBoundUnlessNone?_slot hT Hf (gY Hf hT F.entry_NoneType_hash (show wpAny _ _ (retInt 0xFCA86420) _ _ s from wpAny_ret_mkInt ?_) (F.args_NoneType_hash_1 _)));exact aI h
def Am{prog:af}{w:ah}{K:Type}[DecidableEq K](ik:Ik prog w K):Ik prog w (Option (List K))where
 is:=λh k v=>match k with
  |none=>v= .none
  |some ks=>∃a,v= .ref a/\hX ik h ks a
 hash:=λk=>match k with
  |none=>0xFCA86420
  |some ks=>wV ik ks
 draws:=λk=>match k with
  |none=>1
  |some ks=>kx ik ks+1
 iz:=ik.iz+1
 inj:=λ{h v x y} hx hy=>by
  cases x with
  |none=>
   cases y with
   |none=>rfl
   |some l=>obtain⟨a,e,_⟩:=hy;subst hx;cases e
  |some k=>
   obtain⟨a,rfl,h1⟩:=hx;cases y with
   |none=>cases hy
   |some l=>obtain⟨b,e,h2⟩:=hy;injection e with e;subst e;rw[Al h1 h2]
 keeps:=λ{h h' k v d o es ep} x ho hd hs=>by
  cases k with
  |none=>exact x
  |some ks=>obtain⟨a,e,h1⟩:=x;exact⟨a,e,DG h1 ho hd hs⟩
 pyHash:=λ{A E s k v Q} hu x h=>by
  cases k with
  |none=>subst x;exact Ly h
  |some ks=>obtain⟨a,rfl,h1⟩:=x;exact DH hu h1 h
 eqBool:=λ{A E s x y u v Q} hu hx hy h=>by
  cases x with
  |none=>
   subst hx;cases y with
   |none=>subst hy;exact SeqAt.EqAt.same _ _ _ _ _ (by simpa using h)
   |some l=>obtain⟨b,rfl,o,its,n,ho,hc,hd,_⟩:=hy;exact SeqAt.EqAt.none_tuple (l:=b) ⟨o,ho,hc,n,hd⟩ (by lia) _ _ _ _ (by simpa using h)
  |some k=>
   obtain⟨a,rfl,h1⟩:=hx;cases y with
   |none=>subst hy;obtain⟨o,its,n,ho,hc,hd,_⟩:=h1;exact SeqAt.EqAt.tuple_none (l:=a) ⟨o,ho,hc,n,hd⟩ (by lia) _ _ _ _ (by simpa using h)
   |some l=>obtain⟨b,rfl,h2⟩:=hy;refine DI hu h1 h2 ?_;have e:decide (k=l)=decide (some k=some l):=tQ.mpr (by simp);rw[e];exact h
 quiet:=λ{A E s k v Q} n hn x h=>by
  cases k with
  |none=>subst x;rw[He _ rfl];exact aI h
  |some ks=>obtain⟨a,rfl,h1⟩:=x;exact DK n hn h1 h
section
variable{prog:af}{w:ah}{K:Type}[DecidableEq K]{knd:HeapKind prog w K}{A:ai}{E:ao->ae->Prop}{s:ae}
def Yw{stored:List ao}{Q:Bool->ae->Prop}(b4:∀v∈stored,dB λk' b=>v= .ref b/\knd.is s.heap k' b)(h:Q false s):wpAny (model prog w) A (tableMayTell .none stored) Q E s:=by
 unfold tableMayTell;split
 ·exact aI h
 rw[He _ rfl];refine au (aI ?_);simp only[y8,iW,fK];refine au ?_;refine B6 _ (λrest r s'=>s'=s/\r=(none,())/\∀v∈rest,dB λk' b=>v= .ref b/\knd.is s.heap k' b) _ ?_ ?_ _ _ ⟨rfl,rfl,b4⟩
 ·rintro x rest r s' ⟨rfl,rfl,hr⟩;obtain⟨k',b,rfl,hb⟩:=hr x cT;refine au (knd.quiet hb ?_);simp only[y8,iW,fK];exact aI ⟨rfl,rfl,λv hv=>hr v (bU _ hv)⟩
 rintro r s' ⟨rfl,rfl,_⟩;exact aI h
def find_none{d:Addr}{o:Obj}{es ep}{xs:List (K×Addr×ao)}{hh:Int}{Q:Option Nat->ae->Prop}(hu:A.units<cLine)(ho:s.heap.get? d=some o)(hd:o.data= .dict es ep)(he:es.toList=xs.map (entryOfKey knd))(uA:∀x∈xs,knd.is s.heap x.1 x.2.1)
  (Yx:∀x∈xs,∃its,s.heap.IsTuple x.2.1 its)(h:Q none s):wpAny (model prog w) A (dictFind d .none hh) Q E s:=by
 have gb:∀e∈es,∃x∈xs,e=entryOfKey knd x:=by intro e lF;have:e∈xs.map (entryOfKey knd):=he▸Array.mem_toList_iff.mpr lF;obtain⟨x,hx,rfl⟩:=b_.mp this;exact⟨x,hx,rfl⟩
 have b4:∀v∈(placesWithHash es.size (λi=>es[i]?.map (·.hash)) hh).filterMap (λi=>es[i]?.map (·.key)),dB λk' b=>v= .ref b/\knd.is s.heap k' b:=by
  intro v hv;obtain⟨i,_,hi⟩:=BQ.mp hv;cases DM:es[i]? with
  |none=>rw[DM]at hi;cases hi
  |some e=>
   rw[DM]at hi;obtain rfl:e.key=v:=by simpa using hi
   obtain⟨x,hx,rfl⟩:=gb e (Array.mem_of_getElem? DM);exact⟨x.1,x.2.1,rfl,uA x hx⟩
 unfold dictFind;try with_reducible refine jn ?_
 refine au (qz ho hd ?_);dsimp only;by_cases cx:((Value.none::(placesWithHash es.size (λi=>es[i]?.map (·.hash)) hh).filterMap (λi=>es[i]?.map (·.key))).all carriedByValue)=true
 ·rw[aD cx]
  have Lz:(placesWithHash es.size (λi=>es[i]?.map (·.hash)) hh).filterMap (λi=>es[i]?.map (·.key))=[]:=by
   cases q:(placesWithHash es.size (λi=>es[i]?.map (·.hash)) hh).filterMap (λi=>es[i]?.map (·.key))with
   |nil=>rfl
   |cons v r=>rw[q]at cx b4;obtain⟨k',b,rfl,_⟩:=b4 v cT;simp[carriedByValue]at cx
  have eG:placesWithHash es.size (λi=>es[i]?.map (·.hash)) hh=[]:=by
   cases q:placesWithHash es.size (λi=>es[i]?.map (·.hash)) hh with
   |nil=>rfl
   |cons i r=>
    have hi:i∈placesWithHash es.size (λi=>es[i]?.map (·.hash)) hh:=by rw[q];exact cT
    unfold placesWithHash at hi;have bq:i<es.size:=List.mem_range.mp (tF.mp hi).1;rw[q,tG]at Lz;simp[bq]at Lz
  rw[eG];refine au ?_;exact aI (aI h)
 rw[az cx];by_cases LA:(((placesWithHash es.size (λi=>es[i]?.map (·.hash)) hh).filterMap (λi=>es[i]?.map (·.key)))==[Value.none])=true<;>
 (first|rw[aD LA]|rw[az LA])<;>(first|refine au (aI ?_)|refine au (Yw b4 ?_))<;>(
  rw[az (by simp)];refine au ?_;refine B6 _ (λrest b s'=>s'=s/\b=(none,none)) _ ?_ ?_ _ _ ⟨rfl,rfl⟩
  ·rintro x rest b s' ⟨rfl,rfl⟩
   cases hex:es[x]? with
   |none=>exact aI ⟨rfl,rfl⟩
   |some e=>
    dsimp only;by_cases hq:(e.hash==hh)=true
    ·rw[aD hq]
     obtain⟨y,hy,rfl⟩:=gb e (Array.mem_of_getElem? hex);obtain⟨its,hits⟩:=Yx y hy;refine au (tM ho hd (au (SeqAt.EqAt.tuple_none hits hu _ _ _ _ (au (tM ho hd ?_)))));show wpAny _ _ (if(ep !=ep)=true then _ else _) _ E _;rw[az (by simp)];simp only[iW,fK];refine au (oM ?_);first|rw[az (by simp)]|skip
     first
      |exact aI ⟨rfl,rfl⟩
      |exact au (aI (aI ⟨rfl,rfl⟩))
    rw[az hq];exact aI ⟨rfl,rfl⟩
  rintro b s' ⟨rfl,rfl⟩;exact aI h)
end
section
variable{prog:af}{w:ah}{K:Type}[DecidableEq K](knd:HeapKind prog w K)(d:Addr)
def get_none(hd:(d==sysModules)=false)(dflt:ao):
  MeetsIn prog w (Builtin.«dict.get» ⟨[.ref d,.none,dflt],[]⟩) (λA R s=>A.units+1<cLine/\∃xs,fN (s.heap.DictOfH knd d xs) (∀x∈xs,∃its,s.heap.IsTuple x.2.1 its) (R (.ok (.ret dflt)) {s with toks:=s.toks+1})):=
 .of_wp λA R s ⟨hu,xs,hm,ht,h⟩=>by
  obtain⟨o,es,ep,ho,hx,lD,he,uA,hn⟩:=hm;show wpAny _ _ (dictGet d .none>>=_) _ _ s;refine au ?_;unfold dictGet;try with_reducible refine jn ?_
  refine au (Ly ?_);refine au (find_none (knd:=knd) (s:={s with toks:=s.toks+1}) (by assumption) ho lD he uA ht ?_);refine aI ?_;show wpAny _ _ (Builtin.Dict.missed d .none>>=_) _ _ _;exact au (wpAny_missed_other hd (aI ⟨dflt,rfl,h⟩))
end
def LB{prog:af}{w:ah}{K:Type}[DecidableEq K](ik:Ik prog w K):Ik prog w (Sum (List K) Int)where
 is:=λh k v=>match k with
  | .inl ks=>∃a,v= .ref a/\hX ik h ks a
  | .inr i=>∃t,v= .int i t
 hash:=λk=>match k with
  | .inl ks=>wV ik ks
  | .inr i=>hashInt i
 draws:=λk=>match k with
  | .inl ks=>kx ik ks+1
  | .inr _=>1
 iz:=ik.iz+1
 inj:=λ{h v x y} hx hy=>by
  cases x with
  |inl k=>
   obtain⟨a,rfl,h1⟩:=hx;cases y with
   |inl l=>obtain⟨b,e,h2⟩:=hy;injection e with e;subst e;rw[Al h1 h2]
   |inr j=>obtain⟨t,e⟩:=hy;cases e
  |inr i=>lia
 keeps:=λ{h h' k v d o es ep} x ho hd hs=>by
  cases k with
  |inl ks=>obtain⟨a,e,h1⟩:=x;exact⟨a,e,DG h1 ho hd hs⟩
  |inr i=>exact x
 pyHash:=λ{A E s k v Q} hu x h=>by
  cases k with
  |inl ks=>obtain⟨a,rfl,h1⟩:=x;exact DH hu h1 h
  |inr i=>obtain⟨t,rfl⟩:=x;exact wpAny_pyHash_int h
 eqBool:=λ{A E s x y u v Q} hu hx hy h=>by
  cases x with
  |inl k=>
   obtain⟨a,rfl,h1⟩:=hx;cases y with
   |inl l=>obtain⟨b,rfl,h2⟩:=hy;refine DI hu h1 h2 ?_;simp_all
   |inr j=>obtain⟨t,rfl⟩:=hy;obtain⟨o,its,n,ho,hc,hd,_⟩:=h1;exact SeqAt.EqAt.tuple_int (l:=a) j t ⟨o,ho,hc,n,hd⟩ (by lia) _ _ _ _ (by assumption)
  |inr i=>
   obtain⟨t,rfl⟩:=hx;cases y with
   |inl l=>obtain⟨b,rfl,o,its,n,ho,hc,hd,_⟩:=hy;exact SeqAt.EqAt.int_tuple (l:=b) i t ⟨o,ho,hc,n,hd⟩ (by lia) _ _ _ _ (by assumption)
   |inr j=>
    obtain⟨t',rfl⟩:=hy;refine wpAny_eqBool_int ?_;have e:(i==j)=decide ((Sum.inr i:Sum (List K) Int)=Sum.inr j):=by lia
    rw[e];exact h
 quiet:=λ{A E s k v Q} n hn x h=>by
  cases k with
  |inl ks=>obtain⟨a,rfl,h1⟩:=x;exact DK n hn h1 h
  |inr i=>obtain⟨t,rfl⟩:=x;rw[He _ rfl];exact aI h
structure AK(P:af)(w:ah)(K:Type)[DecidableEq K]where
 knd:HeapKind P w K
 rel:Hp->K->Addr->Prop
 sound:∀{H:Hp} {h:Heap} {k:K} {a:Addr},cQ P w H h->rel H k a->knd.is h k a/\∃its,h.IsTuple a its
 dG:∀{H H':Hp} {k:K} {a:Addr},rel H k a->(∀b xs,H b=some (.tup xs)->H' b=some (.tup xs))->rel H' k a
 room:∀{A:ai},A.units+64<cLine->knd.room A.in1
 An:∀{A:ai},A.units+64<cLine->knd.room A
abbrev Ent(K:Type):=List (K×Addr×V)
def lG{K:Type}:Ent K->List (K×Addr×ao)->Prop:=Paired λp q=>p.1=q.1/\p.2.1=q.2.1/\RelV p.2.2 q.2.2
abbrev bQ{P:af}{w:ah}{K:Type}[DecidableEq K](knd:HeapKind P w K)(a:Addr)(kvs:Ent K):HO:=.ext λh=>(a==sysModules)=false/\∃xs,lG kvs xs/\∃o es ep,h.get? a=some o/\o.ExactDict/\o.data= .dict es ep/\es.toList=xs.map (entryOfKey knd)/\(xs.map (·.1)).Nodup
structure cC{P:af}{w:ah}{K:Type}[DecidableEq K](ak:AK P w K)(H:Hp)(a:Addr)(kvs:Ent K):Prop where
 at_:H a=some (bQ ak.knd a kvs)
 len:kvs.length<=sizeLine
 keys:∀p∈kvs,ak.rel H p.1 p.2.1
section
variable{K:Type}[DecidableEq K]
def bW(kvs:Ent K)(k:K):Option V:=(kvs.find? λp=>decide (p.1=k)).map (·.2.2)
def cY(kvs:Ent K)(k:K)(b:Addr)(v:V):Ent K:=if(kvs.any λp=>decide (p.1=k))=true then kvs.map λp=>if p.1=k then(p.1,p.2.1,v)else p else kvs++[(k,b,v)]
def kz(p:K×Addr×V)(r:Ent K)(k:K):bW (p::r) k=if p.1=k then some p.2.2 else bW r k:=by unfold bW;grind
def wZ(kvs:Ent K)(k:K):(kvs.any λp=>decide (p.1=k))=(bW kvs k).isSome:=by
 induction kvs with
 |nil=>rfl
 |cons p r ih=>
  rw[l6,kz,ih];by_cases e:p.1=k
  ·simp[e]
  simp[e]
def lG.val(r:lG kvs xs)(k:K):gp (bW kvs k) ((atKey xs k).map (·.2)):=by
 unfold lG at r;induction r with
 |nil=>exact True.intro
 |@cons p q ps qs h t ih=>
  obtain⟨h1,_,h2⟩:=h;rw[kz];by_cases e:p.1=k
  ·have e':q.1=k:=h1.symm.trans e
   have b:atKey (q::qs) k=some q.2:=by simp[atKey,qw,e']
   rw[aD e,b];exact h2
  have e':¬q.1=k:=λz=>e (h1.trans z);have b:atKey (q::qs) k=atKey qs k:=by simp[atKey,qw,e']
  simp[*]
def lG.put(r:lG kvs xs)(k:K)(b:Addr)(ry:RelV y u):lG (cY kvs k b y) (storedH xs k b u):=by
 have e:(kvs.any λp=>decide (p.1=k))=(atKey xs k).isSome:=by rw[wZ,(r.val k).o7,yX]
 unfold cY storedH;rw[e];by_cases q:(atKey xs k).isSome=true
 ·rw[aD q,aD q]
  clear e q;unfold lG at r⊢;induction r with
  |nil=>exact .nil
  |@cons p q ps qs h t ih=>
   rw[cA,cA];refine .cons ?_ ih;obtain⟨h1,h2,h3⟩:=h;unfold putAt;by_cases e:p.1=k
   ·simp_all
   simp_all
 rw[az q,az q];exact kX r ⟨rfl,rfl,ry⟩
def LC(kvs:Ent K)(k:K)(b:Addr)(v:V):(cY kvs k b v).length<=kvs.length+1:=by
 unfold cY;split
 ·simp[*]
 simp[*]
def LD{kvs:Ent K}{k:K}{b:Addr}{v:V}{p:K×Addr×V}(h:p∈cY kvs k b v):(p.1=k/\p.2.1=b)\/∃q∈kvs,p.1=q.1/\p.2.1=q.2.1:=by
 unfold cY at h;split at h
 ·obtain⟨q,hq,e⟩:=b_.mp h;refine .inr ⟨q,hq,?_⟩;subst e;split<;>exact⟨rfl,rfl⟩
 rcases gO.mp h with h|h
 ·exact .inr ⟨p,h,rfl,rfl⟩
 rw[dA.mp h];exact .inl ⟨rfl,rfl⟩
def Ao(kvs:Ent K)(k j:K)(b:Addr)(v:V):bW (cY kvs k b v) j=if j=k then some v else bW kvs j:=by
 unfold cY;by_cases h:(kvs.any λp=>decide (p.1=k))=true
 ·rw[aD h]
  rw[wZ]at h;induction kvs with
  |nil=>cases h
  |cons p r ih=>
   rw[cA,kz,kz];rw[kz]at h;by_cases e:p.1=k
   ·rw[aD e]
    by_cases ej:j=k
    ·simp[*]
    rw[az (by rw[e];exact λq=>ej q.symm),az ej,az (by rw[e];exact λq=>ej q.symm)];have dG:∀l:Ent K,bW (l.map λp=>if p.1=k then(p.1,p.2.1,v)else p) j=bW l j:=by
     intro l;induction l with
     |nil=>rfl
     |cons q t w4=>rw[cA,kz,kz,w4];lia
    exact dG r
   rw[az e];rw[az e]at h;by_cases ej:p.1=j
   ·simp_all
   rw[az ej,az ej];exact ih h
 rw[az h];rw[wZ]at h;have hn:bW kvs k=none:=by simp_all
 clear h;induction kvs with
 |nil=>show bW [(k,b,v)] j=_;rw[kz];lia
 |cons p r ih=>rw[kz]at hn;rw[GY,kz,kz];lia
end
section
variable{X:Cx}{K:Type}[DecidableEq K]{ak:AK X.prog X.w K}{pins:List (Addr×Obj)}{σ:L2.St}{H:Hp}{s:ae}{a b:Addr}{kvs:Ent K}{k:K}{A:ai}{E:ao->ae->Prop}
theorem pq(I:L2.Inv X pins σ H s)(d:cC ak H a kvs):(a==sysModules)=false/\∃xs,lG kvs xs/\s.heap.DictOfH ak.knd a xs/\∀x∈xs,∃its,s.heap.IsTuple x.2.1 its:=by
 obtain⟨⟨hs,xs,r,o,es,ep,h1,h2,h3,h4,h5⟩,_⟩:=(show cP X.prog X.w H s.heap a (bQ ak.knd a kvs) from I.aK a _ d.at_);have all:∀{l:Ent K} {m:List (K×Addr×ao)},lG l m->(∀p∈l,ak.rel H p.1 p.2.1)->∀x∈m,ak.knd.is s.heap x.1 x.2.1/\∃its,s.heap.IsTuple x.2.1 its:=by
  intro l m q;unfold lG at q;induction q with
  |nil=>simp[*]
  |@cons p q ps qs hq t ih=>
   intro hk x hx;rcases be.mp hx with e|hx
   ·subst e;have:=ak.sound I.aK (hk p cT);rw[<-hq.1,<-hq.2.1];exact this
   exact ih (λp hp=>hk p (bU _ hp)) x hx
 have cx:=all r d.keys;exact⟨hs,xs,r,⟨o,es,ep,h1,h2,h3,h4,λx hx=>(cx x hx).1,h5⟩,λx hx=>(cx x hx).2⟩
theorem DN(I:L2.Inv X pins σ H s)(d:cC ak H a kvs):s.TypeIs (.ref a) "dict"/\∀b,Value.ref a= .ref b->∃ob,s.heap.get? b=some ob/\ob.dict=none:=by obtain⟨_,xs,_,dd,_⟩:=pq I d;refine⟨dd.typeIs,λb q=>?_⟩;cases q;obtain⟨ob,_,_,h1,h2,_⟩:=dd;exact⟨ob,h1,h2.2.1⟩
def Yy(hu:A.units+64<cLine)(I:L2.Inv X pins σ H s)(d:cC ak H a kvs)(hk:ak.rel H k b)(l:bW kvs k=some v)(h:∀w' s',L2.Inv X pins σ H s'->RelV v w'->Q w' s'):
  wpAny (model X.prog X.w) A (getItem (.ref a) (.ref b)) Q E s:=by
 obtain⟨_,xs,r,dd,_⟩:=pq I d;obtain⟨w',hw,jx⟩:=gp.some_of (v:=v) (o:=(atKey xs k).map (·.2)) (by rw[<-l];exact r.val k);obtain⟨p,hp,dI⟩:=jq.mp hw;refine wpAny_getItem_heap (ak.room hu) (ak.sound I.aK hk).1 dd hp ?_;rw[dI];exact h w' _ (I.tok _) jx
def Yz(hu:A.units+64<cLine)(I:L2.Inv X pins σ H s)(d:cC ak H a kvs)(hk:ak.rel H k b)(h:∀s',L2.Inv X pins σ H s'->Q (.bool (!(bW kvs k).isSome)) s'):
  wpAny (model X.prog X.w) A (compareOp .NotIn (.ref b) (.ref a)) Q E s:=by
 obtain⟨hs,xs,r,dd,_⟩:=pq I d;refine wpAny_notIn_heap (ak.room hu) (ak.sound I.aK hk).1 hs dd ?_;have q:=(r.val k).o7;rw[yX]at q;rw[<-q];exact h _ (I.tok _)
def YB(hu:A.units+64<cLine)(I:L2.Inv X pins σ H s)(d:cC ak H a kvs)(hk:ak.rel H k b)(ry:RelV y u)(h:∀w' s',L2.Inv X pins σ H s'->RelV ((bW kvs k).getD y) w'->Q w' s'):
  wpAny (model X.prog X.w) A (call (.builtin "dict.get") [.ref a,.ref b,u]) Q E s:=by
 obtain⟨hs,xs,r,dd,_⟩:=pq I d;exact qy mY dd.typeIs vE (GZ _ _ _) (meetsH_dict_get_default ak.knd a b hs u) ⟨ak.room hu,k,xs,(ak.sound I.aK hk).1,dd,h _ _ (I.tok _) ((r.val k).getD ry)⟩
theorem YC(hu:A.units+64<cLine)(I:L2.Inv X pins σ H s)(d:cC ak H a kvs)(ry:RelV y u)(h:∀s',L2.Inv X pins σ H s'->Q u s'):
  wpAny (model X.prog X.w) A (call (.builtin "dict.get") [.ref a,.none,u]) Q E s:=by
 obtain⟨hs,xs,r,dd,ht⟩:=pq I d;exact qy mY dd.typeIs vE (GZ _ _ _) (get_none ak.knd a hs u) ⟨by lia,xs,dd,ht,h _ (I.tok _)⟩
def YD(hu:A.units+64<cLine)(I:L2.Inv X pins σ H s)(d:cC ak H a kvs)(hk:ak.rel H k b)(hl:kvs.length<sizeLine)(rv:RelV v r)
  (h:∀s',L2.Inv X pins σ (upd H a (bQ ak.knd a (cY kvs k b v))) s'->Q () s'):wpAny (model X.prog X.w) A (setItem (.ref a) (.ref b) r) Q E s:=by
 obtain⟨hs,xs,rel,dd,_⟩:=pq I d;have hz:xs.length<=sizeLine:=by rw[<-bZ rel];exact d.len
 refine wpAny_setItem_heap (hsz:=hz) (ak.room hu) (ak.sound I.aK hk).1 dd λh' jB w6=>h _ ?_;obtain⟨q,es,ep,hq,h2,h3,h4,_,h5⟩:=jB;refine uk I (by rw[d.at_];exact True.intro) w6 ⟨q,hq⟩ ⟨⟨hs,_,rel.put k b rv,q,es,ep,hq,h2,h3,h4,h5⟩,⟨q,hq⟩,?_⟩;rintro h1 kh ⟨y1,y2,y3,o,y4,y5,y6,y7⟩ dc;exact⟨y1,y2,y3,o,y4,y5,dc _ y6,y7⟩
end
def YE{K:Type}[DecidableEq K](knd:HeapKind prog w K)(d:Addr)(hd:(d==sysModules)=false):
  MeetsIn prog w (Builtin.«dict.items» ⟨[.ref d],[]⟩) (λ_ R s=>s.TypeIs (.ref d) "dict"/\R (.ok (.ret (.ref s.heap.objs.size))) {s with heap:=s.heap.push {cls:=.type "dict_items",data:=.fields #[.ref d]}}):=
 .of_wp λA R s ⟨hT,h⟩=>by unfold Builtin.«dict.items»;refine au ?_;unfold Builtin.Dict.noArgs;refine au (wpAny_notOrdered_dict hT ?_);refine aI ?_;unfold Builtin.Dict.showsAll;rw[az (by simp[*])];refine au (aI ?_);exact au (ip (aI ⟨_,rfl,h⟩))
def YF(hv:s.heap.IsItemsView v d)(ho:s.heap.get? d=some o)(lD:o.data= .dict es ep)
  (hQ:Q (.ref s.heap.objs.size) {s with heap:=s.heap.push {cls:=.type "dict_itemiterator",data:=.fields #[.none,.bool false,.ref d,.int 0 0,.int es.size 0,.int ep 0,.none,.none]}}):wpAny (model prog w) A (pyIter (.ref v)) Q E s:=by
 obtain⟨ov,YG,hcv,YH⟩:=id hv;refine G1 hv.typeIs F.slot_dict_items_iter (gY F.slot_dict_items_iter hv.typeIs F.entry_dict_items_iter ?_ (F.args_dict_items_iter_1 _));unfold Builtin.«dict_items.__iter__»;refine au (aI ?_);refine au ?_;unfold Builtin.Dict_items.dictOf;refine au (fV YG YH rfl (aI ?_));refine au ?_;unfold Builtin.Dict_items.newIterator;refine au (qz ho lD ?_);refine au (tM ho lD ?_);have i8:Builtin.Dict_items.ownsTuple "dict_itemiterator"=true:=by decide
 simp only[i8,gE];refine ip (aI ⟨_,rfl,"dict_itemiterator",_,⟨_,cv _ rfl,rfl⟩,B7.lookup,?_⟩) (by simp only[sizeOk,Builtin.Dict_items.ownedTupleFields,iJ,cX,bG,dR,bP];decide);assumption
def YI(hit:IsItemIter s.heap it d i es.size ep ok ov)(fe:s.heap.get? d=some od)(jC:od.data= .dict es ep)(hx:es[i]?=some en)
  (hQ:∀h',IsItemIterOut h' it d (i+1) es.size ep en.key en.val s.heap.objs.size->h'.get? s.heap.objs.size=some {cls:=.type "tuple",data:=.seq #[en.key,en.val]}->h'.objs.size=s.heap.objs.size+1->
   (∀b o,b≠it->s.heap.get? b=some o->h'.get? b=some o)->Q (some (.ref s.heap.objs.size)) {s with heap:=h'}):wpAny (model prog w) A (pyNext (.ref it)) Q E s:=by
 obtain⟨hp,g,dr,tk,os⟩:=s;have hT:Shared.TypeIs ⟨hp,g,dr,tk,os⟩ (.ref it) "dict_itemiterator":=⟨_,hit,rfl⟩;unfold pyNext;refine au (qA (l5 hT B7 (gY B7 hT F.entry_dict_itemiterator_next ?_ (F.args_dict_itemiterator_next_1 _))));refine au (aI ?_);refine au ?_;refine au ?_;first|refine au (Hg hT (aI ?_));skip|refine au (Hh hT (aI ?_));skip
 refine au (wpAny_fieldsOf hit rfl ?_);have i8:Builtin.Dict_items.ownsTuple "dict_itemiterator"=true:=by decide
 simp only[i8,gE];show wpAny _ _ (if(Value.ref d==Value.none)=true then _ else _) _ _ _;rw[az (show¬((Value.ref d==Value.none)=true) from fk)];refine au (aI ?_);refine au (qz fe jC ?_);rw[az (by simp)];refine au (aI ?_);refine au (tM fe jC ?_);rw[az (by simp)];refine aI ?_;have Dl:=(G4.mp hx).1;have rD:=(G4.mp hx).2;simp only[show¬((i:Int)<0) from by simp[*],fK,vq,G5 Dl];rw[rD];refine au ?_;first|refine au (Hg hT (aI ?_));skip|refine au (Hh hT (aI ?_));skip
 refine au (wpAny_isOneOf_itemiter hT ?_);show wpAny _ _ (setField (.ref it) 3 (rawInt ((i:Int)+1))>>=_) _ _ ⟨hp,g,dr,tk,os⟩;refine au (kY hit (by simp) λp1 j1 d1=>?_);replace d1:Heap.SameBut it hp p1:=d1;replace j1:IsItemIter p1 it d (i+1) es.size ep ok ov:=by
  have e:((i+1:Nat):Int)=(i:Int)+1:=by rfl
  unfold IsItemIter;rw[e];simpa[rawInt]using j1
 have DO:Shared.TypeIs ⟨p1,g,dr,tk,os⟩ (.ref it) "dict_itemiterator":=⟨_,j1,rfl⟩;refine au (jn ?_);refine au (wpAny_isOneOf_itemiter DO ?_);refine au (wpAny_isOneOf_itemiter DO ?_);unfold Builtin.Dict_items.pairFromOwner;refine au (wpAny_newTuple ?_);have j2:IsItemIter (p1.push {cls:=.type "tuple",data:=.seq #[en.key,en.val]}) it d (i+1) es.size ep ok ov:=bI _ j1;generalize ja:p1.push {cls:=.type "tuple",data:=.seq #[en.key,en.val]}=p2 at j2;have z1:=d1.1;have il:=bK hit;have t2:p2.get? hp.objs.size=some {cls:=.type "tuple",data:=.seq #[en.key,en.val]}:=by rw[<-ja,<-z1];exact cv _ rfl
 have z2:p2.objs.size=hp.objs.size+1:=by rw[<-ja,ij,z1]
 have k2:∀b o,b≠it->hp.get? b=some o->p2.get? b=some o:=λb o hb e=>by rw[<-ja];exact bI _ (d1.extBut b o hb e)
 show wpAny _ _ (Builtin.Dict_items.ownedTupleIsFree (.ref it)>>=_) _ _ ⟨p2,g,dr,tk,os⟩;rw[z1];clear ja j1 d1 DO z1 p1;refine au ?_;unfold Builtin.Dict_items.ownedTupleIsFree;refine au (fV j2 rfl rfl (aI ?_));simp only[gE];refine au (fV j2 rfl rfl ?_);refine au (fV j2 rfl rfl ?_);refine au (kY j2 (by simp) λp3 j3 d3=>?_);replace d3:Heap.SameBut it p2 p3:=d3;replace j3:IsItemIter p3 it d (i+1) es.size ep en.key ov:=j3;refine au (kY j3 (by simp) λp4 j4 d4=>?_);replace d4:Heap.SameBut it p3 p4:=d4;replace j4:IsItemIter p4 it d (i+1) es.size ep en.key en.val:=j4;refine au (kY j4 (by simp) λp5 j5 d5=>?_);replace d5:Heap.SameBut it p4 p5:=d5;replace j5:IsItemIterOut p5 it d (i+1) es.size ep en.key en.val hp.objs.size:=j5;refine au (kY j5 (by simp) λp6 j6 d6=>?_);replace d6:Heap.SameBut it p5 p6:=d6;replace j6:IsItemIterOut p6 it d (i+1) es.size ep en.key en.val hp.objs.size:=j6;refine au (qD (aI (aI ⟨_,rfl,aI (hQ p6 j6 ?_ ?_ ?_)⟩)))
 ·exact d6.extBut _ _ (kS il) (d5.extBut _ _ (kS il) (d4.extBut _ _ (kS il) (d3.extBut _ _ (kS il) t2)))
 ·show p6.objs.size=hp.objs.size+1;rw[d6.1,d5.1,d4.1,d3.1,z2]
 exact λb o hb e=>d6.extBut b o hb (d5.extBut b o hb (d4.extBut b o hb (d3.extBut b o hb (k2 b o hb e))))
def YJ(hh:A.handled=none)(hit:IsItemIter s.heap it d i es.size ep ok ov)(fe:s.heap.get? d=some od)(jC:od.data= .dict es ep)(zY:es.size<=i)
  (hQ:∀h',Heap.ExtBut it s.heap h'->Q none {s with heap:=h'}):wpAny (model prog w) A (pyNext (.ref it)) Q E s:=by
 have hT:s.TypeIs (.ref it) "dict_itemiterator":=⟨_,hit,rfl⟩;unfold pyNext;refine au (qA (l5 hT B7 (gY B7 hT F.entry_dict_itemiterator_next ?_ (F.args_dict_itemiterator_next_1 _))));refine au (aI ?_);refine au ?_;refine au ?_;first|refine au (Hg hT (aI ?_));skip|refine au (Hh hT (aI ?_));skip
 refine au (wpAny_fieldsOf hit rfl ?_);have i8:Builtin.Dict_items.ownsTuple "dict_itemiterator"=true:=by decide
 simp only[i8,gE];show wpAny _ _ (if(Value.ref d==Value.none)=true then _ else _) _ _ s;rw[az (show¬((Value.ref d==Value.none)=true) from fk)];refine au (aI ?_);refine au (qz fe jC ?_);rw[az (by simp)];refine au (aI ?_);refine au (tM fe jC ?_);rw[az (by simp)];refine aI ?_;simp only[show¬((i:Int)<0) from by simp[*],fK,vq,SG zY];refine au ?_;first|refine au (Hg hT (aI ?_));skip|refine au (Hh hT (aI ?_));skip
 show wpAny _ _ (setField (.ref it) 2 .none>>=_) _ _ s;refine au (BZ hit rfl (by simp) ?_);refine au ?_;simp only[newExc,newTuple];refine au (ip ?_ (by size_fits));refine au (mZ (by first|rfl|(simp only[firstArgMember];rfl)) ?_);refine ip ?_ (by size_fits);simp only[raiseNew];refine au (wpAny_handled ?_);rw[show A.in1.handled=none from hh];refine au (aI (wpAny_throw ?_));refine au (qC ⟨_,cv _ rfl,rfl⟩ isSubtype_stop ?_);exact aI (hQ _ (((qB ..).extBut.push _).push _))
def LF{P:af}{w:ah}{K:Type}[DecidableEq K](knd:HeapKind P w K)(d:Addr)(o:Obj)(kvs:Ent K):It:=
 ⟨λi H=>H d=some (.cB o (bQ knd d kvs))/\i<kvs.length,λi H x H'=>k9 λT k q v=>gR (kvs[i]?=some (k,q,v)) (x= .ref T) (H T=none) (H'=upd H T (.tup [.ref q,v])),λi H=>H d=some (.cB o (bQ knd d kvs))/\kvs.length<=i⟩
section
variable{X:Cx}{K:Type}[DecidableEq K]{knd:HeapKind X.prog X.w K}{pins:List (Addr×Obj)}{σ:L2.St}{H:Hp}{s:ae}{d:Addr}{o:Obj}{kvs:Ent K}
def DP(I:L2.Inv X pins σ H s)(h:H d=some (.cB o (bQ knd d kvs))):(d==sysModules)=false/\s.heap.get? d=some o/\o.ExactDict/\dB λ(es:Array DictEntry) (ep:Nat)=>fN (o.data= .dict es ep) (es.size=kvs.length) (∀(i:Nat) (k:K) (q:Addr) (v:V),kvs[i]?=some (k,q,v)->∃en:DictEntry,fN (es[i]?=some en) (en.key= .ref q) (RelV v en.val)):=by
 obtain⟨hd,⟨hs,xs,r,o',es,ep,ho,hx,i_,he,_⟩,_⟩:=I.aK d _ h;rw[hd]at ho;cases ho;refine⟨hs,hd,hx,es,ep,i_,?_,λi k q v e=>?_⟩
 ·have l1:=B8 he;have l2:=bZ r;simp[*]
 obtain⟨b,hb,e1,e2,e3⟩:=WB r e;have q':=entry_at he i;rw[hb]at q';exact⟨_,q',by show Value.ref b.2.1=Value.ref q;rw[show q=b.2.1 from e2],e3⟩
end
def YK{P:af}{w:ah}{KK:aa}{K:Type}[DecidableEq K]{knd:HeapKind P w K}{elts:List Expr}{kk:Nat}{gx:Pos}{d:Addr}{o:Obj}{kvs:Ent K}{es:Array DictEntry}{ep:Nat}(it:Addr)(fe:o.data= .dict es ep):
  Turn P w KK (.Tuple elts kk gx) (LF knd d o kvs) [it] it (λi h=>dB λok ov=>IsItemIter h it d i es.size ep ok ov)where
 mem:=by simp
 obj:=λi h st b hb=>by
  obtain rfl:b=it:=by simpa using hb
  obtain⟨ok,ov,e⟩:=st;exact⟨_,e,λv z=>nomatch z⟩
 keep:=λi h h' st k=>let⟨ok,ov,e⟩:=st;⟨ok,ov,k it (by simp) _ e⟩
 item:=by
  intro X hP hw hK hc i pins s σ H E I hf st hg;subst hP hw hK;obtain⟨hd,hi⟩:=hg;obtain⟨hs,rO,hx,jV,oQ,i_,hsz,ent⟩:=DP I hd;obtain⟨rfl,rfl⟩:=Kk fe i_;obtain⟨⟨k,q,v⟩,LG⟩:∃p,kvs[i]?=some p:=⟨kvs[i],cp hi⟩;obtain⟨en,rD,ir,rv⟩:=ent i k q v LG;obtain⟨ok,ov,he⟩:=st;have bq:it<s.heap.objs.size:=bK he;refine YI he rO i_ rD λh' ho hT hz hk=>?_;refine⟨_,rfl,wpAny_letOwnedTupleGo_items ho λfC kf sb=>?_⟩;have nJ:=(sb.2 _ (kS bq)).trans hT;have new:cP X.prog X.w (upd H s.heap.objs.size (.tup [.ref q,v])) fC s.heap.objs.size (.tup [.ref q,v]):=⟨iq,[en.key,en.val],.cons ir (.cons rv .nil),⟨_,nJ,rfl,_,rfl⟩⟩;have I1:=I.wD (t':=s.toks) (ch:=[it]) (λb ob hb e=>(sb.2 b (by simpa using hb)).trans (hk b ob (by simpa using hb) e)) hf (aW _) new;refine⟨.ref s.heap.objs.size,_,I1,rfl,⟨_,k,q,v,LG,rfl,I.aK.fresh (aW _),rfl⟩,⟨en.key,en.val,kf⟩,λb hb=>?_⟩;obtain rfl:b=it:=by simpa using hb
  rw[ay (dP bq)];exact(hf _ (by simp)).1
 done:=by intro X hP hw hK hc i pins s σ H E I hf st hg;subst hP hw hK;obtain⟨hd,hi⟩:=hg;obtain⟨f0,f1,f2,f3,f4,f5⟩:=hf it (by simp);obtain⟨hs,rO,hx,jV,oQ,i_,hsz,ent⟩:=DP I hd;obtain⟨rfl,rfl⟩:=Kk fe i_;obtain⟨ok,ov,he⟩:=st;exact YJ (I.ok.hd hc) he rO i_ (by rw[hsz];exact hi) λh' eb=>⟨rfl,I.turned (t':=s.toks) (λb ob hb e=>eb b ob hb e) f0 f1 f3 f4 f5⟩
 self:=λA i s Q E st h=>let⟨_,_,e⟩:=st;PySem.W.kcp_self e h
def YL{P:af}{w:ah}{K:Type}[DecidableEq K](knd:HeapKind P w K)(td:TE):TI:=λσ H R=>td σ H λx H1=>iY λ(d:Addr) (o:Obj) (kvs:Ent K)=>fN (x= .ref d) (H1 d=some (.cB o (bQ knd d kvs))) (R (LF knd d o kvs) H1)
def YM{X:Cx}{K:Type}[DecidableEq K](knd:HeapKind X.prog X.w K){e:Expr}{td:TE}{apos dv:Pos}{elts:List Expr}{kk:Nat}{gx:Pos}(he:PE X e td)(ls:attributeBase e "items" X.env (eval e X.env)=eval e X.env:=by rfl)(lx:(apos.endLine==dv.line)=true:=by rfl):
  PI X (.Tuple elts kk gx) (.Call (.Attribute e "items" apos) [] [] dv) (YL knd td):=by
 intro pins s σ H R I h;refine yY ls rfl lx F.plainAttrs_dict F.slot_dict_items F.type_dict_items (aM (he pins s σ H _ I h) λu s1 h_=>?_);obtain⟨x,H1,I1,rx,d,o,kvs,ex,hd,q⟩:=h_;subst ex;obtain rfl:u=Value.ref d:=rx;obtain⟨hs,rO,hx,es,ep,i_,hsz,ent⟩:=DP I1 hd;have hT:s1.TypeIs (.ref d) "dict":=⟨o,rO,hx.1⟩;refine⟨hT,λb q=>by cases q;exact⟨o,rO,hx.2.1⟩,?_⟩;have I2:L2.Inv X pins σ H1 {s1 with heap:=s1.heap.push {cls:=.type "dict_items",data:=.fields #[.ref d]}}:=I1.kept λb ob q=>bI _ q;have fin:wpAny (model X.prog X.w) X.A (pyIter (.ref s1.heap.objs.size)) (zr X pins σ (.Tuple elts kk gx) R) X.xe {s1 with heap:=s1.heap.push {cls:=.type "dict_items",data:=.fields #[.ref d]}}:=
  YF ⟨_,cv _ rfl,rfl,rfl⟩ (bI _ rO) i_ (wF I2 _ (YK _ i_) ⟨.none,.none,cv _ rfl⟩ q)
 exact method_meetsIn F.slot_dict_items F.entry_dict_items rfl (PySem.evalArgs_none ⟨rfl,hT,F.args_dict_items_1 _,_,YE knd d hs,hT,fin⟩)
abbrev SK:=Option (List Key)
instance:DecidableEq (List SK):=instDecidableEqList
instance:DecidableEq (Sum (List SK) Int):=instDecidableEqSum
def YN(r:aY (ks.map kV) us):Paired ((rN P w).is h) ks us:=by
 induction ks generalizing us with
 |nil=>cases r;exact .nil
 |cons k ks ih=>
  rw[cA]at r;cases r with
  |cons r t=>exact .cons (o8 (P:=P) (w:=w) r) (ih t)
def LH(ok:cQ P w H h)(e:H a=some (.tup (ks.map kV))):hX (rN P w) h ks a/\∃its,h.IsTuple a its:=by obtain⟨_,its,r,o,h1,h2,n,h3⟩:=(show cP P w H h a (.tup (ks.map kV)) from ok a _ e);exact⟨⟨o,its.toArray,n,h1,h2,h3,by simpa using YN r⟩,its.toArray,o,h1,h2,n,h3⟩
def gc(H:Hp)(k:SK)(v:V):Prop:=match k with
 |none=>v= .aQ
 |some l=>∃b,v= .ref b/\H b=some (.tup (l.map kV))
def gc.dG(r:gc H k v)(ht:∀b xs,H b=some (.tup xs)->H' b=some (.tup xs)):gc H' k v:=by
 cases k with
 |none=>exact r
 |some l=>obtain⟨b,e,q⟩:=r;exact⟨b,e,ht _ _ q⟩
def gz(H:Hp)(ks:List SK)(a:Addr):Prop:=∃vs,H a=some (.tup vs)/\Paired (gc H) ks vs
theorem gz.dG(r:gz H ks a)(ht:∀b xs,H b=some (.tup xs)->H' b=some (.tup xs)):gz H' ks a:=by obtain⟨vs,e,p⟩:=r;exact⟨vs,ht _ _ e,Paired.cj p λk v q=>gc.dG q ht⟩
def gz.is(ok:cQ P w H h)(r:gz H ks a):hX (Am (rN P w)) h ks a/\∃its,h.IsTuple a its:=by
 obtain⟨vs,e,p⟩:=r;obtain⟨DQ,its,rv,o,h1,h2,n,h3⟩:=(show cP P w H h a (.tup vs) from ok a _ e);refine⟨⟨o,its.toArray,n,h1,h2,h3,?_⟩,its.toArray,o,h1,h2,n,h3⟩;clear e h1 h3 DQ;induction p generalizing its with
 |nil=>cases rv;exact .nil
 |@cons k v ks vs q t ih=>
  cases rv with
  |@cons _ u _ us r1 r2=>
   refine .cons ?_ (ih us r2);cases k with
   |none=>obtain rfl:v= .aQ:=q;exact r1
   |some l=>obtain⟨b,rfl,hb⟩:=q;exact⟨b,r1,(LH ok hb).1⟩
def YO(H:Hp)(k:Sum (List SK) Int)(v:V):Prop:=match k with
 | .inl ks=>∃b,v= .ref b/\gz H ks b
 | .inr i=>v= .int i
def uB(H:Hp)(ks:List (Sum (List SK) Int))(a:Addr):Prop:=∃vs,H a=some (.tup vs)/\Paired (YO H) ks vs
theorem uB.is(ok:cQ P w H h)(r:uB H ks a):hX (LB (Am (rN P w))) h ks a/\∃its,h.IsTuple a its:=by
 obtain⟨vs,e,p⟩:=r;obtain⟨DQ,its,rv,o,h1,h2,n,h3⟩:=(show cP P w H h a (.tup vs) from ok a _ e);refine⟨⟨o,its.toArray,n,h1,h2,h3,?_⟩,its.toArray,o,h1,h2,n,h3⟩;clear e h1 h3 DQ;induction p generalizing its with
 |nil=>cases rv;exact .nil
 |@cons k v ks vs q t ih=>
  cases rv with
  |@cons _ u _ us r1 r2=>
   refine .cons ?_ (ih us r2);cases k with
   |inl l=>obtain⟨b,rfl,hb⟩:=q;exact⟨b,r1,(gz.is ok hb).1⟩
   |inr i=>obtain rfl:v= .int i:=q;exact r1
def pz(P:af)(w:ah):AK P w (List Key)where
 knd:=DL (rN P w) (by show 0<=6;decide)
 rel:=λH ks a=>H a=some (.tup (ks.map kV))
 sound:=λok e=>LH ok e
 dG:=λe ht=>ht _ _ e
 room:=λ{A} hu=>by show A.units+1+(0+1)<cLine;lia
 An:=λ{A} hu=>by show A.units+(0+1)<cLine;lia
def bY(P:af)(w:ah):AK P w (List SK)where
 knd:=DL (Am (rN P w)) (by show 0+1<=6;decide)
 rel:=λH ks a=>gz H ks a
 sound:=λok e=>gz.is ok e
 dG:=λe ht=>gz.dG e ht
 room:=λ{A} hu=>by show A.units+1+(0+1+1)<cLine;lia
 An:=λ{A} hu=>by show A.units+(0+1+1)<cLine;lia
def jb(P:af)(w:ah):AK P w (List (Sum (List SK) Int))where
 knd:=DL (LB (Am (rN P w))) (by show 0+1+1<=6;decide)
 rel:=λH ks a=>uB H ks a
 sound:=λok e=>uB.is ok e
 dG:=λ{H H' k a} e ht=>by
  obtain⟨vs,e,p⟩:=e;refine⟨vs,ht _ _ e,Paired.cj p λk v q=>?_⟩;cases k with
  |inl l=>obtain⟨b,e1,e2⟩:=q;exact⟨b,e1,e2.dG ht⟩
  |inr i=>exact q
 room:=λ{A} hu=>by show A.units+1+(0+1+1+1)<cLine;lia
 An:=λ{A} hu=>by show A.units+(0+1+1+1)<cLine;lia
section
variable{X:Cx}{K:Type}[DecidableEq K](ak:AK X.prog X.w K){o i e f value:Expr}{pos pos' apos dv:Pos}{td ty tv tx:TE}
inductive LI(ak:AK X.prog X.w K)(Q:VK)(x:V)(y:V)(H2:Hp):Prop
 |mk:∀a b k kvs v,x= .ref a->y= .ref b->cC ak H2 a kvs->ak.rel H2 k b->bW kvs k=some v->Q v H2->LI ak Q x y H2
def YQ(ak:AK X.prog X.w K)(td ty:TE):TE:=λσ H Q=>td σ H λx H1=>ty σ H1 λy H2=>LI ak Q x y H2
theorem LJ(hu:X.A.units+64<cLine)(ho:PE X o td)(hi:PE X i ty)(hs:Dc i):PE X (.Subscript o i pos) (YQ ak td ty):=by intro pins s σ H Q I h;refine J0 PySem.F.slot_dict_getitem.lookup hs (aM (ho pins s σ H _ I h) λu s1 ⟨x,H1,I1,rx,q1⟩=>aM (hi pins s1 σ H1 _ I1 q1) λiv s2 h_=>?_);obtain⟨y,H2,I2,ry,a,b,k,kvs,v,ex,ey,d,hk,l,q2⟩:=h_;subst ex ey;obtain rfl:u=Value.ref a:=rx;obtain rfl:iv=Value.ref b:=ry;exact⟨(DN I2 d).1,Yy hu I2 d hk l λw' s3 I3 jx=>⟨v,H2,I3,jx,q2⟩⟩
inductive LK(ak:AK X.prog X.w K)(Q:VK)(y:V)(x:V)(H2:Hp):Prop
 |mk:∀a b k kvs,x= .ref a->y= .ref b->cC ak H2 a kvs->ak.rel H2 k b->Q (.bl (!(bW kvs k).isSome)) H2->LK ak Q y x H2
def YR(ak:AK X.prog X.w K)(ty td:TE):TE:=λσ H Q=>ty σ H λy H1=>td σ H1 λx H2=>LK ak Q y x H2
theorem LL(hu:X.A.units+64<cLine)(hi:PE X i ty)(ho:PE X o td):PC X .NotIn i o (YR ak ty td):=by intro pins s σ H Q I h;refine aM (hi pins s σ H _ I h) λiv s1 ⟨y,H1,I1,ry,q1⟩=>aM (ho pins s1 σ H1 _ I1 q1) λu s2 h_=>?_;obtain⟨x,H2,I2,rx,a,b,k,kvs,ex,ey,d,hk,q2⟩:=h_;subst ex ey;obtain rfl:u=Value.ref a:=rx;obtain rfl:iv=Value.ref b:=ry;exact Yz hu I2 d hk λs3 I3=>⟨.bl _,H2,I3,rfl,q2⟩
inductive LM(ak:AK X.prog X.w K)(D:Ends)(σ:L2.St)(v:V)(x:V)(y:V)(H3:Hp):Prop
 |mk:∀a b k kvs,x= .ref a->y= .ref b->cC ak H3 a kvs->ak.rel H3 k b->kvs.length<sizeLine->D.nx σ (upd H3 a (bQ ak.knd a (cY kvs k b v)))->LM ak D σ v x y H3
def YS(ak:AK X.prog X.w K)(td ty tv:TE):TS:=λD σ H=>tv σ H λv H1=>td σ H1 λx H2=>ty σ H2 λy H3=>LM ak D σ v x y H3
theorem DR(hu:X.A.units+64<cLine)(ho:PE X o td)(hi:PE X i ty)(hv:PE X value tv)(hs:swapsWith value (some (.Subscript o i pos')) pos.line X.env=pure false):PS X (.Assign [.Subscript o i pos'] value pos) (YS ak td ty tv):=by intro pins s σ H D I h;refine wpAny_Assign_Subscript (aM (hv pins s σ H _ I h) λr s1 ⟨v,H1,I1,rv,q1⟩=>aM (ho pins s1 σ H1 _ I1 q1) λu s2 ⟨x,H2,I2,rx,q2⟩=>aM (hi pins s2 σ H2 _ I2 q2) λiv s3 h_=>?_) hs;obtain⟨y,H3,I3,ry,a,b,k,kvs,ex,ey,d,hk,hl,q3⟩:=h_;subst ex ey;obtain rfl:u=Value.ref a:=rx;obtain rfl:iv=Value.ref b:=ry;exact YD hu I3 d hk hl rv λs4 I4=>⟨σ,_,I4,q3⟩
def YT(ak:AK X.prog X.w K):TE:=λ_ H Q=>∀p,H p=none->Q (.ref p) (upd H p (bQ ak.knd p []))
theorem LN(s:ae)(hb:sysModules<s.heap.objs.size)(H:Hp):cP X.prog X.w H (s.heap.push {cls:=.type "dict",data:=.dict #[]}) s.heap.objs.size (bQ ak.knd s.heap.objs.size []):=by refine⟨⟨oK.mpr (aO (dP hb)),[],.nil,_,#[],0,cv _ rfl,⟨rfl,rfl,rfl⟩,rfl,rfl,qx⟩,⟨_,cv _ rfl⟩,?_⟩;rintro h1 kh ⟨y1,y2,y3,o,y4,y5,y6,y7⟩ dc;exact⟨y1,y2,y3,o,y4,y5,dc _ y6,y7⟩
def Ap:PE X (.Dict [] [] pos) (YT ak):=λpins s σ H Q I h=>
 wpAny_Dict_empty ⟨.ref s.heap.objs.size,_,I.laid (λ_ _ q=>bI _ q) (aW _) (LN ak s I.wB _),rfl,h _ (I.aK.fresh (aW _))⟩
end
section
variable{prog:af}{w:ah}{K:Type}[DecidableEq K]{knd:HeapKind prog w K}{A:ai}{E:ao->ae->Prop}{s:ae}
theorem YU(hu:knd.room A)(ir:knd.is s.heap k a)(hm:s.heap.DictOfH knd d xs)(hsz:xs.length<=sizeLine)
  (h1:∀p,atKey xs k=some p->Q p.2 {s with toks:=s.toks+knd.draws k})
  (h2:atKey xs k=none->∀h',h'.DictOfH knd d (storedH xs k a v)->Heap.SameBut d s.heap h'->Q v {s with heap:=h',toks:=s.toks+knd.draws k}):wpAny (model prog w) A (dictSetDefault d (.ref a) v) Q E s:=by
 obtain⟨o,es,ep,ho,hc,hd,he,uA,hn⟩:=hm;unfold dictSetDefault;try with_reducible refine jn ?_
 refine au (knd.pyHash hu ir ?_);refine au (wpAny_dictFind_heap hu ir ho hd he uA hn ?_ ?_)
 ·intro j0
  have aks:=not_mem_keys_of_get j0;have lH:=atKey_none_of_get j0;refine au (oM (au (wpAny_updateDictKeys (hz:=by have e:=B8 he;simp[*]) ho hd (aI (h2 lH _ ⟨_,_,ep+1,vv _ ho (Obj.isFreed_of_dict (Obj.data_mapDictKeys hd _)),hc.mapDictKeys _,Obj.data_mapDictKeys hd _,?_,?_,?_⟩ (qB ..))))))
  ·rw[storedH_new lH];simp[he,entryOfKey]
  ·rw[storedH_new lH]
   intro x hx;rcases gO.mp hx with hx|hx
   ·exact knd.keeps (uA x hx) ho hd (qB ..)
   rw[dA.mp hx];exact knd.keeps ir ho hd (qB ..)
  rw[storedH_new lH,ft,oN];refine⟨hn,by simp,?_⟩;grind
 intro j p hj;refine au (qz ho hd ?_);rw[entry_at he j,hj];exact au (oM (aI (h1 p (atKey_of_get hn hj))))
theorem YV(knd:HeapKind prog w K)(d a:Addr)(hd:(d==sysModules)=false)(v:ao):
  MeetsIn prog w (Builtin.«dict.setdefault» ⟨[.ref d,.ref a,v],[]⟩) (λA R s=>knd.room A.in1/\dB λk xs=>ma (knd.is s.heap k a) (s.heap.DictOfH knd d xs) (xs.length<=sizeLine) (∀p,atKey xs k=some p->R (.ok (.ret p.2)) {s with toks:=s.toks+knd.draws k}) (atKey xs k=none->∀h',h'.DictOfH knd d (storedH xs k a v)->Heap.SameBut d s.heap h'->R (.ok (.ret v)) {s with heap:=h',toks:=s.toks+knd.draws k})):=
 .of_wp λA R s ⟨hu,k,xs,ir,hm,hsz,h1,h2⟩=>by unfold Builtin.«dict.setdefault»;refine au ?_;unfold Builtin.Dict.keyAndDefault;refine au (wpAny_notOrdered_dict hm.typeIs ?_);refine aI ?_;show wpAny _ _ (if(d==sysModules)=true then _ else(dictSetDefault d (.ref a) v>>=_)) _ _ s;rw[az (by simp[*])];exact au (YU hu ir hm hsz (λp hp=>aI ⟨p.2,rfl,h1 p hp⟩) λhn h' DS jG=>aI ⟨v,rfl,h2 hn h' DS jG⟩)
end
section
variable{X:Cx}{K:Type}[DecidableEq K](ak:AK X.prog X.w K){o e f:Expr}{apos dv:Pos}{td ty tx:TE}
inductive LO(ak:AK X.prog X.w K)(ty:TE)(tx:TE)(σ:L2.St)(Q:VK)(x:V)(H1:Hp):Prop
 |mk:∀a,x= .ref a->(∃kvs,cC ak H1 a kvs)->(ty σ H1 λy H2=>tx σ H2 λz H3=>∃kvs b k,cC ak H3 a kvs/\y= .ref b/\ak.rel H3 k b/\kvs.length<sizeLine/\ (∀v,bW kvs k=some v->Q v H3)/\(bW kvs k=none->Q z (upd H3 a (bQ ak.knd a (cY kvs k b z)))))->LO ak ty tx σ Q x H1
def YW(ak:AK X.prog X.w K)(td ty tx:TE):TE:=λσ H Q=>td σ H λx H1=>LO ak ty tx σ Q x H1
def YX(hu:X.A.units+64<cLine)(ho:PE X o td)(he:PE X e ty)(hf:PE X f tx)(m:M2 X o "setdefault" apos e f dv):PE X (.Call (.Attribute o "setdefault" apos) [e,f] [] dv) (YW ak td ty tx):=by
 intro pins s σ H Q I h;refine yY m.base m.dO m.line BY PySem.F.slot_dict_setdefault PySem.F.type_dict_setdefault (aM (ho pins s σ H _ I h) λu s1 h_=>?_);obtain⟨x,H1,I1,rx,a,ex,⟨kvs,d⟩,q1⟩:=h_;subst ex;obtain rfl:u=Value.ref a:=rx;obtain⟨t1,t2⟩:=DN I1 d;refine⟨t1,t2,?_⟩;rw[m.trees];refine tL rfl (vy (kT (aM (he pins s1 σ H1 _ I1 q1) λiv s2 ⟨y,H2,I2,ry,q2⟩=>kT (aM (hf pins s2 σ H2 _ I2 q2) λfv s3 ⟨z,H3,I3,rz,w8,b,k,d3,ey,hk,hl,q3,q4⟩=>oJ ?_))));subst ey;obtain rfl:iv=Value.ref b:=ry;obtain⟨hs,xs,rel,dd,_⟩:=pq I3 d3;have hz:xs.length<=sizeLine:=by rw[<-bZ rel];exact d3.len
 have rk:=rel.val k;refine qy PySem.F.slot_dict_setdefault dd.typeIs PySem.F.entry_dict_setdefault (PySem.F.args_dict_setdefault_3 _ _ _) (YV ak.knd a b hs fv) ⟨ak.room hu,k,xs,(ak.sound I3.aK hk).1,dd,hz,λp hp=>?_,λhn h' jB w6=>?_⟩
 ·rw[hp]at rk
  cases q:bW w8 k with
  |none=>rw[q]at rk;exact rk.elim
  |some v=>rw[q]at rk;exact⟨v,H3,I3.tok _,rk,q3 v q⟩
 rw[hn]at rk;have hv:bW w8 k=none:=by
  cases q:bW w8 k with
  |none=>rfl
  |some v=>rw[q]at rk;exact rk.elim
 obtain⟨q,es,ep,hq,h2,h3,h4,_,h5⟩:=jB;refine⟨z,_,uk (ob:=bQ ak.knd a (cY w8 k b z)) I3 (by rw[d3.at_];exact True.intro) w6 ⟨q,hq⟩ ⟨⟨hs,_,rel.put k b rz,q,es,ep,hq,h2,h3,h4,h5⟩,⟨q,hq⟩,?_⟩,rz,q4 hv⟩;rintro h1 kh ⟨y1,y2,y3,o,y4,y5,y6,y7⟩ dc;exact⟨y1,y2,y3,o,y4,y5,dc _ y6,y7⟩
end
section
variable{X:Cx}{K:Type}[DecidableEq K](ak:AK X.prog X.w K){k v:Expr}{pos:Pos}{tk tv:TE}
def YY(ak:AK X.prog X.w K)(tk tv:TE):TE:=λσ H Q=>∀p,H p=none->tk σ (upd H p (bQ ak.knd p [])) λy H1=>tv σ H1 λz H2=>dB λb kk=>gR (y= .ref b) (cC ak H2 p []) (ak.rel H2 kk b) (Q (.ref p) (upd H2 p (bQ ak.knd p [(kk,b,z)])))
def YZ(hu:X.A.units+64<cLine)(hk:PE X k tk)(hv:PE X v tv):PE X (.Dict [some k] [v] pos) (YY ak tk tv):=by
 intro pins s σ H Q I h;have hn:=I.aK.fresh (aW s.heap.objs.size);have I1:=I.laid (t':=s.toks) (λ_ _ q=>bI _ q) (aW _) (LN ak s I.wB _);refine wpAny_Dict_any rfl rfl (by simp) (by simp) ?_;refine pairTrees_cons_walk (aM (hk pins _ σ _ _ I1 (h _ hn)) λu s1 ⟨y,H1,J1,ry,q1⟩=>aM (hv pins s1 σ H1 _ J1 q1) λw2 s2 ⟨z,H2,J2,rz,b,kk,ey,d,hr,q2⟩=>pairTrees_nil_walk ?_);subst ey;obtain rfl:u=Value.ref b:=ry;unfold storeAll;rw[GV];obtain⟨hs,xs,rel,dd,_⟩:=pq J2 d;have hz:xs.length<=sizeLine:=by rw[<-bZ rel];exact d.len
 refine au (au (wpAny_dictSet_heap (ak.An hu) (ak.sound J2.aK hr).1 dd λh' jB w6=>aI ?_));obtain⟨q,es,ep,hq,h2,h3,h4,_,h5⟩:=jB;refine aI ⟨.ref s.heap.objs.size,_,uk (ob:=bQ ak.knd s.heap.objs.size [(kk,b,z)]) J2 (by rw[d.at_];exact True.intro) w6 ⟨q,hq⟩ ⟨⟨hs,_,rel.put kk b rz,q,es,ep,hq,h2,h3,h4,h5⟩,⟨q,hq⟩,?_⟩,rfl,q2⟩;rintro h1 kh ⟨y1,y2,y3,o,y4,y5,y6,y7⟩ dc;exact⟨y1,y2,y3,o,y4,y5,dc _ y6,y7⟩
end
def Y0:PySem.typeLookup (PySem.Value.type "list_reverseiterator") (PySem.Str.ofString "__len__")=pure none:=by rfl
def Y1:PySem.typeLookup (PySem.Value.type "list_reverseiterator") (PySem.Str.ofString "__length_hint__")=pure (some (.builtin "list_reverseiterator.__length_hint__")):=by rfl
def Y2:PySem.isSubtype (.type "list_reverseiterator") (.type "list_reverseiterator")=pure true:=by rfl
def Y3(hT:s.TypeIs (.ref r) "list_reverseiterator")(h:Q false s):wpAny (model prog w) A (Builtin.List.listLengthHint (.ref r)) Q E s:=by unfold Builtin.List.listLengthHint;refine au (l8 hT Y0 ?_);show wpAny _ _ (specialOf (.ref r) _>>=_) Q E s;refine au (l8 hT Y1 ?_);show wpAny _ _ (isInstance (.ref r) (.type "list_reverseiterator")>>=_) Q E s;refine au (qC hT Y2 ?_);exact aI h
def Y4(hh:A.handled=none)(hI:s.heap.IsRevIter I l ((items.size:Int) - 1))(hl:s.heap.IsList l items)(bO:l≠I)(hn:items.size<=sizeLine)(nI:S≠I)(nl:S≠l)(res:ao)
  (hS:s.heap.get? S=some {cls:=.type "list",data:=.seq #[] c0})
  (h:∀s' acc c,Moved [S,I] (λa b=>b=a) s s'->s'.heap.get? S=some {cls:=.type "list",data:=.seq acc c}->ItemsOf (λi v=>items[items.size - 1 - i]?=some v) acc items.size->R (.ok (.ret res)) s'):
  wpAny (model prog w) A.in1 (Builtin.List.listExtendWith (.ref S) (.ref I) res) (λfin s'=>match fin with| .done f=>R (.ok f) s'| .again c'=>c'.quiet=true/\codeAny (model prog w) A c' R s') (λe s'=>R (.error e) s') s:=by
 have hT:=hI.typeIs;unfold Builtin.List.listExtendWith;refine au (wpAny_typeOf hT ?_);have hs:(Builtin.List.listSameRef (.ref S) (.ref I)||(Value.type "list_reverseiterator"==Value.type "list")||(Value.type "list_reverseiterator"==Value.type "tuple"))=false:=by
  have e:Builtin.List.listSameRef (.ref S) (.ref I)=false:=by show(S==I)=false;simp[*]
  rw[e];decide
 rw[az (by simp[*])];refine au (wpAny_pyIter_revIter hI ?_);refine au ?_;try with_reducible refine jn ?_
 refine Y3 hT ?_;show wpAny _ _ (again _) _ _ s;have W:=(Walks.listRev (prog:=prog) (w:=w) (A:=A.in1) hh I l bO items).toS;exact aI ⟨B5 F.plain_extend_loop _,codeAny_extend_loopS W hn S (by simp[nI,nl]) res items.size 0 s #[] c0 (by rfl) (bL _) ⟨bL _,by simpa using hI,hl⟩ hS (ItemsOf.nil _) λs' acc c m jG hi=>h s' acc c m jG hi⟩
def Y5(hh:A.handled=none)(hI:s.heap.IsRevIter I l ((items.size:Int) - 1))(hl:s.heap.IsList l items)(bO:l≠I)(hn:items.size<=sizeLine)
  (h:∀s' acc c,Moved [s.heap.objs.size,I] (λa b=>b=a) s s'->s'.heap.get? s.heap.objs.size=some {cls:=.type "list",data:=.seq acc c}->ItemsOf (λi v=>items[items.size - 1 - i]?=some v) acc items.size->Q (.ref s.heap.objs.size) s'):
  wpAny (model prog w) A (call (.type "list") [.ref I]) Q E s:=by
 obtain⟨oI,Y6,_⟩:=id hI;obtain⟨ol,Aq,_⟩:=id hl;have nI:s.heap.objs.size≠I:=aO (dP (bK Y6));have nl:s.heap.objs.size≠l:=aO (dP (bK Aq));refine callType_codes (Q₁:=λobj s1=>obj= .ref s.heap.objs.size/\s1={s with heap:=s.heap.push {cls:=.type "list",data:=.seq #[]}}) F.called_list (F.typeCall_list_1 _) F.entry_list_init (code_list_new _ ⟨rfl,rfl⟩) ?_;rintro obj s1 ⟨rfl,rfl⟩;have hS:(s.heap.push {cls:=.type "list",data:=.seq #[]}).get? s.heap.objs.size=some {cls:=.type "list",data:=.seq #[]}:=cv _ rfl;refine⟨⟨_,hS,rfl⟩,F.args_list_init_2 _ _,?_⟩;have kp:∀b o,s.heap.get? b=some o->(s.heap.push {cls:=.type "list",data:=.seq #[]}).get? b=some o:=λb o e=>bI _ e
 show wpAny _ _ (Builtin.List.listItems (.ref s.heap.objs.size)>>=_) _ _ _;refine au (PyProof.Rows.listItems_at hS rfl ?_);refine au (PyProof.Rows.listUpdate_at hS rfl ?_);refine au (qD ?_);obtain⟨c0,fQ⟩:∃c,Obj.mapSeq (λ_=>#[]) ({cls:=.type "list",data:=.seq #[]}:Obj)={cls:=.type "list",data:=.seq #[] c}:=⟨_,rfl⟩;have Y7:((s.heap.push {cls:=.type "list",data:=.seq #[]}).update s.heap.objs.size (Obj.mapSeq λ_=>#[])).get? s.heap.objs.size=some {cls:=.type "list",data:=.seq #[] c0}:=by rw[<-fQ];exact vv _ hS (by rw[fQ];rfl)
 have k2:∀b o,b≠s.heap.objs.size->s.heap.get? b=some o->((s.heap.push {cls:=.type "list",data:=.seq #[]}).update s.heap.objs.size (Obj.mapSeq λ_=>#[])).get? b=some o:=λb o hb e=>by rw[(qB _ _ _).2 b hb];exact kp b o e
 have kI:∀b o,s.heap.get? b=some o->((s.heap.push {cls:=.type "list",data:=.seq #[]}).update s.heap.objs.size (Obj.mapSeq λ_=>#[])).get? b=some o:=λb o e=>k2 b o (dP (bK e)) e;refine Y4 (A:=A.in1) (c0:=c0) hh (hI.at λo e=>kI _ o e) ?_ bO hn nI nl .none Y7 λs' acc c m jG hi=>?_
 ·obtain⟨o,ho,r⟩:=hl;exact⟨o,kI _ o ho,r⟩
 refine⟨rfl,h s' acc c ⟨λb o hb e=>m.heap b o hb (kI b o e),m.gens,m.drawn,m.os,m.toks⟩ jG hi⟩
inductive LP(K:aa)(Q:VK)(x:V)(H1:Hp):Prop
 |mk:∀a xs,x= .ref a->aB K H1 a xs->(∀l,H1 l=none->Q (.ref l) (upd H1 l (.lst xs.reverse)))->LP K Q x H1
def Y8(K:aa)(te:TE):TE:=λσ H Q=>te σ H λx H1=>LP K Q x H1
def Y9(r:aY xs its):aY xs.reverse its.reverse:=by
 induction r with
 |nil=>exact .nil
 |cons r t ih=>rw[List.reverse_cons,List.reverse_cons];exact kX ih r
def Y_(hc:X.calm=true)(hg:Gl X "list")(hm:X.mg "list"=none)(Za:Gl X "reversed")(DS:X.mg "reversed"=none)(he:PE X e te)
  (h1:starEach [.Call (.Name "reversed" q) [e] [] pos2] X.env=[(false,eval (.Call (.Name "reversed" q) [e] [] pos2) X.env)]:=by rfl)(h2:starEach [e] X.env=[(false,eval e X.env)]:=by rfl):
  PE X (.Call (.Name "list" p) [.Call (.Name "reversed" q) [e] [] pos2] [] pos) (Y8 X.K te):=by
 intro pins s σ H Q I h;refine Call_ (ju I hg hm PyProof.Rows.boot_list (mX ?_ h1 rfl));rw[h1];refine kT ?_;refine Call_ (ju I Za DS Kd (mX ?_ h2 rfl));rw[h2];refine kT (aM (he pins s σ H _ I h) λv s1 ⟨x,H1,I1,r1,a,xs,ex,hq,k⟩=>oJ ?_);subst ex;obtain rfl:v=Value.ref a:=r1;obtain⟨its,rv,p',hz⟩:=I1.list hq;have hl:=rv.length;refine call_reversed_list p'.isList (oJ ?_);obtain⟨ol,Aq,_⟩:=p'.isList;have na:a≠s1.heap.objs.size:=dP (bK Aq);have hI:(s1.heap.push (revObj a ((its.toArray.size:Int) - 1))).IsRevIter s1.heap.objs.size a ((its.toArray.size:Int) - 1):=⟨_,cv _ rfl,rfl,rfl⟩;have hL:(s1.heap.push (revObj a ((its.toArray.size:Int) - 1))).IsList a its.toArray:=let⟨o,ho,r⟩:=p'.isList;⟨o,bI _ ho,r⟩;refine Y5 (s:={s1 with heap:=s1.heap.push (revObj a ((its.toArray.size:Int) - 1))}) (I1.ok.hd hc) hI hL na (by simp_all) λs' acc c m jG hi=>?_;have hsz:(s1.heap.push (revObj a ((its.toArray.size:Int) - 1))).objs.size=s1.heap.objs.size+1:=PyProof.Rows.size_push' _ _;have ha:acc.toList=its.reverse:=by
  refine List.ext_getElem? λi=>?_;obtain⟨LQ,hv⟩:=hi;simp only[iJ]at LQ hv;by_cases bq:i<its.length
  ·have:=hv i acc[i] (by simp[LQ,bq]);rw[List.getElem?_reverse bq];simp_all
  simp[*]
 have ea:acc=its.reverse.toArray:=by rw[<-ha]
 have keep:∀b o,s1.heap.get? b=some o->s'.heap.get? b=some o:=λb o e=>m.heap b o (by
  have:=bK e;simp only[be,fL,fM,not_or];exact⟨by show b≠(s1.heap.push _).objs.size;rw[hsz];exact dP (GX this),dP this⟩) (bI _ e)
 have new:cP X.prog X.w (upd H1 (s1.heap.objs.size+1) (.lst xs.reverse)) s'.heap (s1.heap.objs.size+1) (.lst xs.reverse):=
  ⟨by simp_all,its.reverse,c,Y9 rv,by rw[<-ea,<-hsz];exact jG⟩
 have es:s'={s1 with heap:=s'.heap,toks:=s'.toks}:=by have g:=m.gens;have d:=m.drawn;have o:=m.os;cases s';simp only at g d o;subst g d o;rfl
 rw[es];have I2:=I1.laid (a:=s1.heap.objs.size+1) (o:=.lst xs.reverse) (h':=s'.heap) (t':=s'.toks) keep (Nat.le_succ _) new;show EP X pins σ Q (.ref (s1.heap.push _).objs.size) _;rw[hsz];exact⟨.ref _,_,I2,rfl,k _ (I1.aK.fresh (Nat.le_succ _))⟩
end Yd
namespace Ym
open Yh
def fY(n:Nat):Bool:=n==10||n==32||n==46||(decide (48<=n)&&decide (n<=57))||(decide (65<=n)&&decide (n<=90))||(decide (97<=n)&&decide (n<=122))
def tr(c:UInt8):Nat:=if fY c.toNat=true then c.toNat else 63
def ln(b:Bytes):List Nat:=b.map tr
def DT(h:fY n=true):tr c=n↔c.toNat=n:=by
 unfold tr;by_cases k:fY c.toNat=true
 ·rw[aD k]
 rw[az k];constructor
 ·intro e;subst e;exact absurd h (by decide)
 lia
def DU{c d:UInt8}:c=d↔c.toNat=d.toNat:=⟨λe=>by rw[e],λe=>UInt8.toNat_inj.mp e⟩
def f6(n:Nat):Bool:=decide (65<=n)&&decide (n<=90)
def gA(n:Nat):Bool:=decide (48<=n)&&decide (n<=57)
def DV(c:UInt8):f6 (tr c)=isBig c:=by
 have e1:isBig c=f6 c.toNat:=rfl;rw[e1];unfold tr;split
 ·rfl
 rename_i h;have:f6 c.toNat=false:=by
  cases q:f6 c.toNat with
  |false=>rfl
  |true=>unfold f6 at q;exact absurd (by unfold fY;simp[*]) h
 rw[this];rfl
def DW(c:UInt8):gA (tr c)=isDigit c:=by
 have e1:isDigit c=gA c.toNat:=rfl;rw[e1];unfold tr;split
 ·rfl
 rename_i h;have:gA c.toNat=false:=by
  cases q:gA c.toNat with
  |false=>rfl
  |true=>unfold gA at q;exact absurd (by unfold fY;simp[*]) h
 rw[this];rfl
def lI(l:List Nat):Bool:=match l with
 |[]=>false
 |c::r=>decide (r.length<=3)&&(f6 c&&(c::r).all λx=>f6 x||gA x)
def LR(b:Bytes):lI (ln b)=isName b:=by
 cases b with
 |nil=>rfl
 |cons c r=>
  show(decide ((r.map tr).length<=3)&&(f6 (tr c)&&((tr c::r.map tr).all λx=>f6 x||gA x)))=(isBig c&&(decide (r.length<=3)&&r.all λx=>isBig x||isDigit x));rw[aT,BU,vB,DV,DW];have e:(λx=>f6 x||gA x)∘tr=λx=>isBig x||isDigit x:=funext λx=>by show(f6 (tr x)||gA (tr x))=_;rw[DV,DW]
  rw[e];cases isBig c<;>cases decide (r.length<=3)<;>simp
def gT(s:Nat):List Nat->List (List Nat)
 |[]=>[[]]
 |x::r=>match gT s r with
  |[]=>[[x]]
  |w::l=>if x=s then []::w::l else(x::w)::l
theorem pA(c:UInt8):∀b:Bytes,split c b≠[]
 |[]=>by simp[split]
 |x::r=>by
  unfold split;split
  ·simp
  split<;>simp
theorem LS(s:Nat):∀l:List Nat,gT s l≠[]
 |[]=>by simp[gT]
 |x::r=>by
  unfold gT;split
  ·simp
  split<;>simp
theorem LU{c:UInt8}(h:fY c.toNat=true):∀b:Bytes,gT c.toNat (ln b)=(split c b).map ln
 |[]=>rfl
 |x::r=>by
  have ih:=LU h r;show(match gT c.toNat (ln r)with
   |[]=>[[tr x]]
   |w::l=>if tr x=c.toNat then []::w::l else(tr x::w)::l)=(match split c r with
   |[]=>[[x]]
   |w::l=>if x=c then []::w::l else(x::w)::l).map ln
  rw[ih];cases q:split c r with
  |nil=>exact absurd q (pA c r)
  |cons w l=>
   have e:(tr x=c.toNat)↔(x=c):=(DT h).trans DU.symm;show(if tr x=c.toNat then []::ln w::l.map ln else(tr x::ln w)::l.map ln)=(if x=c then []::w::l else(x::w)::l).map ln;by_cases k:x=c
   ·rw[aD k,aD (e.mpr k)];rfl
   rw[az k,az (λz=>k (e.mp z))];rfl
def pB{s:List Nat}(hs:s.all fY=true){b t:Bytes}(ht:t.map UInt8.toNat=s):ln b=s↔b=t:=by
 subst ht;induction t generalizing b with
 |nil=>cases b<;>simp[ln]
 |cons d t ih=>
  cases b with
  |nil=>simp[ln]
  |cons c b=>
   have jG:fY d.toNat=true/\(t.map UInt8.toNat).all fY=true:=by simpa using hs
   show(tr c::ln b=d.toNat::t.map UInt8.toNat)↔_;rw[List.cons.injEq,List.cons.injEq,DT jG.1,ih jG.2,DU]
def Zb:ln b=[]↔b=[]:=by cases b<;>simp[ln]
def uC(b:Bytes):(ln b).length=b.length:=aT _
def jH(l:List Nat):Bool:=lI (l.take (l.length - 2))&&(decide (l[l.length - 2]?=some 46)&&(match l[l.length - 1]? with
 |some d=>decide (48<=d)&&decide (d<=51)
 |none=>false))
theorem LV:∀{b:Bytes},c∉b->split c b=[b]
 |[],_=>rfl
 |x::r,h=>by have h1:¬x=c:=λe=>h (by rw[e];exact cT);have ih:=LV (c:=c) (b:=r) λm=>h (bU _ m);unfold split;simp[*]
theorem LW:∀{a b:Bytes},c∉a->split c (a++c::b)=a::split c b
 |[],b,_=>by
  show split c (c::b)=_;rw[split];cases q:split c b with
  |nil=>exact absurd q (pA c b)
  |cons w l=>simp
 |x::r,b,h=>by have h1:¬x=c:=λe=>h (by rw[e];exact cT);have ih:=LW (c:=c) (a:=r) (b:=b) λm=>h (bU _ m);show split c (x::(r++c::b))=_;rw[split,ih];simp[*]
theorem DX:∀{b:Bytes} {w:Bytes} {l:List Bytes},split c b=w::l->(l=[]/\b=w/\c∉w)\/∃r,fN (b=w++c::r) (split c r=l) (c∉w)
 |[],w,l,h=>by have e:[[]]=w::l:=h;injection e with e1 e2;subst e1 e2;exact .inl ⟨rfl,rfl,by simp⟩
 |x::r,w,l,h=>by
  rw[split]at h;cases q:split c r with
  |nil=>exact absurd q (pA c r)
  |cons v m=>
   rw[q]at h;by_cases k:x=c
   ·simp only[aD k]at h;injection h with h1 h2;subst h1 h2;exact .inr ⟨r,by rw[k];rfl,q,by simp⟩
   simp only[az k]at h;injection h with h1 h2;subst h1 h2;rcases DX q with⟨e1,e2,e3⟩|⟨r',e1,e2,e3⟩
   ·exact .inl ⟨e1,by rw[e2],λz=>by simp_all⟩
   exact .inr ⟨r',by rw[e1];rfl,e2,λz=>by simp_all⟩
def Zc(hb:isBig c=false)(hd:isDigit c=false)(h:isName b=true):c∉b:=by
 cases b with
 |nil=>simp[*]
 |cons x r=>unfold isName at h;grind
def w9(b n:Bytes)(k:Nat):endIn b=some (n,k)↔∃d:UInt8,ma (b=n++[46,d]) (isName n=true) (48<=d) (d<=51) (k=d.toNat - 48):=by
 constructor
 ·intro h
  unfold endIn at h;split at h
  ·rename_i m d q
   split at h
   ·rename_i c
    injection h with h;injection h with h1 h2;subst h1 h2;rcases DX q with⟨e1,_,_⟩|⟨r,e1,e2,e3⟩
    ·simp_all
    rcases DX e2 with⟨_,e4,e5⟩|⟨r',_,e6,_⟩
    ·subst e4;exact⟨d,e1,c.1,c.2.1,c.2.2,rfl⟩
    exact absurd e6 (pA _ _)
   cases h
  cases h
 rintro⟨d,rfl,h1,h2,h3,rfl⟩;have Zd:(46:UInt8)∉n:=Zc (by decide) (by decide) h1;have Ze:(46:UInt8)∉[d]:=by grind
 unfold endIn;rw[LW Zd,LV Ze];simp[*]
theorem DY{α:Type}:∀{l:List α},2<=l.length->iY λa x y=>l=a++[x,y]
 |[],h=>by simp at h
 |[_],h=>by simp at h
 |[x,y],_=>⟨[],x,y,rfl⟩
 |a::b::c::r,_=>by obtain⟨z,x,y,e⟩:=DY (l:=b::c::r) (by simp);exact⟨a::z,x,y,by rw[e];rfl⟩
def DZ{α:Type}(a:List α)(x y:α):(a++[x,y]).take ((a++[x,y]).length - 2)=a:=by simp[*]
def Ar{α:Type}(a:List α)(x y:α):(a++[x,y])[(a++[x,y]).length - 2]?=some x/\(a++[x,y])[(a++[x,y]).length - 1]?=some y:=by simp[*]
def LX(a:List Nat)(x y:Nat):jH (a++[x,y])=(lI a&&(decide (x=46)&&(decide (48<=y)&&decide (y<=51)))):=by unfold jH;rw[DZ,(Ar a x y).1,(Ar a x y).2];simp
def Zf(h:l.length<=2):jH l=false:=by
 unfold jH;have e:l.length - 2=0:=by simp[*]
 rw[e];rfl
def As(h:n<256)(c:UInt8):((UInt8.ofNat n)<=c↔n<=c.toNat)/\(c<=UInt8.ofNat n↔c.toNat<=n):=by
 have e:(UInt8.ofNat n).toNat=n:=by simp[*]
 constructor
 ·rw[UInt8.le_iff_toNat_le,e]
 rw[UInt8.le_iff_toNat_le,e]
def Zg(b:Bytes):jH (ln b)=(endIn b).isSome:=by
 by_cases h:2<b.length
 ·obtain⟨a,x,d,rfl⟩:=DY (l:=b) (by exact gN ‹_›)
  have e:ln (a++[x,d])=ln a++[tr x,tr d]:=by simp[ln]
  rw[e,LX,LR];rw[oH];simp only[fo,iK,kW];have ex:tr x=46↔x=46:=(DT (by decide)).trans ⟨λe=>DU.mpr e,λe=>by rw[e];rfl⟩;have ed:(48<=tr d/\tr d<=51)↔(48<=d/\d<=51):=by
   have e1:=(As (n:=48) (by decide) d).1;have e2:=(As (n:=51) (by decide) d).2;have e3:(48<=d/\d<=51)↔(48<=d.toNat/\d.toNat<=51):=and_congr e1 e2;rw[e3];unfold tr;split
   ·rfl
   rename_i hk;constructor
   ·intro z;lia
   intro z;exact absurd (by unfold fY;simp only[vC,fo,iK];omega) hk
  rw[ex,ed];constructor
  ·rintro⟨h1,h2,h3⟩;exact⟨(a,d.toNat - 48),(w9 _ _ _).mpr ⟨d,by rw[h2],h1,h3.1,h3.2,rfl⟩⟩
  rintro⟨⟨n,k⟩,h1⟩;obtain⟨d',e1,h2,h3,h4,_⟩:=(w9 _ _ _).mp h1;have:=List.append_inj' e1 rfl;simp_all
 rw[Zf (by rw[uC];simp_all)];cases q:endIn b with
 |none=>rfl
 |some v=>
  obtain⟨n,k⟩:=v;obtain⟨d',e1,h2,h3,h4,_⟩:=(w9 _ _ _).mp q;subst e1;cases n with
  |nil=>assumption
  |cons c r=>simp at h
def Zh(h:endIn b=some (n,k)):(ln b).take ((ln b).length - 2)=ln n/\(ln b)[(ln b).length - 1]?=some (k+48)/\k<=3/\3<=b.length:=by
 obtain⟨d,e1,h2,h3,h4,h5⟩:=(w9 _ _ _).mp h;subst e1;have e:ln (n++[46,d])=ln n++[tr 46,tr d]:=by simp[ln]
 have e3:=(As (n:=48) (by decide) d).1.mp h3;have e4:=(As (n:=51) (by decide) d).2.mp h4;have et:tr d=d.toNat:=by unfold tr;rw[aD];unfold fY;simp only[vC,fo,iK];lia
 rw[e,DZ,(Ar _ _ _).2,et];refine⟨rfl,by simp[*],by simp[*],?_⟩;cases n with
 |nil=>cases h2
 |cons c r=>simp
end Ym
namespace Yn
open Yh
def Zi(l:List Nat):∀a:Nat,l.foldl max a=max a (l.foldl max 0):=by
 induction l with
 |nil=>intro a;simp
 |cons x r ih=>grind
def Au:maxOf []=0:=rfl
def uD(x:Nat)(l:List Nat):maxOf (x::l)=max x (maxOf l):=by unfold maxOf;rw[kZ,Zi];rfl
def Av{l:List Nat}{B:Nat}:maxOf l<=B↔∀x∈l,x<=B:=by
 induction l with
 |nil=>simp[Au]
 |cons x r ih=>rw[uD,List.forall_mem_cons,<-ih];omega
def nO{l:List Nat}{x:Nat}(h:x∈l):x<=maxOf l:=Av.mp (aW _) x h
def LY{l:List Nat}(h:0<maxOf l):maxOf l∈l:=by
 induction l with
 |nil=>simp[Au]at h
 |cons x r ih=>
  rw[uD]at h⊢;by_cases hx:maxOf r<=x
  ·simp[*]
  rw[Nat.max_eq_right (by lia)];exact bU _ (ih (by lia))
def LZ(a b:List Nat):maxOf (a++b)=max (maxOf a) (maxOf b):=by
 induction a with
 |nil=>simp[Au]
 |cons x r ih=>rw[GY,uD,uD,ih];simp[*]
def cD(l:List (Nat×Nat))(i:Nat):Option Nat:=l.foldl (λa x=>if x.1=i then some x.2 else a) none
def Zj(l:List (Nat×Nat))(i:Nat):∀a:Option Nat,l.foldl (λa x=>if x.1=i then some x.2 else a) a=(cD l i).or a:=by
 induction l with
 |nil=>intro a;simp[cD]
 |cons x r ih=>intro a;unfold cD;grind
def w_(i:Nat):cD [] i=none:=rfl
def uE(x:Nat×Nat)(l:List (Nat×Nat))(i:Nat):cD (x::l) i=(cD l i).or (if x.1=i then some x.2 else none):=by rw[<-Zj];rfl
def Zk(x:Nat×Nat)(l:List (Nat×Nat))(i:Nat):cD (l++[x]) i=if x.1=i then some x.2 else cD l i:=by unfold cD;simp[*]
def Zl{l:List (Nat×Nat)}{i T:Nat}(h:cD l i=some T):(i,T)∈l:=by
 induction l with
 |nil=>simp[w_]at h
 |cons x r ih=>
  rw[uE]at h;cases q:cD r i with
  |some z=>simp_all
  |none=>rw[q]at h;simp at h;obtain⟨h1,h2⟩:=h;subst h1 h2;exact cT
structure Mv where
 train:Nat
 what:Nat
 to:Places
 through:List Nat
 frees:List (Nat×Nat)
 bS:Nat
def ownOf(p:Places)(t:Nat):Nat:=(spotOf (p.getD t 0)).1
def iP(rs:List Route)(m:Move):List Nat:=if m.2<2 then []else match rs[m.2 - 2]? with
 |none=>[]
 |some r=>r.sects
def eS(rs:List Route)(p:Places)(m:Move):List Nat:=if m.2<2 then [ownOf p m.1]else match rs[m.2 - 2]? with
 |none=>[]
 |some r=>r.sects
def lJ(rs:List Route)(k:Takes)(p:Places)(m:Move):Nat:=(passed k 0 (eS rs p m)).getLastD 0
def nP(rs:List Route)(k:Takes)(p:Places)(m:Move):List (Nat×Nat):=if m.2=0 then []else if m.2=1 then [(ownOf p m.1,lJ rs k p m)]else
 (ownOf p m.1::(eS rs p m).dropLast).zip (passed k 0 (eS rs p m))
def cN(P:Plan)(rs:List Route)(k:Takes)(p:Places)(m:Move):Option Mv:=(moved P rs p m).map λq=>⟨m.1,m.2,q,iP rs m,nP rs k p m,lJ rs k p m⟩
def bM(e l:Mv):Nat:=if e.train=l.train then e.bS else maxOf (l.through.map λi=>(cD e.frees i).getD 0)
def bX(r:Nat)(h:List (Mv×Nat))(m:Mv):Nat:=h.foldl (λt x=>if 0<bM x.1 m then max t (x.2+bM x.1 m)else t) r
def Zm(r:Nat)(m:Mv):bX r [] m=r:=rfl
def Zn(r:Nat)(x:Mv×Nat)(h:List (Mv×Nat))(m:Mv):bX r (x::h) m=bX (if 0<bM x.1 m then max r (x.2+bM x.1 m)else r) h m:=rfl
def Aw{h:List (Mv×Nat)}{m:Mv}{B:Nat}:∀{r:Nat},bX r h m<=B↔r<=B/\∀x∈h,0<bM x.1 m->x.2+bM x.1 m<=B:=by
 induction h with
 |nil=>intro r;simp[Zm]
 |cons x l ih=>
  intro r;rw[Zn,ih,List.forall_mem_cons];by_cases w:0<bM x.1 m
  ·rw[aD w]
   constructor
   ·rintro⟨a,b⟩;exact⟨by grind,λ_=>by grind,b⟩
   rintro⟨a,b,c⟩;exact⟨by have:=b w;lia,c⟩
  simp[*]
def L0{r:Nat}{h:List (Mv×Nat)}{m:Mv}:r<=bX r h m:=(Aw.mp (aW _)).1
def xa{r:Nat}{h:List (Mv×Nat)}{m:Mv}{x:Mv×Nat}(hx:x∈h)(w:0<bM x.1 m):x.2+bM x.1 m<=bX r h m:=(Aw.mp (aW _)).2 x hx w
def L3(k:Takes)(l:List Nat):∀s a:Nat,passed k (s+a) l=(passed k a l).map λt=>s+t:=by
 induction l with
 |nil=>intro s a;rfl
 |cons i r ih=>intro s a;unfold passed;rw[cA,Nat.add_assoc,ih]
def Zo(k:Takes)(l:List Nat):∀s:Nat,(passed k s l).length=l.length:=by
 induction l with
 |nil=>intro s;rfl
 |cons i r ih=>intro s;unfold passed;simp[*]
def Zp{k:Takes}{l:List Nat}(hl:l≠[])(s:Nat):(passed k s l).getLastD s=s+(passed k 0 l).getLastD 0:=by
 have e:=L3 k l s 0;rw[B9]at e;rw[e];cases l with
 |nil=>exact absurd rfl hl
 |cons i r=>unfold passed;rw[cA];rw[Hi,Hi,List.getLastD_map]
def L4{k:Takes}(hk:∀i,1<=k.of i){l:List Nat}:∀{s t:Nat},t∈passed k s l->s+1<=t/\t<=(passed k s l).getLastD s:=by
 induction l with
 |nil=>intro s t h;cases h
 |cons i r ih=>
  intro s t h;unfold passed at h⊢;rw[Hi];have hi:=hk i;have up:∀u,u<=(passed k u r).getLastD u:=by
   intro u;cases r with
   |nil=>exact aW _
   |cons j r'=>have:=@ih u (u+k.of j) (by unfold passed;exact cT);lia
  rcases be.mp h with e|h
  ·subst e;exact⟨by simp[*],up _⟩
  have:=ih h;lia
def Zq{k:Takes}(hk:∀i,1<=k.of i){l:List Nat}(hl:l≠[]):1<=(passed k 0 l).getLastD 0:=by
 cases l with
 |nil=>exact absurd rfl hl
 |cons i r=>have:=@L4 k hk (i::r) 0 (0+k.of i) (by unfold passed;exact cT);lia
theorem L5(j:Nat):∀(is ts:List Nat) (f:List (Nat×Option Nat)),(freed j f is ts).length=f.length
 |[],_,f=>by unfold freed;rfl
 |_::_,[],f=>by unfold freed;rfl
 |i::is,t::ts,f=>by unfold freed;rw[L5 j is ts,tK]
theorem L6(j:Nat):∀(is ts:List Nat) (f:List (Nat×Option Nat)) (i:Nat),i<f.length->(freed j f is ts)[i]?=(match cD (is.zip ts) i with
  |some t=>some (t,some j)
  |none=>f[i]?)
 |[],ts,f,i,h=>by unfold freed;simp[w_]
 |a::is,[],f,i,h=>by unfold freed;simp[w_]
 |a::is,t::ts,f,i,h=>by
  unfold freed;rw[L6 j is ts _ i (by simp[*]),List.zip_cons_cons,uE];cases cD (is.zip ts) i with
  |some z=>simp
  |none=>
   by_cases e:a=i
   ·subst e;simp[h]
   simp[e,jS]
theorem zip_map_right(f:Nat->Nat):∀(a b:List Nat),a.zip (b.map f)=(a.zip b).map λx=>(x.1,f x.2)
 |[],_=>by simp
 |_::_,[]=>by simp
 |x::a,y::b=>by simp[zip_map_right f a b]
theorem L7(f:Nat->Nat)(i:Nat):∀l:List (Nat×Nat),cD (l.map λx=>(x.1,f x.2)) i=(cD l i).map f
 |[]=>rfl
 |x::l=>by
  rw[cA,uE,uE,L7 f i l];cases cD l i with
  |some z=>simp
  |none=>simp[*]
structure nQ(rs:List Route)(k:Takes)(S:Nat):Prop where
 takes:∀i,1<=k.of i
 sects:∀r∈rs,r.steps≠[]/\∀i∈r.sects,i<S
 rest:∀r∈rs,r.rests.2<2
structure de(S:Nat)(p:Places):Prop where
 len:p.length=3
 inn:∀(t c:Nat),p[t]?=some c->c≠0->(spotOf c).1<S
 apart:∀(t u c d:Nat),p[t]?=some c->p[u]?=some d->c≠0->d≠0->t≠u->(spotOf c).1≠(spotOf d).1
def rP(h:x.2<2):spotOf (codeOf x)=x:=by
 unfold spotOf codeOf;refine tJ ?_ ?_
 ·show(1+2*x.1+x.2 - 1) /2=x.1;lia
 show(1+2*x.1+x.2 - 1) % 2=x.2;lia
def Zr(x:Spot):codeOf x≠0:=by unfold codeOf;lia
def rQ(c:Nat):(spotOf c).2<2:=by unfold spotOf;exact Nat.mod_lt _ (by decide)
def L8(h:c≠0):codeOf (spotOf c)=c:=by unfold spotOf codeOf;show 1+2*((c - 1) /2)+(c - 1) % 2=c;lia
def Zs(hc:c≠0)(hd:d≠0)(h:spotOf c=spotOf d):c=d:=by rw[<-L8 hc,<-L8 hd,h]
def rR(h:moved P rs p m=some q):∃c,fN (p[m.1]?=some c) (c≠0) ((m.2=0/\q=p.set m.1 (codeOf ((spotOf c).1,1 -(spotOf c).2)))\/(m.2=1/\P.isBorder (spotOf c)=true/\q=p.set m.1 0)\/
   (2<=m.2/\∃r,gR (rs[m.2 - 2]?=some r) (P.signalAt (spotOf c)=some r.signal) (r.sects.any (inIt p)=false) (q=p.set m.1 (codeOf r.rests)))):=by
 unfold moved at h;split at h
 ·cases h
 ·cases h
 rename_i c hc hp;refine⟨c,hp,λe=>hc e,?_⟩;simp only at h;by_cases h0:m.2=0
 ·rw[aD h0]at h;exact .inl ⟨h0,(bC h).symm⟩
 rw[az h0]at h;by_cases h1:m.2=1
 ·simp_all
 rw[az h1]at h;cases hr:rs[m.2 - 2]? with
 |none=>simp_all
 |some r=>
  rw[hr]at h;simp only at h;split at h
  ·rename_i hh;exact .inr (.inr ⟨by lia,r,rfl,hh.1,hh.2,(bC h).symm⟩)
  cases h
def D0(h:moved P rs p m=some q)(l:p.length=3):m.1<3:=by obtain⟨c,hc,_⟩:=rR h;have:=(dq.mp hc).1;simp_all
def L9{r:Route}(h:r.steps≠[]):r.rests.1∈r.sects:=by unfold Route.rests Route.sects;rw[List.getLast?_eq_some_getLast h];exact b_.mpr ⟨_,List.getLast_mem h,rfl⟩
def L_{p:Places}{i:Nat}(h:inIt p i=false){t c:Nat}(hc:p[t]?=some c)(h0:c≠0):(spotOf c).1≠i:=by
 intro e;have:inIt p i=true:=by unfold inIt;rw[B_];exact⟨c,d_ hc,by simp[h0,e]⟩
 simp_all
theorem de.set(A:de S p)(t c:Nat)(h1:c≠0->(spotOf c).1<S)(h2:c≠0->∀u d,u≠t->p[u]?=some d->d≠0->(spotOf d).1≠(spotOf c).1):de S (p.set t c):=by
 refine⟨by rw[tK];exact A.len,λu d hd h0=>?_,λu v d e hd he h0 rS n=>?_⟩
 ·by_cases e:t=u
  ·subst e
   rw[List.getElem?_set_self']at hd;cases q:p[t]? with
   |none=>simp_all
   |some z=>rw[q]at hd;cases hd;exact h1 h0
  rw[jS e]at hd;exact A.inn u d hd h0
 have self:∀z,(p.set t c)[t]?=some z->z=c:=λz hz=>by rw[List.getElem?_set_self']at hz;simp_all
 by_cases e1:t=u
 ·subst e1;obtain rfl:=self _ hd;rw[jS n]at he;exact(h2 h0 v e (λz=>n z.symm) he rS).symm
 rw[jS e1]at hd;by_cases e2:t=v
 ·subst e2;obtain rfl:=self _ he;exact h2 rS u d n hd h0
 rw[jS e2]at he;exact A.apart u v d e hd he h0 rS n
theorem de.moved{P:Plan}{rs:List Route}{k:Takes}{S:Nat}{p q:Places}{m:Move}(L:nQ rs k S)(A:de S p)(h:moved P rs p m=some q):de S q:=by
 obtain⟨c,hc,h0,h⟩:=rR h;rcases h with⟨e,rfl⟩|⟨e,_,rfl⟩|⟨e,r,hr,_,hi,rfl⟩
 ·have hs:spotOf (codeOf ((spotOf c).1,1 -(spotOf c).2))=((spotOf c).1,1 -(spotOf c).2):=rP (by show 1 -(spotOf c).2<2;omega)
  refine A.set _ _ (λ_=>?_) (λ_ u d n hd rS=>?_)
  ·rw[hs];exact A.inn _ _ hc h0
  rw[hs];exact A.apart _ _ _ _ hd hc rS h0 n
 ·exact A.set _ _ (λz=>absurd rfl z) (λz=>absurd rfl z)
 have pC:=d_ hr;have hs:spotOf (codeOf r.rests)=r.rests:=rP (L.rest r pC);have hm:=L9 (L.sects r pC).1;refine A.set _ _ (λ_=>?_) (λ_ u d n hd rS=>?_)
 ·rw[hs];exact(L.sects r pC).2 _ hm
 rw[hs];refine L_ ?_ hd rS;simp_all
abbrev rd(c:Clock)(t:Nat):Nat×Option Nat:=c.ready.getD t (0,none)
abbrev fr(c:Clock)(i:Nat):Nat×Option Nat:=c.frees.getD i (0,none)
structure Rel(S:Nat)(r0:List Nat)(h:List (Mv×Nat))(c:Clock):Prop where
 at_:de S c.at_
 mI:c.ready.length=3
 rT:c.frees.length=S
 rA:∀(j:Nat) (x:Mv×Nat),h[j]?=some x->x.1.train<3/\x.2+x.1.bS<=(rd c x.1.train).1/\(x.2+x.1.bS=(rd c x.1.train).1->(rd c x.1.train).2=some j)
 rB:∀(j:Nat) (x:Mv×Nat) (i T:Nat),h[j]?=some x->cD x.1.frees i=some T->i<S/\1<=T/\T<=x.1.bS/\x.2+T<=(fr c i).1/\(x.2+T=(fr c i).1->(fr c i).2=some j)
 D1:∀t,t<3->r0.getD t 0<=(rd c t).1
 Ma:∀t,t<3->(rd c t).2=none->(rd c t).1=r0.getD t 0
 D3:∀t j,t<3->(rd c t).2=some j->∃x,h[j]?=some x/\x.1.train=t/\(rd c t).1=x.2+x.1.bS
 Mb:∀i,(fr c i).2=none->(fr c i).1=0
 D4:∀i j,(fr c i).2=some j->∃x T,h[j]?=some x/\cD x.1.frees i=some T/\(fr c i).1=x.2+T
 rE:∀(t d:Nat),c.at_[t]?=some d->d≠0->(fr c (spotOf d).1).1<=(rd c t).1
 rG:∀(j:Nat) (x:Mv×Nat),h[j]?=some x->1<=x.1.bS
def Ax(rs:List Route)(c:Clock)(m:Move):waits rs c m=rd c m.1::(iP rs m).map λi=>fr c i:=by
 unfold waits iP;by_cases h:m.2<2
 ·rw[aD h,aD h];rfl
 rw[az h,az h];cases rs[m.2 - 2]? with
 |none=>rfl
 |some r=>rfl
def rV(h:e.train=l.train):bM e l=e.bS:=by unfold bM;rw[aD h]
def D5(h:e.train≠l.train):bM e l=maxOf (l.through.map λi=>(cD e.frees i).getD 0):=by unfold bM;rw[az h]
def Mc(h:e.train≠l.train)(w:0<bM e l):∃i∈l.through,cD e.frees i=some (bM e l):=by
 rw[D5 h]at w⊢;obtain⟨i,hi,e'⟩:=b_.mp (LY w);refine⟨i,hi,?_⟩;cases q:cD e.frees i with
 |none=>rw[q]at e';simp at e';omega
 |some T=>simp_all
def Md(h:e.train≠l.train)(hi:i∈l.through)(q:cD e.frees i=some T):T<=bM e l:=by rw[D5 h];refine nO (b_.mpr ⟨i,hi,?_⟩);rw[q];rfl
def Bound(h:List (Mv×Nat))(mv:Mv)(b j:Nat):Prop:=∃x,fN (h[j]?=some x) (0<bM x.1 mv) (x.2+bM x.1 mv=b)
def Me(R:Rel S r0 h c)(e1:mv.train=m.1)(e2:mv.through=iP rs m)(h3:m.1<3):maxOf ((waits rs c m).map λx=>x.1)=bX (r0.getD m.1 0) h mv:=by
 rw[Ax,cA,uD,fz];apply Nat.le_antisymm
 ·refine Nat.max_le.mpr ⟨?_,Av.mpr λy hy=>?_⟩
  ·cases q:(rd c m.1).2 with
   |none=>rw[R.Ma _ h3 q];exact L0
   |some j=>obtain⟨x,hx,ht,e⟩:=R.D3 _ _ h3 q;rw[e];have w:bM x.1 mv=x.1.bS:=rV (ht.trans e1.symm);rw[<-w];exact xa (d_ hx) (by rw[w];exact R.rG j x hx)
  obtain⟨i,hi,rfl⟩:=b_.mp hy;show(fr c i).1<=_;cases q:(fr c i).2 with
  |none=>rw[R.Mb _ q];exact bL _
  |some j=>
   obtain⟨x,T,hx,hT,e⟩:=R.D4 _ _ q;obtain⟨_,T1,T2,_⟩:=R.rB j x i T hx hT;rw[e];by_cases ht:x.1.train=mv.train
   ·have w:bM x.1 mv=x.1.bS:=rV ht;have:=@xa (r0.getD m.1 0) h mv x (d_ hx) (by rw[w];exact R.rG j x hx);lia
   have w:=Md ht (by rw[e2];exact hi) hT;have:=@xa (r0.getD m.1 0) h mv x (d_ hx) (by exact cF ‹_› ‹_›);lia
 refine Aw.mpr ⟨?_,λx hx w=>?_⟩
 ·exact cF (R.D1 _ h3) (Nat.le_max_left _ _)
 obtain⟨j,hj⟩:=Hj.mp hx;by_cases ht:x.1.train=mv.train
 ·rw[rV ht];have:=(R.rA j x hj).2.1;rw[ht,e1]at this;exact cF this (Nat.le_max_left _ _)
 obtain⟨i,hi,hT⟩:=Mc ht w;have:=(R.rB j x i _ hj hT).2.2.2.1;refine cF this (cF (nO ?_) (Nat.le_max_right _ _));exact b_.mpr ⟨i,by simp_all,rfl⟩
def Zt(R:Rel S r0 h c)(e1:mv.train=m.1)(e2:mv.through=iP rs m)(h3:m.1<3)(j:Nat):
  j∈((waits rs c m).filter λx=>x.1==bX (r0.getD m.1 0) h mv).filterMap (λx=>x.2)↔Bound h mv (bX (r0.getD m.1 0) h mv) j:=by
 have hs:=Me (rs:=rs) (m:=m) R e1 e2 h3;generalize hb:bX (r0.getD m.1 0) h mv=b at hs⊢;have up:∀w∈waits rs c m,w.1<=b:=λw hw=>by rw[<-hs];exact nO (b_.mpr ⟨w,hw,rfl⟩)
 have lo:∀x∈h,0<bM x.1 mv->x.2+bM x.1 mv<=b:=λx hx w=>by rw[<-hb];exact xa hx w
 rw[Ax]at up⊢;simp only[BQ,tF,be,b_,tH]at up⊢;constructor
 ·rintro⟨w,⟨hw,eb⟩,ej⟩
  rcases hw with rfl|⟨i,hi,rfl⟩
  ·obtain⟨x,hx,ht,e⟩:=R.D3 _ _ h3 ej;have w:bM x.1 mv=x.1.bS:=rV (ht.trans e1.symm);exact⟨x,hx,by rw[w];exact R.rG j x hx,by simp_all⟩
  obtain⟨x,T,hx,hT,e⟩:=R.D4 _ _ ej;obtain⟨_,T1,T2,_⟩:=R.rB j x i T hx hT;have wT:T<=bM x.1 mv:=by
   by_cases ht:x.1.train=mv.train
   ·rw[rV ht];exact T2
   exact Md ht (by rw[e2];exact hi) hT
  have:=lo x (d_ hx) (by exact cF ‹_› ‹_›);exact⟨x,hx,by exact cF ‹_› ‹_›,by lia⟩
 rintro⟨x,hx,w,e⟩;by_cases ht:x.1.train=mv.train
 ·rw[rV ht]at e;obtain⟨_,a1,a2⟩:=R.rA j x hx;rw[ht,e1]at a1 a2;have:=up (rd c m.1) (.inl rfl);exact⟨rd c m.1,⟨.inl rfl,by lia⟩,a2 (by lia)⟩
 obtain⟨i,hi,hT⟩:=Mc ht w;obtain⟨_,_,_,b1,b2⟩:=R.rB j x i _ hx hT;have:=up (fr c i) (.inr ⟨i,by simp_all,rfl⟩);exact⟨fr c i,⟨.inr ⟨i,by rw[<-e2];exact hi,rfl⟩,by lia⟩,b2 (by lia)⟩
section
variable{P:Plan}{rs:List Route}{k:Takes}{S:Nat}{p:Places}{m:Move}{mv:Mv}{r0:List Nat}{h:List (Mv×Nat)}{c:Clock}
theorem rW(e:cN P rs k p m=some mv):∃q,moved P rs p m=some q/\mv=⟨m.1,m.2,q,iP rs m,nP rs k p m,lJ rs k p m⟩:=by unfold cN at e;obtain⟨q,h1,h2⟩:=jq.mp e;exact⟨q,h1,h2.symm⟩
theorem Mf(L:nQ rs k S)(hq:moved P rs p m=some q):eS rs p m≠[]:=by
 unfold eS;obtain⟨c,_,_,h⟩:=rR hq;rcases h with⟨e,_⟩|⟨e,_⟩|⟨e,r,hr,_⟩
 ·simp[*]
 ·simp[*]
 rw[az (by simp[*]),hr];have:=(L.sects r (d_ hr)).1;intro z;exact this (Hk.mp z)
theorem Mg(L:nQ rs k S)(e:cN P rs k p m=some mv):1<=mv.bS:=by obtain⟨q,hq,rfl⟩:=rW e;exact Zq L.takes (Mf L hq)
theorem D6(L:nQ rs k S)(e:cN P rs k p m=some mv)(hT:cD mv.frees i=some T):(i=ownOf p m.1\/i∈mv.through)/\1<=T/\T<=mv.bS/\m.2≠0:=by
 have l1:=Mg L e;obtain⟨q,hq,rfl⟩:=rW e;have D7:cD (nP rs k p m) i=some T:=hT;show(i=ownOf p m.1\/i∈iP rs m)/\1<=T/\T<=lJ rs k p m/\m.2≠0;have l1':1<=lJ rs k p m:=l1;have hm:=Zl D7;unfold nP at hm;by_cases h0:m.2=0
 ·simp_all
 rw[az h0]at hm;by_cases h1:m.2=1
 ·simp_all
 rw[az h1]at hm;obtain⟨ha,hb⟩:=GQ hm;have hp:=L4 L.takes hb;refine⟨?_,by simp[*],hp.2,h0⟩;rcases be.mp ha with ha|ha
 ·exact .inl ha
 refine .inr ?_;have:=(List.dropLast_sublist _).subset ha;unfold eS at this;unfold iP;rw[az (by lia)]at this⊢;exact this
theorem Mh(L:nQ rs k S)(hi:i∈iP rs m):i<S:=by
 unfold iP at hi;split at hi
 ·simp_all
 cases hr:rs[m.2 - 2]? with
 |none=>simp_all
 |some r=>rw[hr]at hi;exact(L.sects r (d_ hr)).2 i hi
theorem Zu(hq:moved P rs p m=some q):∃d,fN (p[m.1]?=some d) (d≠0) (ownOf p m.1=(spotOf d).1):=by obtain⟨d,hd,h0,_⟩:=rR hq;refine⟨d,hd,h0,?_⟩;unfold ownOf;simp[*]
theorem Mi{α:Type}(l:List α)(i t:Nat)(x d:α)(hi:i<l.length):(l.set i x).getD t d=if t=i then x else l.getD t d:=by grind
theorem Mj(L:nQ rs k S)(R:Rel S r0 h c)(e:cN P rs k c.at_ m=some mv)(late:Nat):dB λc' binds=>gR (c.makes P rs k h.length m late=some (c',⟨bX (r0.getD m.1 0) h mv+late,bX (r0.getD m.1 0) h mv+late+mv.bS,binds⟩)) (Rel S r0 (h++[(mv,bX (r0.getD m.1 0) h mv+late)]) c') (c'.at_=mv.to) (∀j,j∈binds↔Bound h mv (bX (r0.getD m.1 0) h mv) j):=by
 obtain⟨q,hq,pD⟩:=rW e;have h3:m.1<3:=D0 hq R.at_.len;have et:mv.train=m.1:=by rw[pD]
 have rX:mv.through=iP rs m:=by rw[pD]
 have hs:=Me (rs:=rs) (m:=m) R et rX h3;have hb:=Zt (rs:=rs) (m:=m) R et rX h3;generalize bX (r0.getD m.1 0) h mv=b0 at hs hb⊢;have hl:=Mg L e;have Zv:=Mf L hq;obtain⟨d0,kC,D8,i8⟩:=Zu hq;have D9:ownOf c.at_ m.1<S:=by rw[i8];exact R.at_.inn _ _ kC D8
 have Ml:∀i∈mv.through,(fr c i).1<=b0:=λi hi=>by rw[<-hs,Ax];exact nO (b_.mpr ⟨fr c i,bU _ (b_.mpr ⟨i,by rw[<-rX];exact hi,rfl⟩),rfl⟩)
 have Zw:(rd c m.1).1<=b0:=by rw[<-hs,Ax];exact nO (b_.mpr ⟨rd c m.1,cT,rfl⟩)
 have Mm:(fr c (ownOf c.at_ m.1)).1<=b0:=by rw[i8];exact cF (R.rE _ _ kC D8) Zw
 let s:=b0+late;let f':List (Nat×Option Nat):=if m.2=0 then c.frees else if m.2=1 then c.frees.set (ownOf c.at_ m.1) (s+mv.bS,some h.length)else freed h.length c.frees (ownOf c.at_ m.1::(eS rs c.at_ m).dropLast) (passed k s (eS rs c.at_ m));let c':Clock:=⟨q,c.ready.set m.1 (s+mv.bS,some h.length),f'⟩;have D_:(passed k s (eS rs c.at_ m)).getLastD s=s+mv.bS:=by rw[Zp Zv,pD];rfl
 refine⟨c',((waits rs c m).filter λx=>x.1==b0).filterMap (λx=>x.2),?_,?_,?_,hb⟩
 ·unfold Clock.makes
  rw[hq];simp only;rw[hs];show some (Clock.mk q (c.ready.set m.1 ((passed k s (eS rs c.at_ m)).getLastD s,some h.length)) (if m.2=0 then c.frees else if m.2=1 then c.frees.set (ownOf c.at_ m.1) ((passed k s (eS rs c.at_ m)).getLastD s,some h.length)else freed h.length c.frees (ownOf c.at_ m.1::(eS rs c.at_ m).dropLast) (passed k s (eS rs c.at_ m))),
   Slot.mk s ((passed k s (eS rs c.at_ m)).getLastD s) _)=_
  rw[D_]
 ·have Zx:f'.length=S:=by
   show(if m.2=0 then c.frees else if m.2=1 then c.frees.set (ownOf c.at_ m.1) (s+mv.bS,some h.length)else freed h.length c.frees (ownOf c.at_ m.1::(eS rs c.at_ m).dropLast) (passed k s (eS rs c.at_ m))).length=S;split
   ·exact R.rT
   split
   ·rw[tK];exact R.rT
   rw[L5];exact R.rT
  have rY:∀t,rd c' t=if t=m.1 then(s+mv.bS,some h.length)else rd c t:=λt=>Mi _ _ _ _ _ (by rw[R.mI];exact h3);have uF:∀i,fr c' i=match cD mv.frees i with
    |some T=>(s+T,some h.length)
    |none=>fr c i:=by
   intro i;by_cases hi:i<S
   ·show f'.getD i (0,none)=_
    show(if m.2=0 then c.frees else if m.2=1 then c.frees.set (ownOf c.at_ m.1) (s+mv.bS,some h.length)else freed h.length c.frees (ownOf c.at_ m.1::(eS rs c.at_ m).dropLast) (passed k s (eS rs c.at_ m))).getD i (0,none)=_;have ef:mv.frees=nP rs k c.at_ m:=by rw[pD]
    rw[ef];unfold nP;by_cases h0:m.2=0
    ·rw[aD h0,aD h0];rfl
    rw[az h0,az h0];by_cases h1:m.2=1
    ·rw[aD h1,aD h1,Mi _ _ _ _ _ (by rw[R.rT];exact D9),uE,w_]
     by_cases eo:ownOf c.at_ m.1=i
     ·simp_all
     rw[az (λz=>eo z.symm)];simp only[eo,fK,Option.none_or]
    rw[az h1,az h1,l_,L6 _ _ _ _ _ (by rw[R.rT];exact hi)];have ep:passed k s (eS rs c.at_ m)=(passed k 0 (eS rs c.at_ m)).map λt=>s+t:=by have:=L3 k (eS rs c.at_ m) s 0;assumption
    rw[ep,zip_map_right,L7];cases cD ((ownOf c.at_ m.1::(eS rs c.at_ m).dropLast).zip (passed k 0 (eS rs c.at_ m))) i with
    |some T=>rfl
    |none=>simp[*]
   have n1:fr c' i=(0,none):=by show f'.getD i (0,none)=_;simp[*]
   have n2:fr c i=(0,none):=by show c.frees.getD i (0,none)=_;rw[l_,List.getElem?_eq_none (by rw[R.rT];simp_all)];rfl
   cases qT:cD mv.frees i with
   |none=>rw[n1];exact n2.symm
   |some T=>
    obtain⟨hm,_⟩:=D6 L e qT;exfalso;rcases hm with hm|hm
    ·exact hi (by rw[hm];exact D9)
    rw[rX]at hm;exact hi (Mh L hm)
  have Ea:∀i T,cD mv.frees i=some T->i<S/\1<=T/\T<=mv.bS/\(fr c i).1<=b0:=λi T hT=>by
   obtain⟨hm,t1,t2,_⟩:=D6 L e hT;rcases hm with hm|hm
   ·exact⟨by rw[hm];exact D9,t1,t2,by rw[hm];exact Mm⟩
   exact⟨by rw[rX]at hm;exact Mh L hm,t1,t2,Ml i hm⟩
  have idx:∀(j:Nat) (x:Mv×Nat),(h++[(mv,s)])[j]?=some x->(j<h.length/\h[j]?=some x)\/(j=h.length/\x=(mv,s)):=by
   intro j x hx;by_cases hj:j<h.length
   ·rw[tI hj]at hx;exact .inl ⟨hj,hx⟩
   rw[BS (by simp_all)]at hx;have:j - h.length=0:=by have:=(dq.mp hx).1;simp at this;omega
   rw[this]at hx;exact .inr ⟨by grind,(bC hx).symm⟩
  have old:∀(j:Nat) (x:Mv×Nat),h[j]?=some x->(h++[(mv,s)])[j]?=some x:=λj x hx=>by rw[tI (dq.mp hx).1];exact hx
  have new:(h++[(mv,s)])[h.length]?=some (mv,s):=by rw[BS (aW _),Nat.sub_self];rfl
  refine⟨R.at_.moved L hq,by show(c.ready.set m.1 _).length=3;rw[tK];exact R.mI,Zx,?_,?_,?_,?_,?_,?_,?_,?_,?_⟩
  ·intro j x hx
   rcases idx j x hx with⟨hj,hx⟩|⟨rfl,rfl⟩
   ·obtain⟨a1,a2,a3⟩:=R.rA j x hx
    rw[rY];by_cases Eb:x.1.train=m.1
    ·rw[aD Eb];rw[Eb]at a2;exact⟨a1,by show _<=b0+late+mv.bS;lia,λz=>by have z':x.2+x.1.bS=b0+late+mv.bS:=z;lia⟩
    rw[az Eb];exact⟨a1,a2,a3⟩
   rw[rY,aD et];exact⟨by rw[et];exact h3,aW _,λ_=>rfl⟩
  ·intro j x i T hx hT
   rcases idx j x hx with⟨hj,hx⟩|⟨rfl,rfl⟩
   ·obtain⟨a1,a2,a3,a4,a5⟩:=R.rB j x i T hx hT
    rw[uF];cases qT:cD mv.frees i with
    |none=>exact⟨a1,a2,a3,a4,a5⟩
    |some T'=>obtain⟨_,t1,t2,t3⟩:=Ea i T' qT;exact⟨a1,a2,a3,by show _<=b0+late+T';lia,λz=>by have z':x.2+T=b0+late+T':=z;lia⟩
   obtain⟨t0,t1,t2,t3⟩:=Ea i T hT;have D7:cD mv.frees i=some T:=hT;rw[uF,D7];exact⟨t0,t1,t2,aW _,λ_=>rfl⟩
  ·intro t ht
   rw[rY];split
   ·rename_i z;have:=R.D1 t ht;rw[z]at this⊢;show _<=b0+late+mv.bS;lia
   exact R.D1 t ht
  ·intro t ht
   rw[rY];split
   ·lia
   exact R.Ma t ht
  ·intro t j ht
   rw[rY];split
   ·rename_i z;intro zz;cases zz;exact⟨_,new,by rw[et,z],rfl⟩
   intro zz;obtain⟨x,hx,r⟩:=R.D3 t j ht zz;exact⟨x,old j x hx,r⟩
  ·intro i
   rw[uF];cases cD mv.frees i with
   |none=>exact R.Mb i
   |some T=>simp[*]
  ·intro i j
   rw[uF];cases qT:cD mv.frees i with
   |none=>intro zz;obtain⟨x,T,hx,r⟩:=R.D4 i j zz;exact⟨x,T,old j x hx,r⟩
   |some T=>intro zz;cases zz;exact⟨_,T,new,qT,rfl⟩
  ·intro t d hd d0
   have gu:q[t]?=some d:=hd;by_cases Ay:t=m.1
   ·subst Ay
    rw[rY,aD rfl];show(fr c' (spotOf d).1).1<=b0+late+mv.bS;rw[uF];cases qT:cD mv.frees (spotOf d).1 with
    |some T=>have:=Ea _ T qT;show b0+late+T<=_;lia
    |none=>
     show(fr c (spotOf d).1).1<=_;obtain⟨c0,fQ,Mn,gH⟩:=rR hq;rcases gH with⟨_,rfl⟩|⟨_,_,rfl⟩|⟨h2,r,hr,_,_,rfl⟩
     ·rw[yU (by rw[R.at_.len];exact h3)]at gu;obtain rfl:=bC gu;rw[rP (by show 1 -(spotOf c0).2<2;omega)];rw[fQ]at kC;obtain rfl:=bC kC;have:=Mm;rw[i8]at this;show(fr c (spotOf c0).1).1<=_;lia
     ·rw[yU (by rw[R.at_.len];exact h3)]at gu;exact absurd (bC gu).symm d0
     rw[yU (by rw[R.at_.len];exact h3)]at gu;obtain rfl:=bC gu;have pC:=d_ hr;rw[rP (L.rest r pC)];have lF:r.rests.1∈mv.through:=by rw[rX];unfold iP;rw[az (by simp[*]),hr];exact L9 (L.sects r pC).1
     have:=Ml _ lF;lia
   rw[rY,az Ay];have Ec:c.at_[t]?=some d:=by obtain⟨c0,fQ,Mn,gH⟩:=rR hq;rcases gH with⟨_,rfl⟩|⟨_,_,rfl⟩|⟨h2,r,hr,_,_,rfl⟩<;>(rw[jS (λz=>Ay z.symm)]at gu;exact gu)
   rw[uF];cases qT:cD mv.frees (spotOf d).1 with
   |none=>exact R.rE t d Ec d0
   |some T=>
    exfalso;obtain⟨hm,_,_,hn0⟩:=D6 L e qT;rcases hm with hm|hm
    ·rw[i8]at hm;exact R.at_.apart t m.1 d _ Ec kC d0 D8 Ay hm
    obtain⟨c0,fQ,Mn,gH⟩:=rR hq;rw[rX]at hm;unfold iP at hm;rcases gH with⟨h0,_⟩|⟨h1,_⟩|⟨h2,r,hr,_,hi,_⟩
    ·lia
    ·rw[aD (by simp[*])]at hm;cases hm
    rw[az (by simp[*]),hr]at hm;rw[BR]at hi;exact L_ (gQ.mpr (hi _ hm)) Ec d0 rfl
  intro j x hx;rcases idx j x hx with⟨hj,hx⟩|⟨rfl,rfl⟩
  ·exact R.rG j x hx
  exact hl
 show q=mv.to;rw[pD]
theorem Zy(e:cN P rs k c.at_ m=none)(j late:Nat):c.makes P rs k j m late=none:=by unfold cN at e;unfold Clock.makes;simp_all
end
def gK(P:Plan)(rs:List Route)(k:Takes)(r0:List Nat)(at_ late:Nat):List (Mv×Nat)->Places->List Move->Except Nat (List (Mv×Nat))
 |h,_,[]=>.ok h
 |h,p,m::l=>match cN P rs k p m with
  |none=>.error h.length
  |some mv=>gK P rs k r0 at_ late (h++[(mv,bX (r0.getD m.1 0) h mv+if h.length=at_ then late else 0)]) mv.to l
def iA(P:Plan)(rs:List Route)(k:Takes)(r0:List Nat):List (Mv×Nat)->Places->List Move->List (Mv×Nat)
 |h,_,[]=>h
 |h,p,m::l=>match cN P rs k p m with
  |none=>h
  |some mv=>iA P rs k r0 (h++[(mv,bX (r0.getD m.1 0) h mv)]) mv.to l
section
variable{P:Plan}{rs:List Route}{k:Takes}{S:Nat}{r0:List Nat}{at_ late:Nat}
theorem Ed:∀(l:List Move) (h:List (Mv×Nat)) (p:Places),h.length<=(iA P rs k r0 h p l).length/\(iA P rs k r0 h p l).length<=h.length+l.length
 |[],h,p=>by unfold iA;simp
 |m::l,h,p=>by
  unfold iA;cases cN P rs k p m with
  |none=>simp
  |some mv=>have:=Ed l (h++[(mv,bX (r0.getD m.1 0) h mv)]) mv.to;simp only[cX,bG,dR]at this⊢;grind
theorem Ee(a:Nat):∀(l:List Move) (h:List (Mv×Nat)) (p:Places),gK P rs k r0 a 0 h p l=if(iA P rs k r0 h p l).length=h.length+l.length then .ok (iA P rs k r0 h p l)else .error (iA P rs k r0 h p l).length
 |[],h,p=>by unfold iA gK;simp
 |m::l,h,p=>by
  unfold iA gK;cases cN P rs k p m with
  |none=>simp
  |some mv=>simp only[ite_self,B9];rw[Ee a l];simp only[cX,bG,dR];lia
def rZ(h:List (Mv×Nat))(n late:Nat)(s:List Slot):Prop:=s.map (λy=>(y.start,y.finish))=(h.drop n).map (λx=>(x.2,x.2+x.1.bS))/\
 (late=0->∀(i:Nat) (y:Slot),s[i]?=some y->∃x,h[n+i]?=some x/\∀j,j∈y.binds↔Bound (h.take (n+i)) x.1 x.2 j)
theorem Mo:∀(l:List Move) (h h':List (Mv×Nat)) (p:Places),gK P rs k r0 at_ late h p l= .ok h'->h'.length=h.length+l.length/\h'.take h.length=h
 |[],h,h',p,e=>by unfold gK at e;simp_all
 |m::l,h,h',p,e=>by
  unfold gK at e;cases q:cN P rs k p m with
  |none=>simp_all
  |some mv=>rw[q]at e;simp only at e;obtain⟨a,b⟩:=Mo l _ h' mv.to e;simp only[cX,bG,dR]at a b⊢;refine⟨by lia,?_⟩;have b2:=gP (List.take h.length) b;grind
theorem Ef(L:nQ rs k S):∀(l:List Move) (h:List (Mv×Nat)) (c:Clock),Rel S r0 h c->match gK P rs k r0 at_ late h c.at_ l with
  | .error e=>timedFrom P rs k at_ late h.length c l= .error e
  | .ok h'=>∃s,timedFrom P rs k at_ late h.length c l= .ok s/\rZ h' h.length late s
 |[],h,c,R=>by unfold gK timedFrom;refine⟨[],rfl,by simp,λ_ i y e=>by simp at e⟩
 |m::l,h,c,R=>by
  unfold gK timedFrom;cases q:cN P rs k c.at_ m with
  |none=>simp only;rw[Zy q]
  |some mv=>
   simp only;obtain⟨c',binds,e1,R',ea,hb⟩:=Mj L R q (if h.length=at_ then late else 0);rw[e1];simp only;have ih:=Ef L l _ c' R';rw[ea]at ih;have el:(h++[(mv,bX (r0.getD m.1 0) h mv+if h.length=at_ then late else 0)]).length=h.length+1:=by simp
   rw[el]at ih;cases qr:gK P rs k r0 at_ late (h++[(mv,bX (r0.getD m.1 0) h mv+if h.length=at_ then late else 0)]) mv.to l with
   |error e=>rw[qr]at ih;simp[*]
   |ok h'=>
    rw[qr]at ih;simp only at ih⊢;obtain⟨s,hs,s1,s2⟩:=ih;obtain⟨pl,pt⟩:=Mo l _ h' _ qr;rw[el]at pl pt;rw[hs];have kD:h'[h.length]?=some (mv,bX (r0.getD m.1 0) h mv+if h.length=at_ then late else 0):=by have:(h'.take (h.length+1))[h.length]?=h'[h.length]?:=Sw (by simp[*]);grind
    have wb:h'.take h.length=h:=by have b2:=gP (List.take h.length) pt;rw[List.take_take,List.take_left,vG (by simp[*])]at b2;exact b2
    refine⟨_,rfl,?_,λhl i y hy=>?_⟩
    ·rw[cA,s1]
     have:h'.drop h.length=(mv,bX (r0.getD m.1 0) h mv+if h.length=at_ then late else 0)::h'.drop (h.length+1):=by rw[List.drop_eq_getElem?_toList_append,kD];rfl
     rw[this,cA]
    cases i with
    |zero=>rw[List.getElem?_cons_zero]at hy;obtain rfl:=bC hy;simp[*]
    |succ i=>rw[vH]at hy;have:=s2 hl i y hy;rw[show h.length+(i+1)=h.length+1+i by lia];exact this
def lK(r0:List Nat)(at_ late:Nat)(h:List (Mv×Nat)):Prop:=∀(i:Nat) (x:Mv×Nat),h[i]?=some x->x.2=bX (r0.getD x.1.train 0) (h.take i) x.1+if i=at_ then late else 0
theorem Eg:∀(l:List Move) (h h':List (Mv×Nat)) (p:Places),lK r0 at_ late h->gK P rs k r0 at_ late h p l= .ok h'->lK r0 at_ late h'
 |[],h,h',p,O,e=>by unfold gK at e;simp_all
 |m::l,h,h',p,O,e=>by
  unfold gK at e;cases q:cN P rs k p m with
  |none=>simp_all
  |some mv=>
   rw[q]at e;simp only at e;refine Eg l _ h' mv.to ?_ e;intro i x hx;by_cases hi:i<h.length
   ·rw[tI hi]at hx;rw[List.take_append_of_le_length (by exact gN ‹_›)];exact O i x hx
   rw[BS (by simp_all)]at hx;have Zz:i - h.length=0:=by grind
   rw[Zz]at hx;obtain rfl:=(bC hx).symm;have ei:i=h.length:=by grind
   subst ei;rw[List.take_left];obtain⟨q',_,pD⟩:=rW q;simp[*]
theorem Mp:∀(l:List Move) (h g h':List (Mv×Nat)) (p:Places),h.map (·.1)=g.map (·.1)->gK P rs k r0 at_ late h p l= .ok h'->∃g',gK P rs k r0 at2 late2 g p l= .ok g'/\h'.map (·.1)=g'.map (·.1)
 |[],h,g,h',p,E,e=>by unfold gK at e⊢;simp_all
 |m::l,h,g,h',p,E,e=>by
  unfold gK at e⊢;cases q:cN P rs k p m with
  |none=>simp_all
  |some mv=>rw[q]at e;simp only at e⊢;exact Mp l _ _ h' mv.to (by rw[ft,ft,E];rfl) e
end
def kE(ms:List Mv)(ts:List Nat)(i l:Nat):Prop:=∀(m:Mv) (T:Nat),ms[i]?=some m->ts[i]?=some T->m.bS<=T/\
 (∀(l':Nat) (m':Mv) (T':Nat),i<l'->l'<l->ms[l']?=some m'->ts[l']?=some T'->0<bM m m'->bM m m'+T'<=T)/\
 (T=m.bS\/iY λ(l':Nat) (m':Mv) (T':Nat)=>tS (i<l') (l'<l) (ms[l']?=some m') (ts[l']?=some T') (0<bM m m') (T=bM m m'+T'))
def pE(ms:List Mv)(ts:List Nat):Prop:=ts.length=ms.length/\∀i,kE ms ts i ms.length
def cZ(h:List (Mv×Nat)):List Nat:=h.map λx=>x.2+x.1.bS
def ZA(O:lK r0 at_ late h){i j:Nat}{x y:Mv×Nat}(hx:h[i]?=some x)(hy:h[j]?=some y)(xb:i<j)(w:0<bM x.1 y.1):x.2+bM x.1 y.1<=y.2:=by
 have e:=O j y hy;have hm:x∈h.take j:=by refine d_ (i:=i) ?_;simp[*]
 have:=@xa (r0.getD y.1.train 0) (h.take j) y.1 x hm w;lia
theorem Az(O:lK r0 at_ late h)(T:pE (h.map (·.1)) ts):∀(n i:Nat) (x:Mv×Nat) (t:Nat),h.length - i<=n->h[i]?=some x->ts[i]?=some t->x.2+t<=maxOf (cZ h)
 |0,i,x,t,hn,hx,ht=>by have:=(dq.mp hx).1;grind
 |n+1,i,x,t,hn,hx,ht=>by
  have bq:=(dq.mp hx).1;obtain⟨a,b,c⟩:=T.2 i x.1 t (by rw[cb,hx];rfl) ht;rcases c with c|⟨l',m',T',h1,h2,h3,h4,h5,h6⟩
  ·subst c;exact nO (b_.mpr ⟨x,d_ hx,rfl⟩)
  rw[cb]at h3;obtain⟨y,hy,rfl⟩:=jq.mp h3;have:=Az O T n l' y T' (by grind) hy h4;have:=ZA O hx hy h1 h5;lia
section
variable{r0:List Nat}{j late:Nat}{h h2:List (Mv×Nat)}{ts:List Nat}
theorem Eh(E:h.map (·.1)=h2.map (·.1)):h.length=h2.length:=by have:=gP List.length E;simpa using this
theorem xc(E:h.map (·.1)=h2.map (·.1)){i:Nat}{x:Mv×Nat}(hx:h2[i]?=some x):∃y,h[i]?=some y/\y.1=x.1:=by
 have:(h.map (·.1))[i]?=some x.1:=by rw[E,cb,hx];rfl
 rw[cb]at this;simp_all
theorem Ei{a0:Nat}(O:lK r0 a0 0 h)(O2:lK r0 j late h2)(E:h.map (·.1)=h2.map (·.1)):∀i,i<=j->h2.take i=h.take i
 |0,_=>by simp
 |i+1,hi=>by
  have ih:=Ei O O2 E i (by exact gN ‹_›);rw[List.take_add_one,List.take_add_one,ih];congr 1;cases q:h2[i]? with
  |none=>have:h2.length<=i:=SH.mp q;have e:h[i]?=none:=SH.mpr (by have:=Eh E;simp[*]);rw[e]
  |some x=>obtain⟨y,hy,e⟩:=xc E q;rw[hy];have b:=O i y hy;have b2:=O2 i x q;lia
def ZC{a0:Nat}(O:lK r0 a0 0 h)(O2:lK r0 j late h2)(E:h.map (·.1)=h2.map (·.1))(T:pE (h.map (·.1)) ts){xj:Mv×Nat}{tj:Nat}(hj:h[j]?=some xj)(mJ:ts[j]?=some tj):
  ∀(i:Nat) (x:Mv×Nat) (t:Nat),h2[i]?=some x->ts[i]?=some t->x.2+t<=max (maxOf (cZ h)) (xj.2+late+tj):=by
 intro i;induction i using Nat.strongRecOn with
 |_ i ih=>
  intro x t hx ht;obtain⟨y,hy,e⟩:=xc E hx;have b2:=O2 i x hx;have b:=O i y hy;have b':y.2=bX (r0.getD y.1.train 0) (h.take i) y.1:=by simp[*]
  by_cases xb:i=j
  ·subst xb;rw[hy]at hj;obtain rfl:=bC hj;rw[ht]at mJ;obtain rfl:=bC mJ;rw[aD rfl,Ei O O2 E i (aW _),<-e]at b2;lia
  rw[az xb,B9]at b2;have tl:=Az O T (h.length - i) i y t (aW _) hy ht;have g:bX (r0.getD x.1.train 0) (h2.take i) x.1<=max (maxOf (cZ h)) (xj.2+late+tj) - t:=by
   refine Aw.mpr ⟨?_,λz hz w=>?_⟩
   ·have r:=@L0 (r0.getD y.1.train 0) (h.take i) y.1;rw[e]at r b';omega
   obtain⟨l,hl⟩:=Hj.mp hz;have Ej:l<i:=by have:=(dq.mp hl).1;rw[dQ]at this;lia
   rw[Sw Ej]at hl;obtain⟨u,hu⟩:∃u,ts[l]?=some u:=by have:=(dq.mp hl).1;have e1:=Eh E;have e2:=T.1;simp[*]
   have i1:=ih l Ej z u hl hu;obtain⟨z',lB,ez⟩:=xc E hl;have:=(T.2 l z'.1 u (by simp[*]) hu).2.1 i y.1 t Ej (by
    have:=(dq.mp hy).1;rw[aT];exact this) (by simp[*]) ht (by simp[*])
   rw[ez,e]at this;lia
  lia
def ZD{a0:Nat}(O:lK r0 a0 0 h)(O2:lK r0 j late h2)(E:h.map (·.1)=h2.map (·.1))(T:pE (h.map (·.1)) ts){xj:Mv×Nat}{tj:Nat}(hj:h[j]?=some xj)(mJ:ts[j]?=some tj)(hl:maxOf (cZ h)<late):
  maxOf (cZ h2)=xj.2+late+tj:=by
 have akv:=Eh E;have jlt:=(dq.mp hj).1;apply Nat.le_antisymm
 ·refine Av.mpr λy hy=>?_;obtain⟨x,hx,rfl⟩:=b_.mp hy;obtain⟨i,hi⟩:=Hj.mp hx;obtain⟨z,hz,ez⟩:=xc E hi;have ilt:=(dq.mp hi).1;obtain⟨t,ht⟩:∃u,ts[i]?=some u:=⟨ts[i]'(by have:=T.1;simp[*]),cp _⟩;have:=ZC O O2 E T hj mJ i x t hi ht;have:=(T.2 i z.1 t (by rw[cb,hz];rfl) ht).1;rw[ez]at this;lia
 have ZE:∃x2,h2[j]?=some x2:=⟨h2[j]'(by simp_all),cp _⟩;obtain⟨x2,dW⟩:=ZE;obtain⟨y,hy,ey⟩:=xc E dW;rw[hj]at hy;obtain rfl:=bC hy;have b2:=O2 j x2 dW;have b:=O j xj hj;have b':xj.2=bX (r0.getD xj.1.train 0) (h.take j) xj.1:=by simp[*]
 rw[aD rfl,Ei O O2 E j (aW _),<-ey]at b2;have T2:pE (h2.map (·.1)) ts:=by rw[<-E];exact T
 have:=Az O2 T2 (h2.length - j) j x2 tj (aW _) dW mJ;simp_all
end
def jI(h:List (Mv×Nat))(e l:Nat):Bool:=match h[e]?,h[l]? with
 |some x,some y=>decide (0<bM x.1 y.1)&&decide (x.2+bM x.1 y.1=y.2)
 |_,_=>false
def walk(h:List (Mv×Nat)):Nat->Nat->List Nat
 |0,_=>[]
 |e+1,cur=>if jI h e cur=true then e::walk h e e else walk h e cur
def iB(h:List (Mv×Nat)):List Nat:=match(cZ h).findIdx? (λe=>e==maxOf (cZ h))with
 |none=>[]
 |some i=>(i::walk h i i).reverse
def Mq(h:l≠[]):maxOf l∈l:=by
 by_cases h0:0<maxOf l
 ·exact LY h0
 cases l with
 |nil=>exact absurd rfl h
 |cons x r=>have:x<=maxOf (x::r):=nO cT;simp_all
def Ek(e cur:Nat):walk h (e+1) cur=if jI h e cur=true then e::walk h e e else walk h e cur:=rfl
theorem Mr:∀n:Nat,(∀e,e<n->jI h e cur=false)->walk h n cur=[]
 |0,_=>rfl
 |n+1,f=>by unfold walk;rw[f n (by simp[*])];simp only[iW,fK];exact Mr n λe he=>f e (by lia)
theorem Ms(hb:jI h e cur=true):∀n:Nat,e<n->(∀e',e<e'->e'<n->jI h e' cur=false)->walk h n cur=e::walk h e e
 |0,hn,_=>by simp_all
 |n+1,hn,f=>by
  rw[Ek];by_cases q:e=n
  ·subst q;rw[aD hb]
  rw[f n (by lia) (by simp[*])];simp only[iW,fK];exact Ms hb n (by lia) λe' h1 h2=>f e' h1 (by lia)
def ZF(hx:h[i]?=some x):Bound (h.take i) x.1 x.2 j↔j<i/\jI h j i=true:=by
 unfold Bound jI;rw[hx];constructor
 ·rintro⟨y,hy,w,e⟩
  have hj:j<i:=by have:=(dq.mp hy).1;rw[dQ]at this;lia
  simp_all
 rintro⟨hj,e⟩;cases q:h[j]? with
 |none=>simp_all
 |some y=>rw[q]at e;simp at e;exact⟨y,by simp[*],e.1,e.2⟩
def AA(S:rZ h 0 late s):s.length=h.length/\s.map (λy=>y.finish)=cZ h:=by obtain⟨a,_⟩:=S;rw[vF]at a;refine⟨by have:=gP List.length a;simpa using this,?_⟩;have:=gP (List.map Prod.snd) a;rw[fz,fz]at this;exact this
def ZG{late:Nat}(S:rZ h 0 late s){i:Nat}{x:Mv×Nat}(hx:h[i]?=some x):∃y,fN (s[i]?=some y) (y.start=x.2) (y.finish=x.2+x.1.bS):=by obtain⟨a,_⟩:=S;rw[vF]at a;have:=gP (λl=>l[i]?) a;simp only[cb,hx,vD]at this;obtain⟨y,hy,e⟩:=jq.mp this;obtain⟨e1,e2⟩:=Prod.mk.inj e;exact⟨y,hy,e1,e2⟩
def xf(S:rZ h 0 late s):endOf s=maxOf (cZ h):=by unfold endOf;rw[(AA S).2]
def ZH(S:rZ h 0 0 s):∀(i f:Nat),i<h.length->i<f->chainBack s f i=i::walk h i i:=by
 intro i;induction i using Nat.strongRecOn with
 |_ i ih=>
  intro f hi hf;cases f with
  |zero=>simp_all
  |succ f=>
   unfold chainBack;have hs:i<s.length:=by rw[(AA S).1];exact hi
   obtain⟨y,hy⟩:∃y,s[i]?=some y:=⟨s[i],cp hs⟩;obtain⟨x,hx,hb⟩:=S.2 rfl i y hy;rw[Ca]at hx hb;have fE:∀j,j∈y.binds↔j<i/\jI h j i=true:=λj=>(hb j).trans (ZF hx)
   rw[hy];simp only;by_cases he:y.binds.isEmpty=true
   ·rw[aD he];rw[Mr];simp_all
   rw[az he];have bO:y.binds≠[]:=λz=>he (by rw[z];rfl);obtain⟨m1,m2⟩:=(fE _).mp (Mq bO);rw[ih _ m1 f (by lia) (by lia)];rw[Ms m2 i m1];intro e' h1 h2;cases q:jI h e' i with
   |false=>rfl
   |true=>have:=nO ((fE e').mpr ⟨h2,q⟩);lia
def ZI(f:Slot->Nat)(p:Nat->Bool)(l:List Slot):(l.map f).findIdx? p=l.findIdx? λy=>p (f y):=by rw[List.findIdx?_map];rfl
def ZJ(S:rZ h 0 0 s):chainOf s=iB h:=by
 unfold chainOf iB;rw[xf S,<-(AA S).2,ZI];cases q:s.findIdx? λy=>y.finish==maxOf (s.map λy=>y.finish)with
 |none=>rfl
 |some i=>
  simp only;have hi:i<s.length:=by have:=Hl.mp q;exact this.1
  rw[ZH S i _ (by rw[<-(AA S).1];exact hi) (by lia)]
def dJ:List Nat->List Move
 |t::k::r=>(t,k)::dJ r
 |_=>[]
theorem pF:∀l:List Nat,(dJ l).length=l.length /2
 |[]=>rfl
 |[_]=>by simp[dJ]
 |t::k::r=>by rw[dJ,bG,pF r,bG,bG];lia
theorem Mt:∀l:List Nat,Wqatdq.movesIn l=if l.length % 2=0 then some (dJ l)else none
 |[]=>rfl
 |[_]=>by simp[Wqatdq.movesIn]
 |t::k::r=>by
  rw[Wqatdq.movesIn,Mt r,bG,bG,dJ];have:(r.length+1+1) % 2=r.length % 2:=by lia
  simp[*]
open Wqatdq (State clock timed ofMoves slackTold told tells says BAD NONE MOVES)
structure Good(s:State):Prop where
 land:nQ s.routes s.takes s.plan.sects.length
 at_:de s.plan.sects.length s.at_
 mI:s.ready.length=3
 pG:s.takes.length=s.plan.sects.length
def El(G:Good s):Rel s.plan.sects.length s.ready [] (clock s):=by
 have hr:∀t,rd (clock s) t=(s.ready.getD t 0,none):=by intro t;show(s.ready.map λn=>(n,none)).getD t (0,none)=_;simp[*]
 have hf:∀i,fr (clock s) i=(0,none):=by intro i;show(s.plan.sects.map λ_=>(0,none)).getD i (0,none)=_;rw[l_,cb];cases s.plan.sects[i]?<;>rfl
 refine⟨G.at_,?_,?_,?_,?_,?_,?_,?_,?_,?_,?_,?_⟩
 ·show(s.ready.map λn=>(n,none)).length=3;rw[aT];exact G.mI
 ·show(s.plan.sects.map λ_=>(0,none)).length=_;simp[*]
 ·intro j x h;cases h
 ·intro j x i T h;cases h
 ·intro t _;rw[hr];exact aW _
 ·intro t _ _;rw[hr]
 ·intro t j _ e;rw[hr]at e;cases e
 ·intro i _;rw[hf]
 ·intro i j e;rw[hf]at e;cases e
 ·intro t d _ _;rw[hf];exact bL _
 intro j x h;cases h
def bu(s:State)(l:List Nat):List (Mv×Nat):=iA s.plan s.routes s.takes s.ready [] s.at_ (dJ l)
def ZK(e:2*(bu s l).length=l.length):∀a,lK s.ready a 0 (bu s l)/\gK s.plan s.routes s.takes s.ready a 0 [] s.at_ (dJ l)= .ok (bu s l):=by intro a;have h:=Ee (P:=s.plan) (rs:=s.routes) (k:=s.takes) (r0:=s.ready) a (dJ l) [] s.at_;have hp:=pF l;rw[aD (by show(bu s l).length=_;rw[hp];simp only[dR];lia)]at h;exact⟨Eg (P:=s.plan) (rs:=s.routes) (k:=s.takes) (dJ l) [] _ s.at_ (λi x hx=>by cases hx) h,h⟩
def xg(G:Good s)(he:l.length % 2=0):(2*(bu s l).length=l.length/\∃x,timed s (dJ l)= .ok x/\rZ (bu s l) 0 0 x)\/(2*(bu s l).length<l.length/\timed s (dJ l)= .error (bu s l).length):=by
 have t:=Ef (P:=s.plan) (r0:=s.ready) (at_:=(dJ l).length) (late:=0) G.land (dJ l) [] (clock s) (El G);have eD:=Ee (P:=s.plan) (rs:=s.routes) (k:=s.takes) (r0:=s.ready) (dJ l).length (dJ l) [] s.at_;have ec:(clock s).at_=s.at_:=rfl;rw[ec,eD]at t;have hl:=Ed (P:=s.plan) (rs:=s.routes) (k:=s.takes) (r0:=s.ready) (dJ l) [] s.at_;have hp:=pF l;have er:iA s.plan s.routes s.takes s.ready [] s.at_ (dJ l)=bu s l:=rfl;rw[er]at t hl;simp only[dR,Ca]at t hl;by_cases q:(bu s l).length=(dJ l).length
 ·rw[aD q]at t;exact .inl ⟨by lia,t⟩
 rw[az q]at t;exact .inr ⟨by lia,t⟩
def xh(G:Good s)(l:List Nat)(f:List Move->List Slot->Wqatdq.Ans):ofMoves s l f=if l.length % 2≠0\/128<l.length then BAD else if 2*(bu s l).length<l.length then tells (-3) [(bu s l).length]else
  (match timed s (dJ l)with
   | .error j=>tells (-3) [j]
   | .ok x=>f (dJ l) x):=by
 unfold ofMoves;rw[Mt];have hp:=pF l;by_cases he:l.length % 2=0
 ·rw[aD he]
  simp only;by_cases hm:128<l.length
  ·rw[aD (by show 64<_;lia),aD (.inr hm)]
  rw[az (by show¬64<_;lia),az (by simp[*])];rcases xg G he with⟨h1,x,h2,_⟩|⟨h1,h2⟩
  ·simp[*]
  simp[*]
 simp[*]
def Mu(G:Good s)(l:List Nat):told s (.times l)=if l.length % 2≠0\/128<l.length then BAD else if 2*(bu s l).length<l.length then tells (-3) [(bu s l).length]else
  tells ((maxOf (cZ (bu s l)):Nat):Int) ((bu s l).flatMap λx=>[x.2,x.2+x.1.bS]):=by
 show ofMoves s l _=_;rw[xh G];by_cases h1:l.length % 2≠0\/128<l.length
 ·rw[aD h1,aD h1]
 rw[az h1,az h1];rcases xg G (by simp_all:l.length % 2=0)with⟨e,x,h2,S⟩|⟨e,h2⟩
 ·rw[az (by simp[*]),az (by simp[*]),h2];simp only;rw[xf S];congr 1;have:=gP (List.flatMap λy:Nat×Nat=>[y.1,y.2]) S.1;rw[y9,y9,vF]at this;exact this
 simp[*]
def Mw(G:Good s)(l:List Nat):told s (.chain l)=if l.length % 2≠0\/128<l.length then BAD else if 2*(bu s l).length<l.length then tells (-3) [(bu s l).length]else
  tells (((iB (bu s l)).length:Nat):Int) (iB (bu s l)):=by
 show ofMoves s l _=_;rw[xh G];by_cases h1:l.length % 2≠0\/128<l.length
 ·rw[aD h1,aD h1]
 rw[az h1,az h1];rcases xg G (by simp_all:l.length % 2=0)with⟨e,x,h2,S⟩|⟨e,h2⟩
 ·rw[az (by simp[*]),az (by simp[*]),h2];simp only;rw[ZJ S]
 simp[*]
def ZL{s:State}(G:Good s)(j:Nat)(l:List Nat){ts:List Nat}(T:pE ((bu s l).map (·.1)) ts):told s (.slack j l)=if l.length % 2≠0\/128<l.length then BAD else if 2*(bu s l).length<l.length then tells (-3) [(bu s l).length]else
  if(bu s l).length<=j then NONE else says ((maxOf (cZ (bu s l)):Int) -((bu s l).map (·.2)).getD j 0 - ts.getD j 0):=by
 show ofMoves s l _=_;rw[xh G];by_cases h1:l.length % 2≠0\/128<l.length
 ·rw[aD h1,aD h1]
 rw[az h1,az h1];rcases xg G (by simp_all:l.length % 2=0)with⟨e,x,h2,S⟩|⟨e,h2⟩
 ·rw[az (by simp[*]),az (by simp[*]),h2]
  simp only;have hp:=pF l;unfold slackTold;by_cases hj:(bu s l).length<=j
  ·rw[aD hj,aD (by lia)]
  rw[az hj,az (by lia)];simp only;obtain⟨O,ZM⟩:=ZK e 0;obtain⟨g',hg,eg⟩:=Mp (at2:=j) (late2:=endOf x+1) (dJ l) [] [] _ s.at_ rfl ZM;have t:=Ef (P:=s.plan) (r0:=s.ready) (at_:=j) (late:=endOf x+1) G.land (dJ l) [] (clock s) (El G);have ec:(clock s).at_=s.at_:=rfl;rw[ec,hg]at t;obtain⟨y,hy,S2⟩:=t;simp only[dR]at hy S2;rw[hy];simp only;have O2:=Eg (P:=s.plan) (rs:=s.routes) (k:=s.takes) (dJ l) [] _ s.at_ (λi x hx=>by cases hx) hg;obtain⟨xj,Em⟩:∃xj,(bu s l)[j]?=some xj:=⟨(bu s l)[j]'(by simp_all),cp _⟩;obtain⟨tj,mJ⟩:∃tj,ts[j]?=some tj:=⟨ts[j]'(by have:=T.1;rw[aT]at this;simp_all),cp _⟩;have le:=ZD O O2 eg T Em mJ (by rw[xf S];simp[*]);have tl:=Az O T ((bu s l).length - j) j xj tj (aW _) Em mJ;obtain⟨sj,ZN,es,_⟩:=ZG S Em;unfold slackOf;rw[ZN,xf S2,le,xf S];simp only[es];have e1:((bu s l).map (·.2)).getD j 0=xj.2:=by simp[*]
  have e2:ts.getD j 0=tj:=by simp[*]
  rw[e1,e2];congr 1;lia
 simp[*]
def gh(P:Plan)(rs:List Route)(k:Takes)(p:Places):List Mv:=(List.range 3).flatMap λt=>(List.range (rs.length+2)).filterMap λw=>cN P rs k p (t,w)
structure aN where
 at_:Places
 h:List (Mv×Nat)
def aN.done(x:aN):Nat:=maxOf (cZ x.h)
def aN.moves(x:aN):List Move:=x.h.map λy=>(y.1.train,y.1.what)
def aN.longer(r0:List Nat)(x:aN)(mv:Mv):aN:=⟨mv.to,x.h++[(mv,bX (r0.getD mv.train 0) x.h mv)]⟩
section
variable(P:Plan)(rs:List Route)(k:Takes)(r0:List Nat)
def fR(x:aN):List aN:=(gh P rs k x.at_).map (x.longer r0)
def level:Nat->aN->List aN
 |0,x=>[x]
 |n+1,x=>(level n x).flatMap (fR P rs k r0)
def fF:Nat->aN->List aN
 |0,x=>[x]
 |n+1,x=>x::(fR P rs k r0 x).flatMap (fF n)
def dh:Nat->aN->List aN
 |0,x=>level P rs k r0 0 x
 |n+1,x=>dh n x++level P rs k r0 (n+1) x
end
def mK(g:List Nat)(a:Option Looked)(x:aN):Option Looked:=match a with
 |none=>none
 |some z=>if z.1=0 then none else some (z.1 - 1,if meets g x.at_=true then better x.done x.moves z.2 else z.2)
def iC(g:List Nat)(b:Option (Nat×List Move))(x:aN):Option (Nat×List Move):=if meets g x.at_=true then better x.done x.moves b else b
section
variable{P:Plan}{rs:List Route}{k:Takes}{r0:List Nat}{S:Nat}{g:List Nat}
theorem Mx:∀(l:List aN) (n:Nat) (b:Option (Nat×List Move)),l.foldl (mK g) (some (n,b))=if l.length<=n then some (n - l.length,l.foldl (iC g) b)else none
 |[],n,b=>by simp
 |x::l,n,b=>by
  rw[kZ,kZ];unfold mK;cases n with
  |zero=>
   simp only[gE];have:∀l:List aN,l.foldl (mK g) none=none:=by
    intro l;induction l with
    |nil=>rfl
    |cons y r ih=>assumption
   have h2:=this l;assumption
  |succ n=>have:=Mx l n (iC g b x);unfold mK at this;simp only[Nat.add_one_ne_zero,fK,Nat.add_sub_cancel];show l.foldl _ (some (n,iC g b x))=_;simp[*]
theorem My(x:aN)(mv:Mv):(x.longer r0 mv).done=max x.done (bX (r0.getD mv.train 0) x.h mv+mv.bS):=by unfold aN.done aN.longer cZ;rw[ft,LZ];congr 1
theorem ZO(x:aN)(mv:Mv):(x.longer r0 mv).moves=x.moves++[(mv.train,mv.what)]:=by unfold aN.moves aN.longer;rw[ft];rfl
theorem En(e:cN P rs k p m=some mv):(mv.train,mv.what)=m:=by obtain⟨q,_,rfl⟩:=rW e;rfl
theorem ZP{β:Type}(p:Places)(F:β->Move×Places->β)(G:β->Mv->β)(hF:∀b m mv,cN P rs k p m=some mv->F b (m,mv.to)=G b mv)(b:β):
  (movesOf P rs p).foldl F b=(gh P rs k p).foldl G b:=by
 have key:movesOf P rs p=(gh P rs k p).map λmv=>((mv.train,mv.what),mv.to):=by unfold movesOf gh;rw[List.map_flatMap];show(List.range 3).flatMap _=_;congr 1;funext t;rw[List.map_filterMap];congr 1;funext w;unfold cN;rw[Option.map_map];rfl
 rw[key,List.foldl_map];have all:∀(l:List Mv),(∀mv∈l,∃m,cN P rs k p m=some mv)->∀b,l.foldl (λx y=>F x ((y.train,y.what),y.to)) b=l.foldl G b:=by
  intro l;induction l with
  |nil=>intro _ b;rfl
  |cons mv r ih=>intro hm b;rw[kZ,kZ];obtain⟨m,e⟩:=hm mv cT;rw[En e,hF b m mv e];exact ih (λy hy=>hm y (bU _ hy)) _
 refine all _ (λmv jc=>?_) b;unfold gh at jc;grind
theorem Mz(L:nQ rs k S):∀(n:Nat) (x:aN) (c:Clock) (a:Option Looked),Rel S r0 x.h c->c.at_=x.at_->soonestFrom P rs k g n c x.h.length x.done x.moves.reverse a=(fF P rs k r0 n x).foldl (mK g) a
 |n,x,c,none,R,ea=>by
  have:∀l:List aN,l.foldl (mK g) none=none:=by
   intro l;induction l with
   |nil=>rfl
   |cons y r ih=>assumption
  rw[this];unfold soonestFrom;rfl
 |0,x,c,some z,R,ea=>by unfold soonestFrom fF;rw[kZ,List.foldl_nil];unfold mK;simp[*]
 |n+1,x,c,some z,R,ea=>by
  unfold soonestFrom fF;rw[kZ];have e0:mK g (some z) x=if z.1=0 then none else some (z.1 - 1,if meets g x.at_=true then better x.done x.moves z.2 else z.2):=rfl;rw[e0];simp only[ea,List.reverse_reverse];by_cases hz:z.1=0
  ·rw[aD hz,aD hz]
   have:∀l:List aN,l.foldl (mK g) none=none:=by
    intro l;induction l with
    |nil=>rfl
    |cons y r ih=>assumption
   rw[this]
  rw[az hz,az hz];generalize(some (z.1 - 1,if meets g x.at_=true then better x.done x.moves z.2 else z.2):Option Looked)=b;rw[ZP (k:=k) x.at_ _ (λa mv=>(fF P rs k r0 n (x.longer r0 mv)).foldl (mK g) a)]
  ·unfold fR;rw[List.foldl_flatMap,List.foldl_map]
  intro b m mv e;obtain⟨c',binds,e1,R',ZQ,_⟩:=Mj L R (by rw[ea];exact e) 0;simp only;rw[e1];simp only[B9]at R'⊢;have et:mv.train=m.1:=gP Prod.fst (En e);have ih:=Mz L n (x.longer r0 mv) c' b (by unfold aN.longer;rw[et];exact R') ZQ;rw[My,ZO,List.reverse_append,En e,et]at ih;have el:(x.longer r0 mv).h.length=x.h.length+1:=by unfold aN.longer;simp
  rw[el]at ih;exact ih
theorem xk(n:Nat):∀x:aN,level P rs k r0 (n+1) x=(fR P rs k r0 x).flatMap (level P rs k r0 n):=by
 induction n with
 |zero=>intro x;show [x].flatMap _=(fR P rs k r0 x).flatMap λy=>[y];simp
 |succ n ih=>intro x;show(level P rs k r0 (n+1) x).flatMap _=_;rw[ih,List.flatMap_assoc];rfl
theorem xl(h:y∈fR P rs k r0 x):y.h.length=x.h.length+1:=by obtain⟨mv,_,rfl⟩:=b_.mp h;unfold aN.longer;simp
theorem r9(n:Nat):∀{x y:aN},y∈level P rs k r0 n x->y.h.length=x.h.length+n:=by
 induction n with
 |zero=>intro x y h;rw[dA.mp h];rfl
 |succ n ih=>intro x y h;obtain⟨z,h1,h2⟩:=jr.mp h;rw[xl h2,ih h1];rfl
theorem MA(n:Nat):∀(i:Nat) (x:aN),(fF P rs k r0 n x).filter (λy=>y.h.length==x.h.length+i)=if i<=n then level P rs k r0 i x else []:=by
 induction n with
 |zero=>
  intro i x;unfold fF;cases i with
  |zero=>simp[level]
  |succ i=>simp
 |succ n ih=>
  intro i x;unfold fF;rw[Hm];cases i with
  |zero=>
   have:((fR P rs k r0 x).flatMap (fF P rs k r0 n)).filter (λy=>y.h.length==x.h.length+0)=[]:=by
    rw[List.filter_eq_nil_iff];intro y hy;obtain⟨z,h1,h2⟩:=jr.mp hy;have hz:=xl h1;have low:∀(n:Nat) (z y:aN),y∈fF P rs k r0 n z->z.h.length<=y.h.length:=by
     intro n;induction n with
     |zero=>intro z y h;unfold fF at h;simp_all
     |succ n w4=>
      intro z y h;unfold fF at h;rcases be.mp h with rfl|h
      ·exact aW _
      obtain⟨u,h3,h4⟩:=jr.mp h;have:=w4 u y h4;have:=xl h3;lia
    have:=low n z y h2;simp;lia
   rw[this];simp[level]
  |succ i=>
   rw[az (by simp),List.filter_flatMap];have step:∀z∈fR P rs k r0 x,(fF P rs k r0 n z).filter (λy=>y.h.length==x.h.length+(i+1))=if i<=n then level P rs k r0 i z else []:=by intro z hz;have:=ih i z;rw[xl hz]at this;lia
   have fm:∀(l:List aN) (f f':aN->List aN),(∀z∈l,f z=f' z)->l.flatMap f=l.flatMap f':=by
    intro l f f' h;induction l with
    |nil=>rfl
    |cons a r uG=>simp_all
   rw[fm _ _ _ step];by_cases h:i<=n
   ·simp only[h,gE];rw[aD (by simp[*]),xk]
   simp[*]
theorem MB(n:Nat):∀{x y:aN},y∈fF P rs k r0 n x->∃i,i<=n/\y∈level P rs k r0 i x:=by
 intro x y h;have low:∀(n:Nat) (z y:aN),y∈fF P rs k r0 n z->z.h.length<=y.h.length:=by
  intro n;induction n with
  |zero=>intro z y h;unfold fF at h;simp_all
  |succ n w4=>
   intro z y h;unfold fF at h;rcases be.mp h with rfl|h
   ·exact aW _
   obtain⟨u,h3,h4⟩:=jr.mp h;have:=w4 u y h4;have:=xl h3;lia
 have hl:=low n x y h;have e:y∈(fF P rs k r0 n x).filter (λz=>z.h.length==x.h.length+(y.h.length - x.h.length)):=tF.mpr ⟨h,by simp;simp[*]⟩;rw[MA]at e;by_cases q:y.h.length - x.h.length<=n
 ·rw[aD q]at e;exact⟨_,q,e⟩
 simp_all
theorem ZR(n:Nat):∀x:aN,(fF P rs k r0 n x).length=(dh P rs k r0 n x).length:=by
 have sums:∀(n:Nat) (l:List aN),((l.flatMap (fF P rs k r0 n)).length=(l.flatMap (dh P rs k r0 n)).length)->True:=λ_ _ _=>trivial;have ZS:∀(n:Nat) (l:List aN),(l.flatMap (dh P rs k r0 (n+1))).length=(l.flatMap (dh P rs k r0 n)).length+(l.flatMap (level P rs k r0 (n+1))).length:=by
  intro n l;induction l with
  |nil=>rfl
  |cons a r ih=>rw[f9,f9,f9,cX,cX,cX,ih];show((dh P rs k r0 n a++level P rs k r0 (n+1) a)).length+_=_;rw[cX];lia
 have ZT:∀(n:Nat) (x:aN),(dh P rs k r0 (n+1) x).length=1+((fR P rs k r0 x).flatMap (dh P rs k r0 n)).length:=by
  intro n;induction n with
  |zero=>intro x;show(level P rs k r0 0 x++level P rs k r0 1 x).length=_;rw[cX,xk];rfl
  |succ n ih=>intro x;show(dh P rs k r0 (n+1) x++level P rs k r0 (n+2) x).length=_;rw[cX,ih,ZS,xk];lia
 induction n with
 |zero=>intro x;rfl
 |succ n ih=>
  intro x;rw[ZT];unfold fF;rw[bG];have:∀l:List aN,(l.flatMap (fF P rs k r0 n)).length=(l.flatMap (dh P rs k r0 n)).length:=by simp[*]
  rw[this];lia
end
def nR(b:Option aN)(x:aN):Bool:=match b with
 |none=>true
 |some y=>decide (x.done<y.done)
def jd(g:List Nat)(b:Option aN)(x:aN):Option aN:=if(meets g x.at_&&nR b x)=true then some x else b
def cS(g:List Nat)(b:Option aN)(l:List aN):Option aN:=l.foldl (jd g) b
section
theorem uH:∀(L:List aN) (b:Option aN),(cS g b L=b/\∀y∈L,meets g y.at_=true->∃z,b=some z/\z.done<=y.done)\/
  iY λx A B=>tS (cS g b L=some x) (L=A++x::B) (meets g x.at_=true) (∀z,b=some z->x.done<z.done) (∀y∈A,meets g y.at_=true->x.done<y.done) (∀y∈B,meets g y.at_=true->x.done<=y.done)
 |[],b=>.inl ⟨rfl,λy hy=>by simp_all⟩
 |a::L,b=>by
  have e0:cS g b (a::L)=cS g (jd g b a) L:=rfl;rw[e0];by_cases h:(meets g a.at_&&nR b a)=true
  ·have e1:jd g b a=some a:=by unfold jd;rw[aD h]
   rw[e1];rw[fo]at h;have hs:∀z,b=some z->a.done<z.done:=λz hz=>by have:=h.2;rw[hz]at this;exact Cb this
   rcases uH L (some a)with⟨r1,r2⟩|⟨x,A,B,r1,r2,r3,r4,r5,r6⟩
   ·refine .inr ⟨a,[],L,r1,rfl,h.1,hs,(λy hy=>by simp_all),λy hy hw=>?_⟩;obtain⟨z,hz,hd⟩:=r2 y hy hw;cases hz;exact hd
   have ha:=r4 a rfl;refine .inr ⟨x,a::A,B,r1,by rw[r2];rfl,r3,λz hz=>Nat.lt_trans ha (hs z hz),λy hy hw=>?_,r6⟩;rcases be.mp hy with rfl|hy
   ·exact ha
   exact r5 y hy hw
  have e1:jd g b a=b:=by unfold jd;rw[az h]
  rw[e1];have hn:meets g a.at_=true->∃z,b=some z/\z.done<=a.done:=λhw=>by
   cases b with
   |none=>exact absurd (by rw[hw];rfl) h
   |some z=>refine⟨z,rfl,?_⟩;have:¬a.done<z.done:=λq=>h (by rw[hw,m_];exact cq q);simp_all
  rcases uH L b with⟨r1,r2⟩|⟨x,A,B,r1,r2,r3,r4,r5,r6⟩
  ·refine .inl ⟨r1,λy hy hw=>?_⟩
   rcases be.mp hy with rfl|hy
   ·exact hn hw
   exact r2 y hy hw
  refine .inr ⟨x,a::A,B,r1,by rw[r2];rfl,r3,r4,λy hy hw=>?_,r6⟩;rcases be.mp hy with rfl|hy
  ·obtain⟨z,hz,hd⟩:=hn hw;have:=r4 z hz;exact cF ‹_› ‹_›
  exact r5 y hy hw
def ZU{L:List aN}(h:∀y∈L,meets g y.at_≠true)(b:Option (Nat×List Move)):L.foldl (iC g) b=b:=by
 induction L generalizing b with
 |nil=>rfl
 |cons a r ih=>
  rw[kZ];have:iC g b a=b:=by unfold iC;rw[az (h a cT)]
  rw[this];exact ih (λy hy=>h y (bU _ hy)) b
def pH(x:aN):x.moves.length=x.h.length:=by unfold aN.moves;rw[aT]
def ZV(hx:meets g x.at_=true)(hA:∀y∈A,meets g y.at_=true->x.done<y.done\/(x.done=y.done/\x.h.length<y.h.length))
  (hB:∀y∈B,meets g y.at_=true->x.done<y.done\/(x.done=y.done/\x.h.length<=y.h.length)):(A++x::B).foldl (iC g) none=some (x.done,x.moves):=by
 rw[List.foldl_append,kZ];have h1:∀(A:List aN),(∀y∈A,meets g y.at_=true->x.done<y.done\/(x.done=y.done/\x.h.length<y.h.length))->∀b:Option (Nat×List Move),(∀z,b=some z->x.done<z.1\/(x.done=z.1/\x.h.length<z.2.length))->
   ∀z,A.foldl (iC g) b=some z->x.done<z.1\/(x.done=z.1/\x.h.length<z.2.length):=by
  intro A;induction A with
  |nil=>intro _ b hb z hz;exact hb z hz
  |cons a r ih=>
   intro hA b hb;rw[kZ];refine ih (λy hy=>hA y (bU _ hy)) _ ?_;intro z hz;unfold iC at hz;by_cases hw:meets g a.at_=true
   ·rw[aD hw]at hz
    have ha:=hA a cT hw;unfold better at hz;cases b with
    |none=>simp only[Option.some.injEq]at hz;subst hz;rw[pH];exact ha
    |some u=>
     simp only at hz;split at hz
     ·obtain rfl:=(bC hz).symm;rw[pH];exact ha
     simp[*]
   rw[az hw]at hz;exact hb z hz
 have h2:iC g (A.foldl (iC g) none) x=some (x.done,x.moves):=by
  generalize hq:A.foldl (iC g) none=q;unfold iC;rw[aD hx];unfold better;cases q with
  |none=>rfl
  |some z=>have:=h1 A hA none (λz hz=>by cases hz) z hq;simp only;rw[aD (by rw[pH];exact this)]
 rw[h2];clear h1 h2 hA;induction B with
 |nil=>rfl
 |cons a r ih=>
  rw[kZ];have:iC g (some (x.done,x.moves)) a=some (x.done,x.moves):=by
   unfold iC;by_cases hw:meets g a.at_=true
   ·rw[aD hw];unfold better;have:=hB a cT hw;simp only;rw[az (by rw[pH,pH];lia)]
   rw[az hw]
  rw[this];exact ih λy hy=>hB y (bU _ hy)
def ZW(n:Nat):∀(i:Nat) (x:aN),(dh P rs k r0 n x).filter (λy=>y.h.length==x.h.length+i)=if i<=n then level P rs k r0 i x else []:=by
 have AB:∀(i j:Nat) (x:aN),(level P rs k r0 j x).filter (λy=>y.h.length==x.h.length+i)=if i=j then level P rs k r0 j x else []:=by
  intro i j x;by_cases e:i=j
  ·subst e;rw[aD rfl,List.filter_eq_self];intro y hy;rw[r9 i hy];simp
  rw[az e,List.filter_eq_nil_iff];intro y hy;rw[r9 j hy];simp;lia
 induction n with
 |zero=>intro i x;show(level P rs k r0 0 x).filter _=_;simp_all
 |succ n ih=>
  intro i x;show(dh P rs k r0 n x++level P rs k r0 (n+1) x).filter _=_;rw[y_,ih,AB];by_cases h1:i<=n
  ·rw[aD h1,az (by lia),aD (by lia),kU]
  rw[az h1];by_cases h2:i=n+1
  ·subst h2;simp[*]
  rw[az h2,az (by lia)];rfl
def uI:y∈dh P rs k r0 n x↔∃i,i<=n/\y∈level P rs k r0 i x:=by
 induction n with
 |zero=>show y∈level P rs k r0 0 x↔_;simp[*]
 |succ n ih=>
  show y∈dh P rs k r0 n x++level P rs k r0 (n+1) x↔_;rw[gO,ih];constructor
  ·rintro(⟨i,hi,h⟩|h)
   ·exact⟨i,by lia,h⟩
   exact⟨n+1,aW _,h⟩
  rintro⟨i,hi,h⟩;by_cases e:i=n+1
  ·subst e;exact .inr h
  exact .inl ⟨i,by lia,h⟩
def ZX(n:Nat)(x:aN):(dh P rs k r0 n x).Pairwise λa b=>a.h.length<=b.h.length:=by
 have AB:∀j,(level P rs k r0 j x).Pairwise λa b=>a.h.length<=b.h.length:=by
  intro j;have:∀l:List aN,(∀y∈l,y.h.length=x.h.length+j)->l.Pairwise λa b=>a.h.length<=b.h.length:=by
   intro l;induction l with
   |nil=>intro _;simp[*]
   |cons a r ih=>simp_all
  exact this _ λy hy=>r9 j hy
 induction n with
 |zero=>exact AB 0
 |succ n ih=>show(dh P rs k r0 n x++level P rs k r0 (n+1) x).Pairwise _;refine List.pairwise_append.mpr ⟨ih,AB _,λa ha b hb=>?_⟩;obtain⟨i,hi,h⟩:=uI.mp ha;rw[r9 i h,r9 (n+1) hb];lia
def ZY(n:Nat)(x0:aN):(fF P rs k r0 n x0).foldl (iC g) none=(cS g none (dh P rs k r0 n x0)).map λx=>(x.done,x.moves):=by
 rcases uH (g:=g) (dh P rs k r0 n x0) none with⟨r1,r2⟩|⟨x,A,B,r1,r2,r3,_,r5,r6⟩
 ·rw[r1,ZU]
  ·rfl
  intro y hy hw;obtain⟨z,hz,_⟩:=r2 y (uI.mpr (MB n hy)) hw;cases hz
 rw[r1];have hx:x∈dh P rs k r0 n x0:=by rw[r2];simp
 obtain⟨i,hi,xm⟩:=uI.mp hx;have hlen:=r9 i xm;have r_:=ZX (P:=P) (rs:=rs) (k:=k) (r0:=r0) n x0;rw[r2]at r_;obtain⟨_,s2,s3⟩:=List.pairwise_append.mp r_;have s4:=(za.mp s2).1;have f1:=ZW (P:=P) (rs:=rs) (k:=k) (r0:=r0) n i x0;have f2:=MA (P:=P) (rs:=rs) (k:=k) (r0:=r0) n i x0;rw[<-f1,r2,y_,Hm,aD (by simp[*])]at f2;obtain⟨l1,l2,e1,e2,e3⟩:=List.filter_eq_append_iff.mp f2;obtain⟨ZZ,Z0,e4,e5,e6,e7⟩:=List.filter_eq_cons_iff.mp e3;have Eo:∀y,y∈l1\/y∈ZZ\/y∈Z0->y∈A\/y=x\/y∈B:=by
  intro y hy;have:y∈fF P rs k r0 n x0:=by grind
  have:=uI.mpr (MB n this);simp_all
 rw[e1,e4,<-tN];refine ZV r3 (λy hy hw=>?_) (λy hy hw=>?_)
 ·rcases gO.mp hy with h|h
  ·by_cases ey:y.h.length=x.h.length
   ·have:y∈l1.filter (λy=>y.h.length==x0.h.length+i):=tF.mpr ⟨h,by simp[*]⟩;rw[e2]at this;exact .inl (r5 y (tF.mp this).1 hw)
   rcases Eo y (.inl h)with q|q|q
   ·exact .inl (r5 y q hw)
   ·lia
   have:=r6 y q hw;have:=s4 y q;lia
  have ne:¬y.h.length=x.h.length:=by simp_all
  rcases Eo y (.inr (.inl h))with q|q|q
  ·exact .inl (r5 y q hw)
  ·lia
  have:=r6 y q hw;have:=s4 y q;lia
 rcases Eo y (.inr (.inr hy))with q|q|q
 ·exact .inl (r5 y q hw)
 ·subst q;exact .inr ⟨rfl,aW _⟩
 have:=r6 y q hw;have:=s4 y q;lia
variable(P rs k g)in
def fS:Nat->Places->Bool
 |0,p=>meets g p
 |n+1,p=>meets g p||(gh P rs k p).any λmv=>fS n mv.to
theorem MC:∀(n:Nat) (y:aN),fS P rs k g n y.at_=false->∀j,j<=n->∀z∈level P rs k r0 j y,meets g z.at_=false
 |n,y,h,0,_,z,hz=>by
  rw[dA.mp hz];cases n with
  |zero=>exact h
  |succ n=>unfold fS at h;exact(Bool.or_eq_false_iff.mp h).1
 |0,y,h,j+1,hj,z,hz=>by lia
 |n+1,y,h,j+1,hj,z,hz=>by rw[xk]at hz;obtain⟨u,hu,hz⟩:=jr.mp hz;obtain⟨mv,hm,rfl⟩:=b_.mp hu;refine MC n (y.longer r0 mv) ?_ j (by simp_all) z hz;unfold fS at h;have:=(Bool.or_eq_false_iff.mp h).2;rw[BR]at this;exact gQ.mpr (this mv hm)
def Z4(j:Nat):∀{y z:aN},z∈level P rs k r0 j y->y.done<=z.done:=by
 induction j with
 |zero=>intro y z h;rw[dA.mp h];exact aW _
 |succ j ih=>intro y z h;obtain⟨u,h1,h2⟩:=jr.mp h;obtain⟨mv,_,rfl⟩:=b_.mp h2;have:=ih h1;rw[My];grind
variable(P rs k r0 g)in
def uJ(b:Option aN)(left:Nat)(y:aN):Prop:=∀j,j<=left->∀z∈level P rs k r0 j y,meets g z.at_=true->∃bb,b=some bb/\bb.done<=z.done
inductive cJ(D:aN->Prop):List aN->List aN->Prop
 |nil:cJ D [] []
 |keep {y:aN} {a b:List aN}:cJ D a b->cJ D (y::a) (y::b)
 |drop {y:aN} {a b:List aN}:D y->cJ D a b->cJ D a (y::b)
theorem cJ.same(D:aN->Prop):∀l:List aN,cJ D l l
 |[]=>.nil
 |_::l=>.keep (cJ.same D l)
def cJ.append(h1:cJ D a b)(h2:cJ D c d):cJ D (a++c) (b++d):=by
 induction h1 with
 |nil=>exact h2
 |keep _ ih=>exact .keep ih
 |drop hd _ ih=>exact .drop hd ih
theorem cJ.all:∀{l:List aN},(∀y∈l,D y)->cJ D [] l
 |[],_=>.nil
 |y::l,h=>.drop (h y cT) (cJ.all λz hz=>h z (bU _ hz))
theorem cJ.filter(f:aN->Bool)(hf:∀y,f y=false->D y):∀{a b:List aN},cJ D a b->cJ D (a.filter f) b
 |_,_,.nil=>.nil
 |_,_,.keep (y:=y) t=>by
  rw[Hm];cases q:f y with
  |true=>rw[aD rfl];exact .keep (cJ.filter f hf t)
  |false=>rw[az (by simp)];exact .drop (hf y q) (cJ.filter f hf t)
 |_,_,.drop h t=>.drop h (cJ.filter f hf t)
theorem cJ.mono(h:∀y,D y->D' y):∀{a b:List aN},cJ D a b->cJ D' a b
 |_,_,.nil=>.nil
 |_,_,.keep t=>.keep (cJ.mono h t)
 |_,_,.drop d t=>.drop (h _ d) (cJ.mono h t)
theorem cJ.next:∀{a c:List aN},cJ (uJ P rs k r0 g b (left+1)) a c->cJ (uJ P rs k r0 g b left) (a.flatMap (fR P rs k r0)) (c.flatMap (fR P rs k r0))
 |_,_,.nil=>.nil
 |_,_,.keep (y:=y) t=>by rw[f9,f9];exact(cJ.same _ _).append (cJ.next t)
 |_,_,.drop (y:=y) d t=>by rw[f9];have:cJ (uJ P rs k r0 g b left) [] (fR P rs k r0 y):=cJ.all λz hz j hj u hu hw=>d (j+1) (by simp[*]) u (by rw[xk];exact jr.mpr ⟨z,hz,hu⟩) hw;exact this.append (cJ.next t)
def ME(h:b=some z):∃z',cS g b L=some z'/\z'.done<=z.done:=by
 rcases uH (g:=g) L b with⟨r1,_⟩|⟨x,_,_,r1,_,_,r4,_⟩
 ·exact⟨z,by rw[r1,h],aW _⟩
 exact⟨x,r1,gN (r4 z h)⟩
theorem Ep:∀{a c:List aN},cJ D a c->∀b:Option aN,(∀y,D y->meets g y.at_=true->∃bb,b=some bb/\bb.done<=y.done)->cS g b a=cS g b c
 |_,_,.nil,_,_=>rfl
 |_,_,.keep (y:=y) (a:=a) (b:=c) t,b,h=>by show cS g (jd g b y) a=cS g (jd g b y) c;refine Ep t _ λz hz hw=>?_;obtain⟨bb,e,hd⟩:=h z hz hw;obtain⟨z',e',gu⟩:=ME (g:=g) (L:=[y]) e;exact⟨z',e',cF gu hd⟩
 |a,_,.drop (y:=y) (b:=c) d t,b,h=>by
  show cS g b a=cS g (jd g b y) c;have:jd g b y=b:=by
   unfold jd;by_cases hw:meets g y.at_=true
   ·obtain⟨bb,rfl,hd⟩:=h y d hw;rw[az];rw[hw,m_];show¬decide (y.done<bb.done)=true;simp;exact hd
   simp[*]
  rw[this];exact Ep t b h
variable(P rs k r0 g)in
def nS(left:Nat)(b:Option aN)(rows:List aN):List aN:=((rows.flatMap (fR P rs k r0)).filter λy=>fS P rs k g left y.at_).filter (nR b)
variable(P rs k r0 g)in
def uK:Nat->List aN->Option aN->Option aN
 |0,_,b=>b
 |n+1,rows,b=>uK n (nS P rs k r0 g n b rows) (cS g b (nS P rs k r0 g n b rows))
def Z5(b:Option aN)(a c:List aN):cS g b (a++c)=cS g (cS g b a) c:=by unfold cS;simp[*]
theorem MF(x0:aN):∀(left i:Nat) (rows:List aN) (b:Option aN),b=cS g none (dh P rs k r0 i x0)->cJ (uJ P rs k r0 g b left) rows (level P rs k r0 i x0)->
  uK P rs k r0 g left rows b=cS g none (dh P rs k r0 (i+left) x0)
 |0,i,rows,b,hb,t=>hb
 |left+1,i,rows,b,hb,t=>by
  unfold uK;have t1:cJ (uJ P rs k r0 g b left) (rows.flatMap (fR P rs k r0)) (level P rs k r0 (i+1) x0):=t.next;have t2:cJ (uJ P rs k r0 g b left) (nS P rs k r0 g left b rows) (level P rs k r0 (i+1) x0):=by
   refine cJ.filter _ (λy hy=>?_) (cJ.filter _ (λy hy=>?_) t1)
   ·intro j hj z hz hw
    cases b with
    |none=>cases hy
    |some bb=>have:¬y.done<bb.done:=of_decide_eq_false hy;have:=Z4 j hz;exact⟨bb,rfl,by lia⟩
   intro j hj z hz hw;rw[MC left y hy j hj z hz]at hw;simp_all
  have eb:cS g b (nS P rs k r0 g left b rows)=cS g none (dh P rs k r0 (i+1) x0):=by rw[Ep t2 b λy hy hw=>hy 0 (bL _) y (dA.mpr rfl) hw];show _=cS g none (dh P rs k r0 i x0++level P rs k r0 (i+1) x0);rw[Z5,<-hb]
  rw[MF x0 left (i+1) _ _ eb (t2.mono λy hy j hj z hz hw=>?_)]
  ·congr 2;lia
  obtain⟨bb,e,hd⟩:=hy j hj z hz hw;obtain⟨z',e',gu⟩:=ME (g:=g) (L:=nS P rs k r0 g left b rows) e;exact⟨z',e',cF gu hd⟩
def Z6(x0:aN)(n:Nat):uK P rs k r0 g n [x0] (cS g none [x0])=cS g none (dh P rs k r0 n x0):=by have:=MF (P:=P) (rs:=rs) (k:=k) (r0:=r0) (g:=g) x0 n 0 [x0] (cS g none [x0]) rfl (cJ.same _ _);simp[*]
end
open Wqatdq (bestTold)
def MG(G:Good s)(a b c n:Nat):bestTold s a b c n=if(s.plan.sects.length+1<max a (max b c))\/5<n then BAD else
  if 20000<(dh s.plan s.routes s.takes s.ready n ⟨s.at_,[]⟩).length then says (-8)else match cS [a,b,c] none (dh s.plan s.routes s.takes s.ready n ⟨s.at_,[]⟩)with
   |none=>says (-3)
   |some x=>tells (x.done:Int) (x.h.length::x.moves.flatMap λm=>[m.1,m.2]):=by
 unfold bestTold;have e1:([a,b,c].any λx=>decide (s.plan.sects.length+2<=x))=true\/Wqatdq.DEEP<n↔(s.plan.sects.length+1<max a (max b c))\/5<n:=by simp only[l6,List.any_nil,Bool.or_false,vC,iK];show _\/5<n↔_;grind
 by_cases h:(s.plan.sects.length+1<max a (max b c))\/5<n
 ·rw[aD (e1.mpr h),aD h]
 rw[az (λq=>h (e1.mp q)),az h];have sd:=Mz (P:=s.plan) (r0:=s.ready) (g:=[a,b,c]) G.land n ⟨s.at_,[]⟩ (Wqatdq.clock s) (some (ROWS,none)) (El G) rfl;have e2:aN.done ⟨s.at_,[]⟩=0:=rfl;have e3:aN.moves ⟨s.at_,[]⟩=[]:=rfl;rw[e2,e3]at sd;simp only[dR,List.reverse_nil]at sd;rw[sd,Mx,ZR];by_cases hr:20000<(dh s.plan s.routes s.takes s.ready n ⟨s.at_,[]⟩).length
 ·rw[aD hr,az (by show¬_<=20000;simp[*])]
 rw[az hr,aD (by show _<=20000;simp_all),ZY];cases cS [a,b,c] none (dh s.plan s.routes s.takes s.ready n ⟨s.at_,[]⟩)with
 |none=>rfl
 |some x=>simp only[vD];rw[pH]
def dX{α:Type}(f:α->Nat)(l:List α):Nat:=(l.map f).sum
def xn{α:Type}(f:α->Nat):dX f []=0:=rfl
def kF{α:Type}(f:α->Nat)(x:α)(l:List α):dX f (x::l)=f x+dX f l:=by unfold dX;simp[*]
def AD{α:Type}(f:α->Nat)(a b:List α):dX f (a++b)=dX f a+dX f b:=by unfold dX;simp[*]
def MH{α β:Type}(f:β->Nat)(F:α->List β)(l:List α):dX f (l.flatMap F)=dX (λx=>dX f (F x)) l:=by
 induction l with
 |nil=>rfl
 |cons x r ih=>rw[f9,AD,ih,kF]
def Z7{α β:Type}(f:β->Nat)(F:α->β)(l:List α):dX f (l.map F)=dX (λx=>f (F x)) l:=by unfold dX;rw[fz];rfl
def MI{α:Type}(l:List α):dX (λ_=>1) l=l.length:=by
 induction l with
 |nil=>rfl
 |cons x r ih=>rw[kF,ih,bG];lia
abbrev Cs:=List (Places×Nat)
def W(cs:Cs)(f:Places->Nat):Nat:=dX (λx=>x.2*f x.1) cs
def je(cs:Cs)(q:Places):Option Nat:=(cs.find? λx=>decide (x.1=q)).map (·.2)
def nU(cs:Cs)(q:Places)(v:Nat):Cs:=if(cs.any λx=>decide (x.1=q))=true then cs.map λx=>if x.1=q then(x.1,v)else x else cs++[(q,v)]
def pI(cs:Cs)(q:Places)(c:Nat):Cs:=nU cs q ((je cs q).getD 0+c)
def Z8(h:(cs.any λx=>decide (x.1=q))=false):je cs q=none:=by
 unfold je;have:(cs.find? λx=>decide (x.1=q))=none:=by rw[List.find?_eq_none];intro x hx hq;rw[BR]at h;exact h x hx hq
 simp[*]
def Z9:(nU cs q v).map (·.1)=if(cs.any λx=>decide (x.1=q))=true then cs.map (·.1)else cs.map (·.1)++[q]:=by
 unfold nU;split
 ·rw[fz];congr 1;funext x;lia
 simp[*]
def Z_(h:(cs.map (·.1)).Nodup):((nU cs q v).map (·.1)).Nodup:=by
 rw[Z9];split
 ·exact h
 rename_i hn;refine oN.mpr ⟨h,by simp,?_⟩;intro a ha b hb e;simp_all
def aaa(f:Places->Nat)(h:(cs.map (·.1)).Nodup):W (pI cs q c) f=W cs f+c*f q:=by
 unfold pI;cases hq:(cs.any λx=>decide (x.1=q))with
 |false=>rw[Z8 hq];unfold nU;rw[az (by rw[hq];simp)];unfold W;rw[AD];show _+dX (λx:Places×Nat=>x.2*f x.1) [(q,0+c)]=_;rw[kF,xn];simp
 |true=>
  unfold nU;rw[aD hq];have gone:∀(l:Cs) (v:Nat),q∉l.map (·.1)->W (l.map λx=>if x.1=q then(x.1,v)else x) f=W l f:=by
   intro l v hl;have:(l.map λx=>if x.1=q then(x.1,v)else x)=l:=by
    have:∀x∈l,(if x.1=q then(x.1,v)else x)=x:=by intro x hx;rw[az];intro e;exact hl (b_.mpr ⟨x,hx,e⟩)
    exact(m9 this).trans (List.map_id' l)
   rw[this]
  induction cs with
  |nil=>simp at hq
  |cons x r ih=>
   rw[cA,qp]at h;by_cases e:x.1=q
   ·have el:je (x::r) q=some x.2:=by unfold je;simp[*]
    rw[el,cA,aD e];have:=gone r (x.2+c) (by rw[<-e];exact h.1);unfold W at this⊢;rw[kF,kF];show(x.2+c)*f x.1+dX (λx=>x.2*f x.1) (r.map λy=>if y.1=q then(y.1,(some x.2).getD 0+c)else y)=_;show(x.2+c)*f x.1+dX (λx=>x.2*f x.1) (r.map λy=>if y.1=q then(y.1,x.2+c)else y)=_;rw[this,e,Nat.add_mul];lia
   have el:je (x::r) q=je r q:=by unfold je;simp[*]
   have qV:(r.any λx=>decide (x.1=q))=true:=by rw[l6,b7 e,BW]at hq;exact hq
   rw[el,cA,az e];have:=ih h.2 qV;unfold W at this⊢;rw[kF,kF,this];lia
def aab(h:(cs.map (·.1)).Nodup):((pI cs q c).map (·.1)).Nodup:=Z_ h
section
variable{P:Plan}{rs:List Route}{k:Takes}{r0:List Nat}{x0:aN}
def lL(c:Nat)(cs:Cs)(ms:List Mv):Cs:=ms.foldl (λa mv=>pI a mv.to c) cs
theorem aac(c:Nat)(cs:Cs)(ms:List Mv)(mv:Mv):lL c cs (ms++[mv])=pI (lL c cs ms) mv.to c:=by unfold lL;simp[*]
theorem Er(c:Nat):∀(ms:List Mv) (cs:Cs),(cs.map (·.1)).Nodup->((lL c cs ms).map (·.1)).Nodup/\∀f,W (lL c cs ms) f=W cs f+c*dX (λmv=>f mv.to) ms
 |[],cs,h=>⟨h,λf=>by rw[xn];rfl⟩
 |mv::ms,cs,h=>by have:=Er c ms (pI cs mv.to c) (aab h);refine⟨this.1,λf=>?_⟩;show W (lL c (pI cs mv.to c) ms) f=_;rw[this.2 f,aaa f h,kF,Nat.mul_add];lia
variable(P rs k)in
def spread(l:Cs)(iD:Cs):Cs:=l.foldl (λa x=>lL x.2 a (gh P rs k x.1)) iD
theorem aad(l iD:Cs)(x:Places×Nat):spread P rs k (l++[x]) iD=lL x.2 (spread P rs k l iD) (gh P rs k x.1):=by unfold spread;simp[*]
theorem Es:∀(l iD:Cs),(iD.map (·.1)).Nodup->((spread P rs k l iD).map (·.1)).Nodup/\∀f,W (spread P rs k l iD) f=W iD f+W l λp=>dX (λmv=>f mv.to) (gh P rs k p)
 |[],iD,h=>⟨h,λf=>by show W iD f=W iD f+0;rfl⟩
 |x::l,iD,h=>by have a:=Er x.2 (gh P rs k x.1) iD h;have:=Es l _ a.1;refine⟨this.1,λf=>?_⟩;show W (spread P rs k l (lL x.2 iD (gh P rs k x.1))) f=_;rw[this.2 f,a.2 f];show _=W iD f+dX (λy:Places×Nat=>y.2*dX (λmv=>f mv.to) (gh P rs k y.1)) (x::l);rw[kF];show _+(dX (λy:Places×Nat=>y.2*dX (λmv=>f mv.to) (gh P rs k y.1)) l)=_;unfold W;lia
variable(P rs k r0 x0)in
structure pJ(i:Nat)(cs:Cs):Prop where
 nd:(cs.map (·.1)).Nodup
 sum:∀f,W cs f=dX (λy=>f y.at_) (level P rs k r0 i x0)
def pJ.next(h:pJ P rs k r0 x0 i cs):pJ P rs k r0 x0 (i+1) (spread P rs k cs []):=by have s:=Es (P:=P) (rs:=rs) (k:=k) cs [] qx;refine⟨s.1,λf=>?_⟩;rw[s.2 f,h.sum];show 0+_=dX _ ((level P rs k r0 i x0).flatMap (fR P rs k r0));rw[MH,Ca];congr 1;funext y;unfold fR;rw[Z7];rfl
def pJ.size(h:pJ P rs k r0 x0 i cs):W cs (λp=>(gh P rs k p).length)=(level P rs k r0 (i+1) x0).length:=by rw[h.sum,<-MI];show _=dX _ ((level P rs k r0 i x0).flatMap (fR P rs k r0));rw[MH];congr 1;funext y;unfold fR;rw[MI,aT]
def MJ(h:i<=n):(dh P rs k r0 i x0).length<=(dh P rs k r0 n x0).length:=by
 induction n with
 |zero=>
  have:i=0:=by simp_all
  subst this;exact aW _
 |succ n ih=>
  by_cases e:i=n+1
  ·subst e;exact aW _
  have:=ih (by lia);show _<=(dh P rs k r0 n x0++level P rs k r0 (n+1) x0).length;rw[cX];lia
theorem aae(cs:Cs)(f:Places->Nat)(i:Nat):W (cs.take i) f<=W cs f:=by have:=AD (λx:Places×Nat=>x.2*f x.1) (cs.take i) (cs.drop i);rw[List.take_append_drop]at this;unfold W;simp[*]
def aaf:pJ P rs k r0 x0 0 [(x0.at_,1)]:=by refine⟨by simp,λf=>?_⟩;show dX _ _=dX _ [x0];rw[kF,kF,xn,xn];simp
end
theorem AE:∀(N:Nat) (l:List Nat),l.Nodup->(∀x∈l,x<N)->l.length<=N
 |0,l,_,h=>by
  cases l with
  |nil=>exact aW _
  |cons x r=>exact absurd (h x cT) (by simp_all)
 |N+1,l,nd,h=>by
  have e:∀l:List Nat,(l.filter λx=>x==N).length+(l.filter λx=>!(x==N)).length=l.length:=by
   intro l;induction l with
   |nil=>rfl
   |cons x r ih=>grind
  have e:=e l;have h2:=AE N (l.filter λx=>!(x==N)) (nd.sublist Hn) (λx hx=>by obtain⟨a,b⟩:=tF.mp hx;have:=h x a;simp at b;lia)
  have h1:(l.filter λx=>x==N).length<=1:=by
   have hh:∀y∈l.filter (λx=>x==N),y=N:=λy hy=>by simp_all
   have Et:=nd.sublist (Hn (p:=λx=>x==N));revert hh Et;cases l.filter (λx=>x==N)with
   |nil=>intro _ _;simp
   |cons a r=>
    cases r with
    |nil=>intro _ _;simp
    |cons b r=>simp_all
  lia
theorem nodup_map_on{α:Type}(f:α->Nat):∀(l:List α),(∀a∈l,∀b∈l,f a=f b->a=b)->l.Nodup->(l.map f).Nodup
 |[],_,_=>qx
 |x::r,h,nd=>by rw[qp]at nd;rw[cA,qp];refine⟨λhm=>?_,nodup_map_on f r (λa ha b hb=>h a (bU _ ha) b (bU _ hb)) nd.2⟩;obtain⟨y,hy,e⟩:=b_.mp hm;have:=h y (bU _ hy) x cT e;simp_all
def mL(p:Places):Nat:=p.getD 0 0+33*(p.getD 1 0+33*p.getD 2 0)
def Eu(p:Places):Prop:=p.length=3/\∀c∈p,c<=32
def three(h:p.length=3):iY λa b c=>p=[a,b,c]:=by
 match p,h with
 |[a,b,c],_=>exact⟨a,b,c,rfl⟩
def de.pl(h:de S p)(hS:S<=16):Eu p:=by
 refine⟨h.len,λc hc=>?_⟩;obtain⟨t,ht⟩:=Hj.mp hc;by_cases h0:c=0
 ·simp[*]
 have:=h.inn t c ht h0;unfold spotOf at this;have e:(c - 1) /2<S:=this;lia
def MK(l:List Places)(nd:l.Nodup)(h:∀p∈l,Eu p):l.length<=35937:=by
 have h1:(l.map mL).Nodup:=by
  refine nodup_map_on _ _ (λp hp q hq e=>?_) nd;obtain⟨a,b,c,rfl⟩:=three (h p hp).1;obtain⟨a',b',c',rfl⟩:=three (h q hq).1;have hp:=(h _ hp).2;have hq:=(h _ hq).2;simp only[be,fL,fM,Ho,forall_eq]at hp hq;unfold mL at e;simp only[Hq,Cc]at e;have:a=a'/\b=b'/\c=c':=by grind
  simp[*]
 have:=AE 35937 (l.map mL) h1 (λx hx=>by obtain⟨p,hp,rfl⟩:=b_.mp hx;obtain⟨a,b,c,rfl⟩:=three (h p hp).1;have hp:=(h _ hp).2;simp only[be,fL,fM,Ho,forall_eq]at hp;unfold mL;simp only[Hq,Cc];lia)
 simp_all
def aag(l:List (Places×Nat))(nd:l.Nodup)(h:∀p∈l,Eu p.1/\p.2<=5):l.length<=215622:=by
 let f:Places×Nat->Nat:=λx=>mL x.1*6+x.2;have h1:(l.map f).Nodup:=by
  refine nodup_map_on _ _ (λp hp q hq e=>?_) nd;obtain⟨⟨p1,p2⟩,p3⟩:=h p hp;obtain⟨⟨q1,q2⟩,q3⟩:=h q hq;obtain⟨p,n⟩:=p;obtain⟨q,m⟩:=q;obtain⟨a,b,c,rfl⟩:=three p1;obtain⟨a',b',c',rfl⟩:=three q1;simp only[be,fL,fM,Ho,forall_eq]at p2 q2;have e:mL [a,b,c]*6+n=mL [a',b',c']*6+m:=e;unfold mL at e;simp only[Hq,Cc]at e;have p3:n<=5:=p3;have q3:m<=5:=q3;have:a=a'/\b=b'/\c=c'/\n=m:=by grind
  simp[*]
 have:=AE 215622 (l.map f) h1 (λx hx=>by obtain⟨p,hp,rfl⟩:=b_.mp hx;obtain⟨⟨p1,p2⟩,p3⟩:=h p hp;obtain⟨p,n⟩:=p;obtain⟨a,b,c,rfl⟩:=three p1;simp only[be,fL,fM,Ho,forall_eq]at p2;have p3:n<=5:=p3;show mL [a,b,c]*6+n<_;unfold mL;simp only[Hq,Cc];lia)
 simp_all
def jf(P:Plan)(r:Route):Spot:=P.signals.getD r.signal (0,0)
structure uL(P:Plan)(rs:List Route):Prop where
 sig:∀r∈rs,∀x,P.signalAt x=some r.signal↔x=jf P r
def jJ(P:Plan)(rs:List Route)(c:Nat):List Nat:=if c=0 then []else((List.range rs.length).filter λn=>match rs[n]? with
 |some r=>decide (jf P r=spotOf c)
 |none=>false).map λn=>n+2
def aah(G:uL P rs)(hp:p.length=3):gh P rs k p=(List.range 3).flatMap λt=>([0,1]++jJ P rs (p.getD t 0)).filterMap λw=>cN P rs k p (t,w):=by
 unfold gh;have fm:∀(l:List Nat) (f f':Nat->List Mv),(∀z∈l,f z=f' z)->l.flatMap f=l.flatMap f':=by
  intro l f f' h;induction l with
  |nil=>rfl
  |cons a r uG=>simp_all
 refine fm _ _ _ λt ht=>?_;have er:List.range (rs.length+2)=[0,1]++(List.range rs.length).map λn=>n+2:=by
  rw[Nat.add_comm,List.range_add];have:List.range 2=[0,1]:=by decide
  lia
 rw[er,B3,B3];congr 1;have bq:t<p.length:=by rw[hp];simp_all
 have hc:p[t]?=some (p.getD t 0):=by simp_all
 unfold jJ;by_cases h0:p.getD t 0=0
 ·rw[aD h0];rw[List.filterMap_nil,List.filterMap_eq_nil_iff];intro w hw;unfold cN moved;simp_all
 rw[az h0,GU,GU,List.filterMap_filter];have fc:∀(l:List Nat) (f f':Nat->Option Mv),(∀n∈l,f n=f' n)->l.filterMap f=l.filterMap f':=by
  intro l f f' h;induction l with
  |nil=>rfl
  |cons a r uG=>rw[tG,tG,h a cT,uG λz hz=>h z (bU _ hz)]
 refine fc _ _ _ λn hn=>?_;have vV:n<rs.length:=List.mem_range.mp hn;rw[cp vV];simp only;by_cases e:jf P rs[n]=spotOf (p.getD t 0)
 ·simp[e]
 rw[az (by rw[b7 e];simp)];show cN P rs k p (t,n+2)=none;unfold cN;rw[Option.map_eq_none_iff];unfold moved;have tU:p[(t,n+2).1]?=some (p.getD t 0):=hc;rw[tU];split
 ·rfl
 ·rfl
 rename_i c fQ zi;obtain rfl:=(bC zi).symm;simp only;rw[az (by omega),az (by lia)];have e2:(n+2 - 2)=n:=by rfl
 rw[e2,cp vV];simp only;rw[az];rintro⟨q,_⟩;exact e ((G.sig _ (Hr vV) _).mp q).symm
abbrev Way:=List Nat×Spot
def fG(P:Plan)(ss:List Nat)(lv:Spot):List Way:=match P.partner lv with
 |none=>[]
 |some y=>if ss.contains y.1=true then []else(outsOf (P.kindAt y.1) y.2).reverse.map λd=>(ss++[y.1],(y.1,d))
def fH(P:Plan):Nat->Way->List (List Nat×Nat)
 |0,_=>[]
 |f+1,w=>if P.stops w.2=true then [(w.1.tail,w.2.2)]else(fG P w.1 w.2).reverse.flatMap (fH P f)
def jK(l:List Step):Nat:=match l.getLast? with
 |none=>0
 |some x=>x.out
section
variable{P:Plan}
def ML(ss:List Nat)(lv:Spot):(fG P ss lv).reverse=match P.partner lv with
  |none=>[]
  |some y=>if ss.contains y.1=true then []else(outsOf (P.kindAt y.1) y.2).map λd=>(ss++[y.1],(y.1,d)):=by
 unfold fG;cases P.partner lv with
 |none=>rfl
 |some y=>
  simp only;split
  ·rfl
  simp[*]
theorem Ew:∀(f:Nat) (had:List Nat) (x:Spot),∀l∈P.ways f had x,l≠[]
 |0,had,x,l,h=>by unfold Plan.ways at h;simp_all
 |f+1,had,x,l,h=>by
  unfold Plan.ways at h;split at h
  ·simp_all
  grind
theorem MM:∀(f:Nat) (had ss:List Nat) (y:Spot),(∀i,had.contains i=ss.contains i)->ss≠[]->
  (P.ways f had y).map (λl=>(ss.tail++l.map (λs=>s.sect),jK l))=if ss.contains y.1=true then []else((outsOf (P.kindAt y.1) y.2).map λd=>(ss++[y.1],(y.1,d))).flatMap (fH P f)
 |0,had,ss,y,hc,bO=>by
  unfold Plan.ways;split
  ·rfl
  rw[vA];have:∀l:List Way,l.flatMap (fH P 0)=[]:=by
   intro l;induction l with
   |nil=>rfl
   |cons a r ih=>assumption
  rw[this]
 |f+1,had,ss,y,hc,bO=>by
  unfold Plan.ways;rw[hc];by_cases h:ss.contains y.1=true
  ·rw[aD h,aD h];rfl
  rw[az h,az h,List.map_flatMap,y9];congr 1;funext o;show _=fH P (f+1) (ss++[y.1],(y.1,o));unfold fH;have et:(ss++[y.1]).tail=ss.tail++[y.1]:=by simp[*]
  by_cases hs:P.stops (y.1,o)=true
  ·rw[aD hs,aD hs];show [(ss.tail++[y.1],o)]=[((ss++[y.1]).tail,o)];rw[et]
  rw[az hs,az hs,ML];cases q:P.partner (y.1,o)with
  |none=>rfl
  |some z=>
   simp only;have tU:∀i,(y.1::had).contains i=(ss++[y.1]).contains i:=by grind
   have ih:=MM f (y.1::had) (ss++[y.1]) z tU (by simp);rw[fz];have e2:(P.ways f (y.1::had) z).map ((λl=>(ss.tail++l.map (λs=>s.sect),jK l))∘λl=>Step.mk y.1 y.2 o::l)=(P.ways f (y.1::had) z).map (λl=>((ss++[y.1]).tail++l.map (λs=>s.sect),jK l)):=by
    refine m9 λl hl=>?_;have qM:=Ew f _ _ l hl;show(ss.tail++(Step.mk y.1 y.2 o::l).map (λs=>s.sect),jK (Step.mk y.1 y.2 o::l))=_;rw[et];refine tJ ?_ ?_
    ·simp[*]
    show jK (Step.mk y.1 y.2 o::l)=jK l;unfold jK;rw[List.getLast?_cons];cases q2:l.getLast? with
    |none=>simp_all
    |some v=>rfl
   rw[e2,ih];split<;>rfl
def iQ(P:Plan)(st:Spot):List (List Nat×Nat):=(fG P [st.1] st).reverse.flatMap (fH P 17)
def aai(h:P.signals[s]?=some st):(P.routesFrom s).map (λr=>(r.sects,r.rests.2))=iQ P st/\∀r∈P.routesFrom s,r.signal=s:=by
 unfold Plan.routesFrom iQ;rw[h,ML];simp only;cases q:P.partner st with
 |none=>simp[*]
 |some y=>
  simp only;refine⟨?_,λr hr=>?_⟩
  ·rw[fz]
   have:=MM (P:=P) 17 [st.1] [st.1] y (λ_=>rfl) (by simp);have e2:(P.ways 17 [st.1] y).map ((λr:Route=>(r.sects,r.rests.2))∘λl=>Route.mk s l)=(P.ways 17 [st.1] y).map (λl=>([st.1].tail++l.map (λs=>s.sect),jK l)):=by refine m9 λl hl=>?_;show((Route.mk s l).sects,(Route.mk s l).rests.2)=_;refine tJ rfl ?_;show(Route.mk s l).rests.2=jK l;unfold Route.rests jK;simp only;cases l.getLast?<;>rfl
   show(P.ways (SECTIONS+1) [st.1] y).map _=_;have e3:SECTIONS+1=17:=rfl;rw[e3,e2,this];split<;>rfl
  obtain⟨l,_,rfl⟩:=b_.mp hr;rfl
theorem MN(kd e:Nat):(outsOf kd e).length<=2:=by
 unfold outsOf
 repeat' split
 all_goals simp
def xo(ss:List Nat)(lv:Spot):(fG P ss lv).length<=2:=by
 unfold fG;cases P.partner lv with
 |none=>simp
 |some y=>
  simp only;split
  ·simp
  rw[aT,Hs];exact MN _ _
theorem lM{α β:Type}(F:α->List β)(B:Nat):∀l:List α,(∀x∈l,(F x).length<=B)->(l.flatMap F).length<=l.length*B
 |[],_=>by simp
 |x::l,h=>by rw[f9,cX,bG,Nat.add_mul,Nat.one_mul];have:=lM F B l λy hy=>h y (bU _ hy);have:=h x cT;lia
theorem MO:∀(f:Nat) (w:Way),(fH P f w).length<=2 ^ f
 |0,w=>by unfold fH;simp
 |f+1,w=>by
  unfold fH;split
  ·have:=Nat.one_le_two_pow (n:=f+1);assumption
  have h1:=lM (fH P f) (2 ^ f) (fG P w.1 w.2).reverse λx _=>MO f x;rw[Hs]at h1;have h2:=xo (P:=P) w.1 w.2;have h3:(fG P w.1 w.2).length*2 ^ f<=2*2 ^ f:=Ht _ h2;have h4:2 ^(f+1)=2*2 ^ f:=by rw[Nat.pow_succ,Nat.mul_comm]
  lia
def AF(st:Spot):(iQ P st).length<=262144:=by unfold iQ;have h1:=lM (fH P 17) (2 ^ 17) (fG P [st.1] st).reverse λx _=>MO 17 x;rw[Hs]at h1;have h2:=xo (P:=P) [st.1] st;have h3:(fG P [st.1] st).length*2 ^ 17<=2*2 ^ 17:=Ht _ h2;omega
structure xp(P:Plan)(w:Way):Prop where
 two:2<=w.1.length
 nd:w.1.Nodup
 inn:∀i∈w.1,i<16
 lv:w.2.1<P.sects.length
def xp.dO(h:xp P w):w.1.length<=16:=AE 16 w.1 h.nd h.inn
structure uM(P:Plan)(l:List Way):Prop where
 each:∀w∈l,xp P w
 high:∀(i:Nat) (w:Way),l[i]?=some w->i+1<=w.1.length
theorem uM.dO(h:uM P l):l.length<=16:=by
 cases q:l.length with
 |zero=>simp[*]
 |succ n=>obtain⟨w,hw⟩:∃w,l[n]?=some w:=⟨l[n]'(by simp[*]),cp _⟩;have:=h.high n w hw;have:=(h.each w (d_ hw)).dO;exact cF ‹_› ‹_›
def weigh(l:List Way):Nat:=(l.map λw=>3 ^(19 - w.1.length)).sum
theorem MP(a b:List Way):weigh (a++b)=weigh a+weigh b:=by unfold weigh;simp[*]
def aaj(hs:ss.length<=16):weigh (fG P ss lv)<3 ^(19 - ss.length):=by
 have key:∀l:List Way,l.length<=2->(∀w∈l,w.1.length=ss.length+1)->weigh l<3 ^(19 - ss.length):=by
  intro l hl hw;obtain⟨d,hd⟩:∃d,19 - ss.length=d+1:=⟨18 - ss.length,by grind⟩;have e:∀w∈l,3 ^(19 - w.1.length)=3 ^ d:=λw hm=>by rw[hw w hm];congr 1;grind
  have hp:0<3 ^ d:=Nat.pow_pos (by decide);rw[hd,Nat.pow_succ];unfold weigh;match l,hl with
  |[],_=>simp;omega
  |[a],_=>simp_all
  |[a,b],_=>simp only[cA,vA,List.sum_cons,List.sum_nil];rw[e a (by simp),e b (by simp)];lia
 refine key _ (xo ss lv) λw hw=>?_;unfold fG at hw;cases q:P.partner lv with
 |none=>simp_all
 |some y=>
  rw[q]at hw;simp only at hw;split at hw
  ·simp_all
  obtain⟨d,_,rfl⟩:=b_.mp hw;simp
end
def other(j:Spot×Spot)(x:Spot):Option Spot:=if j.1=x then some j.2 else if j.2=x then some j.1 else none
def MQ(P:Plan)(x:Spot):P.partner x=P.joins.findSome? λj=>other j x:=rfl
def aak(j:Spot×Spot)(x:Spot):other (j.2,j.1) x=other j x:=by
 unfold other;by_cases h1:j.1=x
 ·simp_all
 simp[*]
def aal{a b:List (Spot×Spot)}{x:Spot}(h1:∀j∈a,∃j'∈b,other j' x=other j x)(h2:∀j∈b,∃j'∈a,other j' x=other j x)
  (u:∀j∈a,∀j'∈a,∀y y',other j x=some y->other j' x=some y'->y=y'):(a.findSome? λj=>other j x)=b.findSome? λj=>other j x:=by
 cases qa:a.findSome? λj=>other j x with
 |none=>rw[Hu]at qa;symm;rw[Hu];intro j hj;obtain⟨j',pK,e⟩:=h2 j hj;rw[<-e];exact qa j' pK
 |some y=>
  obtain⟨j,hj,e⟩:=SI qa;cases qb:b.findSome? λj=>other j x with
  |none=>rw[Hu]at qb;obtain⟨j',pK,e'⟩:=h1 j hj;rw[e]at e';rw[qb j' pK]at e';cases e'
  |some z=>obtain⟨i,hi,ei⟩:=SI qb;obtain⟨i',wU,ei'⟩:=h2 i hi;rw[u j hj i' wU y z e (ei'.trans ei)]
theorem AG(x:Spot):∀(l:List Spot) (z:Spot),z∈putSpot x l↔z=x\/z∈l
 |[],z=>by unfold putSpot;simp
 |y::r,z=>by
  unfold putSpot;split
  ·simp
  rw[be,AG x r,be];constructor
  ·lia
  lia
theorem MR(x:Spot×Spot):∀(l:List (Spot×Spot)) (z:Spot×Spot),z∈putJoin x l↔z=x\/z∈l
 |[],z=>by unfold putJoin;simp
 |y::r,z=>by
  unfold putJoin;split
  ·simp
  rw[be,MR x r,be];constructor
  ·lia
  lia
theorem AH{α:Type}(put:α->List α->List α)(hp:∀x l z,z∈put x l↔z=x\/z∈l):∀(l acc:List α) (z:α),z∈l.foldl (λa x=>put x a) acc↔z∈l\/z∈acc
 |[],acc,z=>by simp
 |x::l,acc,z=>by
  rw[kZ,AH put hp l,hp,be];constructor
  ·lia
  lia
def iR(l:List Spot):List Spot:=l.foldl (λl x=>putSpot x l) []
def MS(P:Plan)(x:Spot):P.form.isBorder x=P.isBorder x:=by unfold Plan.isBorder Plan.form;simp only[Hw];refine tQ.mpr ?_;rw[AH putSpot AG];simp
def Ex(P:Plan)(u:∀j∈P.joins,∀j'∈P.joins,∀x y y',other j x=some y->other j' x=some y'->y=y')(x:Spot):P.form.partner x=P.partner x:=by
 rw[MQ,MQ];symm;have e:P.form.joins=(P.joins.map λj=>if spotBefore j.1 j.2=true then j else(j.2,j.1)).foldl (λl x=>putJoin x l) []:=by unfold Plan.form;rw[List.foldl_map]
 have m:∀z,z∈P.form.joins↔∃j∈P.joins,(if spotBefore j.1 j.2=true then j else(j.2,j.1))=z:=by intro z;rw[e,AH putJoin MR,b_];simp
 have sw:∀j:Spot×Spot,other (if spotBefore j.1 j.2=true then j else(j.2,j.1)) x=other j x:=λj=>by
  split
  ·rfl
  exact aak j x
 refine aal (λj hj=>⟨_,(m _).mpr ⟨j,hj,rfl⟩,sw j⟩) (λj hj=>?_) λj hj j' pK y y'=>u j hj j' pK x y y';obtain⟨i,hi,rfl⟩:=(m j).mp hj;exact⟨i,hi,(sw i).symm⟩
def MT(l:List Spot)(x:Spot):(l.findIdx? λy=>y==x).isSome=decide (x∈l):=by grind
def aan(P:Plan)(x:Spot):(P.form.signalAt x).isSome=(P.signalAt x).isSome:=by unfold Plan.signalAt;rw[MT,MT];refine tQ.mpr ?_;show x∈iR P.signals↔_;unfold iR;rw[AH putSpot AG];simp
section
variable{P:Plan}(u:∀j∈P.joins,∀j'∈P.joins,∀x y y',other j x=some y->other j' x=some y'->y=y')
include u
theorem aao(x:Spot):P.form.stops x=P.stops x:=by unfold Plan.stops;rw[aan,MS,Ex P u];rfl
theorem MU(ss:List Nat)(lv:Spot):fG P.form ss lv=fG P ss lv:=by unfold fG;rw[Ex P u];rfl
theorem MV:∀(f:Nat) (w:Way),fH P.form f w=fH P f w
 |0,w=>rfl
 |f+1,w=>by unfold fH;rw[aao u,MU u];have:fH P.form f=fH P f:=funext λw=>MV f w;rw[this]
theorem aap(st:Spot):iQ P.form st=iQ P st:=by unfold iQ;rw[MU u];have:fH P.form 17=fH P 17:=funext λw=>MV u 17 w;rw[this]
end
structure nV where
 start:Spot
 sects:List Nat
 heading:Nat
def xq(P:Plan):List nV:=(iR P.signals).flatMap λst=>(iQ P st).map λx=>⟨st,x.1,x.2⟩
def aaq(u:∀j∈P.joins,∀j'∈P.joins,∀x y y',other j x=some y->other j' x=some y'->y=y'):
  P.form.routes.map (λr=>(⟨jf P.form r,r.sects,r.rests.2⟩:nV))=xq P:=by
 unfold Plan.routes xq;rw[List.map_flatMap];have es:P.form.signals=iR P.signals:=rfl;rw[es];have key:∀(l:List Spot) (F:Nat->List nV) (G:Spot->List nV),(∀(i:Nat) (st:Spot),l[i]?=some st->F i=G st)->(List.range l.length).flatMap F=l.flatMap G:=by
  intro l;induction l with
  |nil=>intro F G _;rfl
  |cons a r ih=>intro F G h;rw[bG,SE,f9,f9,h 0 a rfl,y9];congr 1;exact ih (λi=>F (i+1)) G λi st hi=>h (i+1) st (by assumption)
 refine key _ _ _ λi st hi=>?_;have wU:P.form.signals[i]?=some st:=hi;obtain⟨h1,h2⟩:=aai wU;rw[aap u]at h1;rw[<-h1,fz];refine m9 λr hr=>?_;have nW:jf P.form r=st:=by unfold jf;simp[*]
 simp[*]
section
variable{P:Plan}
theorem MW(h1:∀x y,P.partner x=some y->y.1<P.sects.length):∀(f:Nat) (had:List Nat) (x:Spot),x.1<P.sects.length->∀l∈P.ways f had x,(∀st∈l,st.sect<P.sects.length)/\jK l<2
 |0,had,x,hx,l,h=>by unfold Plan.ways at h;simp_all
 |f+1,had,x,hx,l,h=>by
  unfold Plan.ways at h;split at h
  ·simp_all
  obtain⟨o,ho,h⟩:=jr.mp h;split at h
  ·rename_i hs
   rw[dA.mp h];refine⟨λst b4=>?_,?_⟩
   ·simp_all
   unfold Plan.stops Plan.isPlain at hs;have hk:P.kindAt x.1=0:=by simp_all
   rw[hk]at ho;unfold outsOf at ho;rw[aD rfl]at ho;have:=dA.mp ho;show o<2;omega
  cases q:P.partner (x.1,o)with
  |none=>simp_all
  |some y=>
   rw[q]at h;obtain⟨l',qM,rfl⟩:=b_.mp h;obtain⟨a,b⟩:=MW h1 f _ y (h1 _ _ q) l' qM;refine⟨λst b4=>?_,?_⟩
   ·rcases be.mp b4 with rfl|b4
    ·exact hx
    exact a st b4
   unfold jK at b⊢;rw[List.getLast?_cons];cases q2:l'.getLast? with
   |none=>exact absurd (List.getLast?_eq_none_iff.mp q2) (Ew f _ _ l' qM)
   |some v=>rw[q2]at b;exact b
def Ey(h1:∀x y,P.partner x=some y->y.1<P.sects.length):∀r∈P.routes,(r.steps≠[]/\∀i∈r.sects,i<P.sects.length)/\r.rests.2<2/\∃st,P.signals[r.signal]?=some st:=by
 intro r hr;unfold Plan.routes at hr;obtain⟨s,hs,hr⟩:=jr.mp hr;unfold Plan.routesFrom at hr;cases q:P.signals[s]? with
 |none=>simp_all
 |some x=>
  rw[q]at hr;simp only at hr;cases q2:P.partner x with
  |none=>simp_all
  |some y=>
   rw[q2]at hr;obtain⟨l,hl,rfl⟩:=b_.mp hr;have bO:=Ew _ _ _ l hl;obtain⟨a,b⟩:=MW h1 _ _ _ (h1 _ _ q2) l hl;refine⟨⟨bO,λi hi=>?_⟩,?_,x,q⟩
   ·obtain⟨st,b4,rfl⟩:=b_.mp hi;exact a st b4
   unfold jK at b;unfold Route.rests;simp only;cases q3:l.getLast? with
   |none=>simp[*]
   |some v=>rw[q3]at b;exact b
def aar(nd:P.signals.Nodup)(h:P.signals[i]?=some st)(x:Spot):P.signalAt x=some i↔x=st:=by
 unfold Plan.signalAt;rw[Hl];have hi:=(dq.mp h);obtain⟨hl,he⟩:=hi;constructor
 ·rintro⟨_,h2,_⟩;simp_all
 intro e;subst e;refine⟨hl,by simp[*],λj hj=>?_⟩;intro q;have e2:=eq_of_beq q;have:P.signals[j]?=P.signals[i]?:=by rw[cp (by lia),cp hl,e2,he]
 have:=(List.getElem?_inj (by lia) nd).mp this;lia
def aas(nd:P.signals.Nodup)(h1:∀x y,P.partner x=some y->y.1<P.sects.length):uL P P.routes:=by refine⟨λr hr x=>?_⟩;obtain⟨_,_,st,b4⟩:=Ey h1 r hr;rw[aar nd b4];unfold jf;simp[*]
end
def MX(h1:spotBefore a b=true)(h2:spotBefore b c=true):spotBefore a c=true:=by unfold spotBefore at*;simp at*;lia
def MY(h:spotBefore a b=false):a=b\/spotBefore b a=true:=by
 unfold spotBefore at*;simp at*;by_cases e:a=b
 ·exact .inl e
 have:a.1≠b.1\/a.2≠b.2:=by lia
 refine .inr ?_;lia
def aat:spotBefore a a=false:=by unfold spotBefore;simp
theorem MZ(x:Spot):∀l:List Spot,(putSpot x l).Perm (x::l)
 |[]=>by unfold putSpot;rfl
 |y::r=>by
  unfold putSpot;split
  ·rfl
  exact((MZ x r).cons y).trans (List.Perm.swap x y r)
theorem M3(x:Spot):∀l:List Spot,l.Pairwise (λa b=>spotBefore a b=true)->x∉l->(putSpot x l).Pairwise λa b=>spotBefore a b=true
 |[],_,_=>by unfold putSpot;simp
 |y::r,h,hn=>by
  unfold putSpot;rw[za]at h;split
  ·rename_i hb
   refine za.mpr ⟨λz hz=>?_,za.mpr h⟩;rcases be.mp hz with rfl|hz
   ·exact hb
   exact MX hb (h.1 z hz)
  rename_i hb;have hyx:spotBefore y x=true:=by
   rcases MY (gQ.mpr hb)with e|e
   ·simp_all
   exact e
  refine za.mpr ⟨λz hz=>?_,M3 x r h.2 λq=>hn (bU _ q)⟩;rcases(AG x r z).mp hz with rfl|hz
  ·exact hyx
  exact h.1 z hz
def M5(nd:l.Nodup):(iR l).Perm l/\(iR l).Pairwise λa b=>spotBefore a b=true:=by
 have:∀(l acc:List Spot),(acc++l).Nodup->acc.Pairwise (λa b=>spotBefore a b=true)->(l.foldl (λl x=>putSpot x l) acc).Perm (acc++l)/\(l.foldl (λl x=>putSpot x l) acc).Pairwise λa b=>spotBefore a b=true:=by
  intro l;induction l with
  |nil=>intro acc _ h;simp[*]
  |cons x r ih=>
   intro acc nd h;rw[kZ];have hp:=MZ x acc;have p2:(putSpot x acc++r).Perm (acc++x::r):=(hp.append_right r).trans (List.perm_middle.symm);have nd2:(putSpot x acc++r).Nodup:=p2.nodup_iff.mpr nd;have hx:x∉acc:=by intro q;exact(oN.mp nd).2.2 x q x cT rfl
   obtain⟨a,b⟩:=ih _ nd2 (M3 x acc h hx);exact⟨a.trans p2,b⟩
 exact this l [] nd List.Pairwise.nil
theorem M6:∀{a b:List Spot},a.Perm b->a.Pairwise (λx y=>spotBefore x y=true)->b.Pairwise (λx y=>spotBefore x y=true)->a=b
 |[],b,p,_,_=>(List.Perm.nil_eq p)
 |x::a,[],p,_,_=>absurd p.length_eq (by simp)
 |x::a,y::b,p,ha,hb=>by
  rw[za]at ha hb;have e:x=y:=by
   have hx:x∈y::b:=p.mem_iff.mp cT;have hy:y∈x::a:=p.mem_iff.mpr cT;rcases be.mp hx with e|hx
   ·exact e
   rcases be.mp hy with e|hy
   ·exact e.symm
   have h1:=hb.1 x hx;have h2:=ha.1 y hy;have:=MX h1 h2;rw[aat]at this;simp_all
  subst e;rw[M6 ((List.perm_cons x).mp p) ha.2 hb.2]
end Yn
namespace L2
open PySem PySem.Spec PyProof.Rows
def pL{a1 b:TS}{k:Ends}{s:St}{H:Hp}(h:let R1:=b;bh a1 R1 k s H):bh a1 b k s H:=h
def iS{a1 a2 b:TS}{k:Ends}{s:St}{H:Hp}(h:let R2:=b;let R1:=bh a2 R2;bh a1 R1 k s H):bh a1 (bh a2 b) k s H:=h
def jL{a1 a2 a3 b:TS}{k:Ends}{s:St}{H:Hp}(h:let R3:=b;let R2:=bh a3 R3;let R1:=bh a2 R2;bh a1 R1 k s H):bh a1 (bh a2 (bh a3 b)) k s H:=h
def pM{a1 a2 a3 a4 b:TS}{k:Ends}{s:St}{H:Hp}(h:let R4:=b;let R3:=bh a4 R4;let R2:=bh a3 R3;let R1:=bh a2 R2;bh a1 R1 k s H):bh a1 (bh a2 (bh a3 (bh a4 b))) k s H:=h
def Ez{a1 a2 a3 a4 a5 b:TS}{k:Ends}{s:St}{H:Hp}(h:let R5:=b;let R4:=bh a5 R5;let R3:=bh a4 R4;let R2:=bh a3 R3;let R1:=bh a2 R2;bh a1 R1 k s H):bh a1 (bh a2 (bh a3 (bh a4 (bh a5 b)))) k s H:=h
def lR6{a1 a2 a3 a4 a5 a6 b:TS}{k:Ends}{s:St}{H:Hp}(h:let R6:=b;let R5:=bh a6 R6;let R4:=bh a5 R5;let R3:=bh a4 R4;let R2:=bh a3 R3;let R1:=bh a2 R2;bh a1 R1 k s H):bh a1 (bh a2 (bh a3 (bh a4 (bh a5 (bh a6 b))))) k s H:=h
def EA{a1 a2 a3 a4 a5 a6 a7 b:TS}{k:Ends}{s:St}{H:Hp}(h:let R7:=b;let R6:=bh a7 R7;let R5:=bh a6 R6;let R4:=bh a5 R5;let R3:=bh a4 R4;let R2:=bh a3 R3;let R1:=bh a2 R2;bh a1 R1 k s H):bh a1 (bh a2 (bh a3 (bh a4 (bh a5 (bh a6 (bh a7 b)))))) k s H:=h
def lR9{a1 a2 a3 a4 a5 a6 a7 a8 a9 b:TS}{k:Ends}{s:St}{H:Hp}(h:let R9:=b;let R8:=bh a9 R9;let R7:=bh a8 R8;let R6:=bh a7 R7;let R5:=bh a6 R6;let R4:=bh a5 R5;let R3:=bh a4 R4;let R2:=bh a3 R3;let R1:=bh a2 R2;bh a1 R1 k s H):bh a1 (bh a2 (bh a3 (bh a4 (bh a5 (bh a6 (bh a7 (bh a8 (bh a9 b)))))))) k s H:=h
end L2
namespace Yd
open PySem PySem.Spec PyProof.Rows L2
def top(i:Nat):Stmt:=PySem.Challenge.pw_yardtimes_s01_answers.main.body.getD i (.Pass ⟨0,0,0,0⟩)
def xu(x qual:Str)(st:Stmt)(ps:List Str):Prop:=∀(kV doc pm:ao) (an:Option Addr) (aU ct:ao) (us:List ao),us.length=ps.length->
 bindArgs (PySem.W.fnOf x qual (rJ st) (mD st) (hW st) .none kV doc pm an aU ct) ⟨us,[]⟩=pure (ps.zip us)
def EB(a:sc.kind= .function:=by rfl)(b:sc.isCoroutine=false:=by rfl)(c:sc.isGenerator=false:=by rfl)(d:N.Nodup:=by decide +kernel)(e:N.take P.length=P:=by rfl)
  (f:∀x∈P,sc.names.lookup x=some .local\/sc.names.lookup x=some .cell:=by decide +kernel)(g:∀y∈sc.names,y.2≠ .free:=by decide +kernel):qW N P sc:=⟨a,b,c,d,e,f,g⟩
def EC{x qual:Str}{st:Stmt}{ps:List Str}(h:xu x qual st ps:=by intro _ _ _ _ _ _ us hl;rcases us with _|⟨_,_|⟨_,_|⟨_,_|⟨_,_|⟨_,_|⟨_,_|⟨_,_|⟨_,_⟩⟩⟩⟩⟩⟩⟩⟩<;>first|(simp at hl;done)|rfl):xu x qual st ps:=h
structure b5(K:aa)(mg:Str->Option ao)(x:Str)(st:Stmt):Prop where
 ex:∃(f:Addr) (fd:FuncData),pb K x x st f fd/\mg x=some (.ref f)
structure df(K:aa)(C:Addr)(m qual:Str)(st:Stmt):Prop where
 ex:∃(f:Addr) (fd:FuncData),pb K m qual st f fd/\t_ K C m f
section
variable(P:af)(w:ah)(K:aa)(mg:Str->Option ao)(base:Heap)
structure b9(x:Str)(k:Nat)(ps:List Str)(sp:Sp):Prop where
 ex:∃(f:Addr) (fd:FuncData),hJ P w K mg base lE k f fd ps sp/\mg x=some (.ref f)/\PySem.W.keepIn K (.ref f)=true/\Binds K fd ps []
structure cK(C:Addr)(m:Str)(k:Nat)(ps:List Str)(sp:Sp):Prop where
 ex:∃(f:Addr) (fd:FuncData),hJ P w K mg base lE k f fd ps sp/\t_ K C m f/\Binds K fd ps []
 cl:gG K C
structure mM(x:Str)(C:Addr)(k:Nat)(ps:List Str)(sp:Sp):Prop where
 ex:∃(f:Addr) (fd:FuncData),hJ P w K mg base lE k f fd ps sp/\Mk K C f/\Binds K fd ps []
 mg:mg x=some (.ref C)
end
variable{K:aa}
def cg{x:Str}{st:Stmt}{ps:List Str}{k:Nat}{sp:Sp}(N:List Str)(T:b5 K mg x st)
  (qX:N.Nodup->∀(f:Addr) (aU:ao) (A:ai) (outer:List Env) (s:ae) (H:Hp) (vs:List V) (Q:VK) (E:XK),du k (A.deeper (envOfC x (hW st) s.heap.objs.size f aU))->sp vs H Q E->
   ∃t,iL (bc lE P w K mg base N x (hW st) f aU A outer s H E).bf (mD st) t/\t {nx:=λ_ H'=>Q .aQ H',rt:=Q} (start N vs) H)(S:qW N ps (hW st):=by exact EB)(B:xu x x st ps:=by exact EC)(len:∀vs H Q E,sp vs H Q E->vs.length=ps.length:=by intro vs H Q E h;cases h;subst_vars;rfl):b9 P w K mg base x (k+1) ps sp:=by
 obtain⟨f,fd,F,hm⟩:=T.ex;exact⟨f,fd,F.ok S len (qX S.nd f),hm,F.kp,F.binds B⟩
def dY{C:Addr}{m qual:Str}{st:Stmt}{ps:List Str}{k:Nat}{sp:Sp}(N:List Str)(T:df K C m qual st)(cl:gG K C)
  (qX:N.Nodup->∀(f:Addr) (aU:ao) (A:ai) (outer:List Env) (s:ae) (H:Hp) (vs:List V) (Q:VK) (E:XK),du k (A.deeper (envOfC qual (hW st) s.heap.objs.size f aU))->sp vs H Q E->
   ∃t,iL (bc lE P w K mg base N qual (hW st) f aU A outer s H E).bf (mD st) t/\t {nx:=λ_ H'=>Q .aQ H',rt:=Q} (start N vs) H)(S:qW N ps (hW st):=by exact EB)(B:xu m qual st ps:=by exact EC)(len:∀vs H Q E,sp vs H Q E->vs.length=ps.length:=by intro vs H Q E h;cases h;subst_vars;rfl):cK P w K mg base C m (k+1) ps sp:=by
 obtain⟨f,fd,F,hm⟩:=T.ex;exact⟨⟨f,fd,F.ok S len (qX S.nd f),hm,F.binds B⟩,cl⟩
def sh(M:cK P w K mg base C "__init__" k ps sp)(mk:PySem.W.makesIn K C=true)(kc:PySem.W.keepIn K (.ref C)=true)(hm:mg x=some (.ref C)):mM P w K mg base x C k ps sp:=by obtain⟨f,fd,F,h,b⟩:=M.ex;exact⟨⟨f,fd,F,⟨mk,h.at_,h.fn,kc⟩,b⟩,hm⟩
def bB(F:b9 X.prog X.w X.K X.mg X.base x k ps sp)(hr:du n X.A)(ha:PA X (e::es) t)(hn:k<=n:=by first|decide|omega)(hg:Gl X x:=by rfl)(hU:(x==("__debug__":Str))=false:=by decide)
  (he:starEach (e::es) X.env=(false,eval e X.env)::starEach es X.env:=by rfl)(eG:(backTo pos (starEach es X.env)).any (·.1)=false:=by rfl):PE X (.Call (.Name x p) (e::es) [] pos) (IM sp [] E0 t):=by
 obtain⟨f,fd,F,hm,hk,hb⟩:=F.ex;exact UL F (hr.mono hn) hg hm hk hb .nil wK ha hU he eG
def dg(F:cK X.prog X.w X.K X.mg X.base C m k ps sp)(hr:du n X.A)(he:PE X o ta)(ha:PA X (e::es) t)(hn:k<=n:=by first|decide|omega)
  (b4:starEach (e::es) X.env=(false,eval e X.env)::starEach es X.env:=by rfl)(eG:(backTo pos (starEach es X.env)).any (·.1)=false:=by rfl)
  (ht:eval (.Call (.Attribute o m apos) (e::es) [] pos) X.env=(do
   let ov<-eval o X.env
   standAt apos.atName
   let(f,first)<-holding [ov] (getMethod ov m pl)
   callWith pos f first (backTo pos (starEach (e::es) X.env)) (backToKw pos (keywordEach [] X.env))):=by rfl):PE X (.Call (.Attribute o m apos) (e::es) [] pos) (zE C m sp [] E0 ta t):=by
 obtain⟨⟨f,fd,F,hm,hb⟩,cl⟩:=F;exact UM he cl hm F (hr.mono hn) hb .nil wK ha b4 eG ht
def xw(F:cK X.prog X.w X.K X.mg X.base C m k ps sp)(hr:du n X.A)(he:PE X o ta)(hn:k<=n:=by first|decide|omega)
  (ht:eval (.Call (.Attribute o m apos) [] [] pos) X.env=(do
   let ov<-eval o X.env
   standAt apos.atName
   let(f,first)<-holding [ov] (getMethod ov m pl)
   callWith pos f first (backTo pos (starEach [] X.env)) (backToKw pos (keywordEach [] X.env))):=by rfl):PE X (.Call (.Attribute o m apos) [] [] pos) (zE C m sp [] E0 ta qS):=by
 obtain⟨⟨f,fd,F,hm,hb⟩,cl⟩:=F;exact UN he cl hm F (hr.mono hn) hb .nil wK ht
def pN(F:mM X.prog X.w X.K X.mg X.base x C k ps sp)(hr:du n X.A)(ha:PA X (e::es) t)(hn:k+1<=n:=by first|decide|omega)(hg:Gl X x:=by rfl)(hU:(x==("__debug__":Str))=false:=by decide)
  (he:starEach (e::es) X.env=(false,eval e X.env)::starEach es X.env:=by rfl)(eG:(backTo pos (starEach es X.env)).any (·.1)=false:=by rfl):PE X (.Call (.Name x p) (e::es) [] pos) (zF C sp [] E0 t):=by
 obtain⟨⟨f,fd,F,M,hb⟩,hm⟩:=F;exact UO M F (hr.mono hn) hg hm hb .nil wK ha hU he eG
def ED(F:mM X.prog X.w X.K X.mg X.base x C k ps sp)(hr:du n X.A)(hn:k+1<=n:=by first|decide|omega)(hg:Gl X x:=by rfl)(hU:(x==("__debug__":Str))=false:=by decide):PE X (.Call (.Name x p) [] [] pos) (zF C sp [] E0 qS):=by obtain⟨⟨f,fd,F,M,hb⟩,hm⟩:=F;exact UP M F (hr.mono hn) hg hm hb .nil wK hU
def bw(i:Nat)(hN:X.N.Nodup)(he:PE X e te)(hi:X.N[i]?=some x:=by rfl)(hx:Loc X.env.scope x:=by first|exact Or.inl rfl|exact Or.inr rfl)(hs:swapsWith e (some (.Name x pos')) pos.line X.env=pure false:=by rfl)
  (hf:X.fn x=true\/X.env.scope.names.lookup x=some .local:=by first|exact .inl rfl|exact .inr rfl|assumption):PS X (.Assign [.Name x pos'] e pos) (zp te (tX i)):=TX hN hi hx he hs hf
def ck(i:Nat)(hN:X.N.Nodup)(hi:X.N[i]?=some x:=by rfl)(hx:Loc X.env.scope x:=by first|exact Or.inl rfl|exact Or.inr rfl)(hf:X.fn x=true\/X.env.scope.names.lookup x=some .local:=by first|exact .inl rfl|exact .inr rfl|assumption):PG X (.Name x pos) (tX i):=TQ hN hi hx hf
abbrev aay:Stmt:=top 2
abbrev aaz:Stmt:=inClass (top 3) 0
abbrev aaA:Stmt:=inClass (top 3) 1
abbrev aaB:Stmt:=inClass (top 3) 2
abbrev aaC:Stmt:=inClass (top 3) 3
abbrev aaD:Stmt:=inClass (top 3) 4
abbrev aaE:Stmt:=top 8
abbrev aaF:Stmt:=top 9
abbrev aaG:Stmt:=top 10
abbrev aaH:Stmt:=top 11
abbrev aaI:Stmt:=top 12
abbrev aaJ:Stmt:=top 13
abbrev aaK:Stmt:=top 14
abbrev aaL:Stmt:=top 15
abbrev aaM:Stmt:=top 16
abbrev aaN:Stmt:=top 28
abbrev aaO:Stmt:=top 29
abbrev aaP:Stmt:=top 30
abbrev aaQ:Stmt:=top 31
abbrev aaR:Stmt:=top 32
abbrev aaS:Stmt:=top 33
abbrev aaT:Stmt:=top 34
abbrev aaU:Stmt:=top 35
abbrev aaV:Stmt:=top 36
abbrev aaW:Stmt:=inClass (top 38) 0
abbrev aaX:Stmt:=top 39
abbrev aaY:Stmt:=top 40
abbrev aaZ:Stmt:=top 41
abbrev aa0:Stmt:=inClass (top 46) 0
abbrev aa1:Stmt:=top 47
abbrev aa2:Stmt:=top 48
abbrev aa3:Stmt:=top 49
abbrev aa4:Stmt:=top 50
abbrev aa5:Stmt:=top 51
abbrev aa6:Stmt:=top 52
abbrev aa7:Stmt:=inClass (top 54) 0
abbrev aa8:Stmt:=top 55
abbrev aa9:Stmt:=top 56
abbrev aa_:Stmt:=top 57
abbrev aba:Stmt:=top 58
abbrev abb:Stmt:=top 59
abbrev abc:Stmt:=top 60
abbrev abd:Stmt:=top 61
abbrev abe:Stmt:=top 62
abbrev abf:Stmt:=top 63
abbrev abg:Stmt:=top 64
abbrev abh:Stmt:=top 65
abbrev abi:Stmt:=inClass (top 71) 0
abbrev abj:Stmt:=inClass (top 71) 1
abbrev abk:Stmt:=inClass (top 71) 2
abbrev abl:Stmt:=inClass (top 71) 3
abbrev AI:Stmt:=inClass (top 71) 4
abbrev EE:Stmt:=inClass (top 71) 5
abbrev abm:Stmt:=top 72
abbrev abn:Stmt:=top 73
abbrev abo:Stmt:=top 74
abbrev abp:Stmt:=top 75
abbrev abq:Stmt:=top 76
abbrev abr:Stmt:=top 77
abbrev abt:Stmt:=inClass (top 87) 0
abbrev abu:Stmt:=inClass (top 87) 1
abbrev abv:Stmt:=inClass (top 87) 2
abbrev abw:Stmt:=inClass (top 87) 3
abbrev abx:Stmt:=inClass (top 87) 4
abbrev aby:Stmt:=inClass (top 87) 5
abbrev abz:Stmt:=inClass (top 87) 6
abbrev abA:Stmt:=inClass (top 87) 7
abbrev abB:Stmt:=inClass (top 87) 8
abbrev abC:Stmt:=inClass (top 87) 9
abbrev abD:Stmt:=inClass (top 87) 10
abbrev abE:Stmt:=top 88
abbrev abF:Stmt:=inClass (top 89) 0
abbrev abG:Stmt:=inClass (top 89) 1
abbrev abH:Stmt:=inClass (top 89) 2
abbrev abI:Stmt:=inClass (top 89) 3
abbrev abJ:Stmt:=top 90
abbrev AJ:Stmt:=top 91
def xy:qW ["calls","yard","source","told","answer"] ["calls"] (hW AJ):=EB
def abK:xu "answers" "answers" AJ ["calls"]:=EC
def eI:bootBuiltins "len"=some (.builtin "len"):=by decide +kernel
def abL:bootBuiltins "ord"=some (.builtin "ord"):=by decide +kernel
def EF:bootBuiltins "all"=some (.builtin "all"):=by decide +kernel
def M7:bootBuiltins "any"=some (.builtin "any"):=by decide +kernel
def abM:bootBuiltins "int"=some (.type "int"):=by decide +kernel
def abN:bootBuiltins "list"=some (.type "list"):=by decide +kernel
def M8:bootBuiltins "tuple"=some (.type "tuple"):=by decide +kernel
def abO:bootBuiltins "sorted"=some (.builtin "sorted"):=by decide +kernel
def xA:bootBuiltins "max"=some (.builtin "max"):=by decide +kernel
def GI(mg:Str->Option ao)(x:Str)(i:Int):Prop:=∃t,mg x=some (.int i t)
def GS(mg:Str->Option ao)(x:Str)(y:Str):Prop:=∃t,mg x=some (.str y t)
def cM(h:GI X.mg x i)(hg:Gl X x)(hd:(x==("__debug__":Str))=false:=by decide):PE X (.Name x pos) (tC (.int i)):=by obtain⟨t,h⟩:=h;exact tV hg h ⟨t,rfl⟩ hd
def abP(h:GS X.mg x y)(hg:Gl X x)(hd:(x==("__debug__":Str))=false:=by decide):PE X (.Name x pos) (tC (.str y)):=by obtain⟨t,h⟩:=h;exact tV hg h ⟨t,rfl⟩ hd
structure MD(w:ah)(K:aa)(a:Addr)(tab:List (Str×V)):Prop where
 ex:∃(es:Array DictEntry) (n:Nat),K.lookup a=some ⟨.type "dict",none,.dict es n,#[]⟩/\PySem.W.KeysLit w.params es.toList/\∀x,gp (tab.lookup x) (findBy Value.isStrOf es x)
 ns:(a==sysModules)=false
inductive M9(w:ah)(K:aa)(Q:VK)(y:V)(x:V)(H2:Hp):Prop
 |mk:∀a tab s,x= .ref a->y= .str s->MD w K a tab->Q (.bl (tab.lookup s).isSome) H2->M9 w K Q y x H2
def abQ(w:ah)(K:aa)(ty td:TE):TE:=λσ H Q=>ty σ H λy H1=>td σ H1 λx H2=>M9 w K Q y x H2
inductive M_(w:ah)(K:aa)(Q:VK)(x:V)(y:V)(H2:Hp):Prop
 |mk:∀a tab s v,x= .ref a->y= .str s->MD w K a tab->tab.lookup s=some v->Q v H2->M_ w K Q x y H2
def abR(w:ah)(K:aa)(td ty:TE):TE:=λσ H Q=>td σ H λx H1=>ty σ H1 λy H2=>M_ w K Q x y H2
def abS(hi:PE X i ty)(ho:PE X o td):PC X .In i o (abQ X.w X.K ty td):=by intro pins s σ H Q I h;refine aM (hi pins s σ H _ I h) λiv s1 ⟨y,H1,I1,ry,q1⟩=>aM (ho pins s1 σ H1 _ I1 q1) λu s2 h_=>?_;obtain⟨x,H2,I2,rx,a,tab,z,ex,ey,M,q2⟩:=h_;subst ex ey;obtain rfl:u=Value.ref a:=rx;obtain⟨t,rfl⟩:=ry;obtain⟨⟨es,n,hl,hk,ht⟩,hs⟩:=M;have hm:=Hx (prog:=X.prog) I2.gr hl hk;refine wpAny_in_of (strKind_is X.prog X.w z t) hs hm ?_;exact⟨.bl _,H2,I2.tok _,by rw[<-(ht z).o7];rfl,q2⟩
def Na(ho:PE X o td)(hi:PE X i ty)(hs:Dc i):PE X (.Subscript o i pos) (abR X.w X.K td ty):=by intro pins s σ H Q I h;refine J0 PySem.F.slot_dict_getitem.lookup hs (aM (ho pins s σ H _ I h) λu s1 ⟨x,H1,I1,rx,q1⟩=>aM (hi pins s1 σ H1 _ I1 q1) λiv s2 h_=>?_);obtain⟨y,H2,I2,ry,a,tab,z,v,ex,ey,M,lv,q2⟩:=h_;subst ex ey;obtain rfl:u=Value.ref a:=rx;obtain⟨t,rfl⟩:=ry;obtain⟨⟨es,n,hl,hk,ht⟩,hs⟩:=M;have hm:=Hx (prog:=X.prog) I2.gr hl hk;have hz:=ht z;rw[lv]at hz;obtain⟨u',e',r'⟩:=hz.some_of;exact⟨hm.typeIs,wpAny_getItem_of (strKind_is X.prog X.w z t) hm e' ⟨v,H2,I2.tok _,r',q2⟩⟩
inductive Nb(w:ah)(K:aa)(ty:TE)(σ:L2.St)(Q:VK)(x:V)(H1:Hp):Prop
 |mk:∀a tab,x= .ref a->MD w K a tab->(ty σ H1 λy H2=>∃s,y= .str s/\Q ((tab.lookup s).getD .aQ) H2)->Nb w K ty σ Q x H1
def abT(w:ah)(K:aa)(td ty:TE):TE:=λσ H Q=>td σ H λx H1=>Nb w K ty σ Q x H1
def abU(ho:PE X o td)(he:PE X e ty)(m:M1 X o "get" apos e dv):PE X (.Call (.Attribute o "get" apos) [e] [] dv) (abT X.w X.K td ty):=by
 intro pins s σ H Q I h;refine yY m.base m.dO m.line BY mY G0 (aM (ho pins s σ H _ I h) λu s1 h_=>?_);obtain⟨x,H1,I1,rx,a,tab,ex,M,q1⟩:=h_;subst ex;obtain rfl:u=Value.ref a:=rx;obtain⟨⟨es,n,hl,hk,ht⟩,hs⟩:=M;have xB:=Hx (prog:=X.prog) I1.gr hl hk;refine⟨xB.typeIs,λb q=>?_,?_⟩
 ·cases q;exact⟨_,I1.gr _ _ hl,rfl⟩
 rw[m.trees];refine tL rfl (vy (kT (aM (he pins s1 σ H1 _ I1 q1) λiv s2 ⟨y,H2,I2,ry,z,ey,q2⟩=>oJ ?_)));subst ey;obtain⟨t,rfl⟩:=ry;have hm:=Hx (prog:=X.prog) I2.gr hl hk;refine qy mY hm.typeIs vE (SF _ _) (meets_dict_get (strKind X.prog X.w) a (strKind_is X.prog X.w z t) hs) ⟨_,hm,?_⟩;exact⟨_,H2,I2.tok _,(ht z).getD (d:=V.aQ) (d':=Value.none) rfl,q2⟩
def abV{x:Str}{g:TG}{tb:TS}{D:Ends}{σ:L2.St}{H:Hp}(Pv:Nat->L2.St->Hp->Prop)(h0:Pv 0 σ H)
  (hs:∀(i c:Nat) σ H,x.cps.toList[i]?=some c->Pv i σ H->g (.str ⟨#[c]⟩) σ H λσ2 H2=>tb {D with nx:=Pv (i+1),ct:=Pv (i+1),bk:=D.nx} σ2 H2)(hd:∀σ H,Pv x.cps.toList.length σ H->D.nx σ H):
  ∃W:Nat->Nat->L2.St->Hp->Prop,(∃m,W 0 m σ H)/\∀i m σ H,W i m σ H->
   ((o9 x).stop i H/\D.nx σ H)\/((o9 x).go i H/\∃N:L2.St->Hp->Prop,(∀σ' H',N σ' H'->∃m',m'<m/\W (i+1) m' σ' H')/\∀y H',(o9 x).i4 i H y H'->g y σ H' λσ2 H2=>tb {D with nx:=N,ct:=N,bk:=D.nx} σ2 H2):=by
 have hlen:x.cps.toList.length=x.cps.size:=qu;refine⟨λi m σ H=>m=x.cps.size - i/\i<=x.cps.size/\Pv i σ H,⟨x.cps.size,by simp,bL _,h0⟩,?_⟩;rintro i m σ H ⟨rfl,hi,p⟩;by_cases bq:i<x.cps.size
 ·refine .inr ⟨bq,Pv (i+1),λσ' H' p'=>⟨x.cps.size -(i+1),by grind,rfl,bq,p'⟩,λy H' q=>?_⟩;obtain⟨e,c,hc,rfl⟩:=q;subst e;exact hs i c σ _ (by rw[Array.getElem?_toList];exact hc) p
 have e:i=x.cps.size:=by lia
 subst e;exact .inl ⟨aW _,hd σ H (by assumption)⟩
def abW{x:Str}{g:TG}{tt:TT}{te:TE}{vs:List Nat}{σ:L2.St}{H1:Hp}{D:Addr}{Qd:Hp->Prop}(Pv:Nat->Hp->Prop)(h0:Pv 0 (upd H1 D (.lst [])))
  (hs:∀(i c:Nat) H,x.cps.toList[i]?=some c->Pv i H->g (.str ⟨#[c]⟩) (wipe σ vs) H λσ2 H2=>wipe σ2 vs=wipe σ vs/\tt σ2 H2 λb H3=>
   if b=true then te σ2 H3 λy H4=>∃acc,H4 D=some (.lst acc)/\acc.length<sizeLine/\Pv (i+1) (upd H4 D (.lst (acc++[y])))else Pv (i+1) H3)(hd:∀H,Pv x.cps.toList.length H->Qd H):
  ∃W:Nat->Nat->Hp->Prop,(∃m,W 0 m (upd H1 D (.lst [])))/\∀i m H,W i m H->
   ((o9 x).stop i H/\Qd H)\/((o9 x).go i H/\∃Nx:Hp->Prop,(∀H',Nx H'->∃m',m'<m/\W (i+1) m' H')/\∀y H',(o9 x).i4 i H y H'->g y (wipe σ vs) H' λσ2 H2=>wipe σ2 vs=wipe σ vs/\tt σ2 H2 λb H3=>
    if b=true then te σ2 H3 λy H4=>∃acc,H4 D=some (.lst acc)/\acc.length<sizeLine/\Nx (upd H4 D (.lst (acc++[y])))else Nx H3):=by
 have hlen:x.cps.toList.length=x.cps.size:=qu;refine⟨λi m H=>m=x.cps.size - i/\i<=x.cps.size/\Pv i H,⟨x.cps.size,by simp,bL _,h0⟩,?_⟩;rintro i m H ⟨rfl,hi,p⟩;by_cases bq:i<x.cps.size
 ·refine .inr ⟨bq,Pv (i+1),λH' p'=>⟨x.cps.size -(i+1),by grind,rfl,bq,p'⟩,λy H' q=>?_⟩;obtain⟨e,c,hc,rfl⟩:=q;subst e;exact hs i c _ (by rw[Array.getElem?_toList];exact hc) p
 have e:i=x.cps.size:=by lia
 subst e;exact .inl ⟨aW _,hd H (by assumption)⟩
def Nc:V->Bool
 | .aQ=>true
 |_=>false
def AL:ao->Bool
 | .none=>true
 |_=>false
inductive Nd(K:aa)(x:V)(y:V)(H:Hp)(Q:VK):Prop
 |mk:∀p xs,x= .aQ->y= .ref p->aB K H p xs->(∀v∈xs,v= .aQ\/∃t ys,v= .ref t/\aX K H t ys)->Q (.bl (xs.any Nc)) H->Nd K x y H Q
def abX(K:aa):R2:=λx y H Q=>Nd K x y H Q
theorem Nf:∀{xs:List V} {us:List ao},aY xs us->us.any AL=xs.any Nc
 |_,_,.nil=>rfl
 |x::xs,u::us,.cons r t=>by
  rw[l6,l6,Nf t];congr 1;cases x with
  |aQ=>cases r;rfl
  |bl b=>cases r;rfl
  |int i=>obtain⟨t,rfl⟩:=r;rfl
  |str i=>obtain⟨t,rfl⟩:=r;rfl
  |gF i=>obtain⟨t,rfl⟩:=r;rfl
  |vO i=>obtain⟨t,rfl⟩:=r;rfl
  |ref a=>cases r;rfl
  |ty n=>cases r;rfl
theorem Ng:∀{xs:List V} {us:List ao},aY xs us->∀u∈us,∃x∈xs,RelV x u
 |_,_,.nil,u,hu=>by simp_all
 |x::xs,v::us,.cons r t,u,hu=>by
  rcases be.mp hu with rfl|hu
  ·exact⟨x,cT,r⟩
  obtain⟨y,hy,ry⟩:=Ng t u hu;exact⟨y,bU _ hy,ry⟩
def abY(hu:X.A.units+1<cLine):dN X (compareOp .In) (abX X.K):=by
 intro pins s σ H x y v u Q I rx ry h;obtain⟨p,xs,rfl,rfl,hq,cx,q⟩:=h;cases ry;cases rx;obtain⟨its,r,pl,hz⟩:=I.list hq;refine SeqAt.in_listAt AL pl.isList (λw' hw=>?_) ⟨.bl _,H,I,rfl,?_⟩
 ·obtain⟨z,lB,rz⟩:=Ng r w' (by simpa using hw)
  rcases cx z lB with e|⟨t,ys,e,ht⟩
  ·subst e;cases rz;exact Jl (y:=.aQ) (x:=.aQ) rfl rfl rfl rfl
  subst e;cases rz;obtain⟨gS,r2,pl2,_⟩:=I.tuple ht;exact SeqAt.EqAt.tuple_none pl2 hu
 rw[show its.toArray.any AL=its.any AL by simp,Nf r];exact q
def ab0(hd:(d==sysModules)=false)(ho:s.heap.get? d=some o)(hx:o.ExactDict)(lD:o.data= .dict es ep)(wO:(es.size:Int)<2 ^ 63)
  (h:∀t tk,Q (.int es.size t) {s with toks:=tk}):wpAny (model prog w) A (call (.builtin "len") [.ref d]) Q E s:=by
 have hT:s.TypeIs (.ref d) "dict":=⟨o,ho,hx.1⟩;have M:MeetsIn prog w (Builtin.«dict.__len__» ⟨[.ref d],[]⟩) (λ_ R s=>s.heap.get? d=some o/\R (.ok (.ret (.int es.size s.toks))) {s with toks:=s.toks+1}):=
  .of_wp λA R s ⟨ho,h⟩=>by show wpAny _ _ (dictSize d>>=_) _ _ s;unfold dictSize;refine au (au (qz ho lD (aI ?_)));show wpAny _ _ (Builtin.Dict.pendingCount d>>=_) _ _ s;refine au (wpAny_pendingCount_other hd ?_);refine wpAny_ret_mkInt ?_;assumption
 refine Calls.call_function_entry kind_len plain_len entry_len (args_len1 _) ?_;unfold Builtin.«len»;refine au (m:=oneArg "len" _) (aI ?_);refine au (m:=callSpecial? (.ref d) (Str.ofString "__len__")) (l5 (name:=Str.ofString "__len__") hT F.slot_dict_len
  (qy F.slot_dict_len hT F.entry_dict_len (F.args_dict_len_1 _) M ⟨ho,?_⟩))
 show wpAny _ _ _ _ _ {s with toks:=s.toks+1};refine au (jn (aI ?_));refine au (qD ?_);show wpAny _ _ (if((es.size:Nat):Int)<0 then _ else _) _ _ _;rw[az (by omega)];show wpAny _ _ (if((es.size:Nat):Int)>=2 ^ 63 then _ else _) _ _ _;rw[az (by omega)];exact au (wpAny_mkInt (aI ⟨_,rfl,h _ _⟩))
def ab1:i5 X (.builtin "len") (λxs H Q=>dB λa kvs=>fN (xs=[V.ref a]) (H a=some (.dT kvs)) (Q (.int kvs.length) H)):=by
 intro pins s σ H xs us Q I r h;obtain⟨a,kvs,rfl,ha,q⟩:=h;obtain⟨u,rfl,ru⟩:=vals1 r;cases ru;obtain⟨z,hd,ys,rel,o,es,ep,ho,hx,lD,he,_,_⟩:=JY I.aK ha;have hl:es.size=kvs.length:=by rw[bZ rel,<-qu,he,aT]
 refine ab0 hd ho hx lD (by rw[hl];rw[bP]at z;lia) λt tk=>?_;rw[hl];exact⟨.int _,H,I.tok _,⟨t,rfl⟩,q⟩
structure aL where
 nX:Addr
 counts:Addr
 plan:Addr
 route:Addr
 aZ:Addr
 source:Addr
 move:Addr
 row:Addr
 search:Addr
def si(K:aa)(a:Addr)(xs:List V):Prop:=∃(o:Obj) (its:Array ao) (n:Nat),K.lookup a=some o/\o.cls= .type "tuple"/\o.data= .seq its n/\its.size<=sizeLine/\aY xs its.toList
def si.sq{K:aa}{a:Addr}{xs:List V}(h:si K a xs)(H:Hp):aX K H a xs:=.inr h
def kn(k:Nat):Str:=if k=0 then "plain" else if k=1 then "point" else "cross"
structure Nh(w:ah)(K:aa)(aE:Addr):Prop where
 ex:∃tab,MD w K aE tab/\(∀k,k<3->∃(a:Addr) (bs:List Addr),tab.lookup (kn k)=some (.ref a)/\si K a (bs.map V.ref)/\bs.length=Yh.endsOf k/\
  ∀(e:Nat) (b:Addr),bs[e]?=some b->si K b ((Yh.outsOf k e).map λ(n:Nat)=>V.int (n:Int)))/\∀x,(∀k,k<3->x≠kn k)->tab.lookup x=none
structure Txt(w:ah)(K:aa)(mg:Str->Option ao)(A:aL):Prop where
 ab2:mg "Plan"=some (.ref A.plan)
 ab3:PySem.W.makesIn K A.plan=true
 ab4:PySem.W.keepIn K (.ref A.plan)=true
 ab5:mg "Route"=some (.ref A.route)
 ab6:PySem.W.makesIn K A.route=true
 ab7:PySem.W.keepIn K (.ref A.route)=true
 ab8:mg "Yard"=some (.ref A.aZ)
 ab9:PySem.W.makesIn K A.aZ=true
 ab_:PySem.W.keepIn K (.ref A.aZ)=true
 aca:mg "Source"=some (.ref A.source)
 acb:PySem.W.makesIn K A.source=true
 acd:PySem.W.keepIn K (.ref A.source)=true
 ace:mg "Move"=some (.ref A.move)
 acf:PySem.W.makesIn K A.move=true
 acg:PySem.W.keepIn K (.ref A.move)=true
 ach:mg "Row"=some (.ref A.row)
 aci:PySem.W.makesIn K A.row=true
 acj:PySem.W.keepIn K (.ref A.row)=true
 ack:mg "Search"=some (.ref A.search)
 acm:PySem.W.makesIn K A.search=true
 acn:PySem.W.keepIn K (.ref A.search)=true
 EG:mg "EXITS"=some (.ref A.nX)
 nX:Nh w K A.nX
 aco:mg "END_COUNTS"=some (.ref A.counts)
 counts:MD w K A.counts [("join",.int 2),("border",.int 1),("signal",.int 1)]
 acp:GS mg "SIGNS" "\n .0123456789ABCDEFGHIJKLMNOPQRSTUVWXYZabcdefghijklmnopqrstuvwxyz"
 acq:GI mg "LONGEST_NAME" 4
 acr:GI mg "MOST_SECTIONS" 16
 acs:GI mg "MOST_SIGNALS" 12
 xC:GI mg "RIGHT" 0
 Ni:GI mg "NO_SUCH_LINE" 1
 acu:GI mg "NAME_IS_THERE" 2
 acv:GI mg "NO_SUCH_END" 3
 EH:GI mg "END_IS_TAKEN" 4
 acw:GI mg "END_NOT_JOINED" 5
 Nj:GI mg "NOT_PLAIN" 6
 Nk:GI mg "TOO_MANY" 7
 acx:GI mg "MOST_BYTES" 1024
 acy:GI mg "MOST_ROUTES" 64
 Nl:GI mg "LAST_TRAIN" 2
 acz:GI mg "LONGEST_TIME" 1000
 acA:GI mg "LATEST_READY" 1000000
 eJ:mg "len"=none
 acB:mg "ord"=none
 EI:mg "all"=none
 acC:mg "int"=none
 Nm:mg "list"=none
 acD:mg "sorted"=none
 Nn:mg "reversed"=none
 AM:mg "enumerate"=none
 Np:mg "any"=none
 xD:mg "max"=none
 xE:mg "zip"=none
 xF:mg "range"=none
 Nq:mg "tuple"=none
 EJ:GI mg "TURN" 0
 EK:GI mg "LEAVE" 1
 EL:GI mg "FIRST_ROUTE" 2
 acE:GI mg "MOST_ROWS" 20000
 acF:GI mg "ANYTHING" 0
 acG:GI mg "NOT_THERE" 1
 acH:GI mg "FIRST_SECTION" 2
 acI:GI mg "MOST_MOVES" 64
 acJ:GI mg "MOST_PLANNED" 5
 fT:gG K A.move
 xG:cU K A.move "train"
 Nr:cU K A.move "what"
 uN:cU K A.move "stands"
 Nt:cU K A.move "through"
 Nu:cU K A.move "frees"
 xH:cU K A.move "lasts"
 dz:gG K A.row
 rw_stands:cU K A.row "stands"
 rw_moves:cU K A.row "moves"
 rw_begins:cU K A.row "begins"
 rw_done:cU K A.row "done"
 eK:gG K A.search
 EM:cU K A.search "yard"
 Nv:cU K A.search "wanted"
 EN:cU K A.search "origin"
 xI:cU K A.search "known_moves"
 xJ:cU K A.search "known_reach"
 EO:cU K A.search "rides"
 c_:gG K A.plan
 lN:cU K A.plan "kinds"
 AN:cU K A.plan "numbers"
 sk:cU K A.plan "joined"
 AO:cU K A.plan "borders"
 uO:cU K A.plan "signals"
 lO:gG K A.route
 AQ:cU K A.route "start"
 AR:cU K A.route "sections"
 Nw:cU K A.route "heading"
 di:gG K A.aZ
 xK:cU K A.aZ "plan"
 AS:cU K A.aZ "routes"
 xM:cU K A.aZ "stands"
 uP:cU K A.aZ "section_times"
 AU:cU K A.aZ "ready_times"
 kG:gG K A.source
 ER:cU K A.source "supply"
 xN:cU K A.source "given"
 acK:b5 K mg "is_capital" aaF
 acL:b5 K mg "is_digit" aaG
 acM:b5 K mg "is_name" aaH
 acN:b5 K mg "is_end" aaI
 acO:b5 K mg "end_name" aaJ
 acP:b5 K mg "end_digit" aaK
 acQ:b5 K mg "is_section_kind" aay
 acR:b5 K mg "tells_section" aaL
 acS:b5 K mg "tells_ends" aaM
 acT:b5 K mg "lines_of" aaE
 acU:df K A.plan "has_end" "Plan.has_end" aaA
 acV:df K A.plan "is_plain" "Plan.is_plain" aaB
 acW:df K A.plan "exits" "Plan.exits" aaC
 acX:df K A.plan "may_stop" "Plan.may_stop" aaD
 acY:df K A.plan "__init__" "Plan.__init__" aaz
 acZ:b5 K mg "is_taken" aaS
 ac0:b5 K mg "take_join" aaT
 ac1:b5 K mg "take_border" aaU
 ac2:b5 K mg "take_signal" aaV
 ac3:b5 K mg "take_section" aaP
 ac4:b5 K mg "find_end" aaR
 ac5:b5 K mg "take_ends" aaQ
 ac6:b5 K mg "take_line" aaO
 ac7:b5 K mg "take_text" aaN
 ac8:df K A.route "__init__" "Route.__init__" aaW
 ac9:b5 K mg "ways_on" aaZ
 ac_:b5 K mg "routes_from" aaY
 ada:df K A.move "__init__" "Move.__init__" aa0
 adb:df K A.row "__init__" "Row.__init__" aa7
 ade:b5 K mg "with_stand" aa6
 adf:b5 K mg "is_one_held" aa5
 adg:b5 K mg "turn_of" aa2
 adh:b5 K mg "leave_of" aa3
 adi:b5 K mg "ride_of" aa4
 adj:b5 K mg "move_of" aa1
 adk:b5 K mg "wait_for" abb
 adl:b5 K mg "wait_in" abc
 adm:b5 K mg "begin_behind" aba
 adn:b5 K mg "empty_row" aa8
 ado:b5 K mg "longer_row" aa_
 adp:b5 K mg "ends_of" abd
 adq:b5 K mg "row_of" aa9
 ads:b5 K mg "tails_of" abf
 adt:b5 K mg "slack_of" abe
 adu:b5 K mg "is_bound" abh
 adv:b5 K mg "routes_of" aaX
 adw:b5 K mg "chain_of" abg
 adx:b5 K mg "suits" abm
 ady:df K A.search "is_wanted" "Search.is_wanted" abl
 adz:df K A.search "find_moves" "Search.find_moves" abk
 adA:df K A.search "moves_from" "Search.moves_from" abj
 adB:df K A.search "reaches" "Search.reaches" AI
 adC:df K A.search "reaches_onward" "Search.reaches_onward" EE
 adD:b5 K mg "is_sooner" abr
 adE:b5 K mg "soonest" abp
 adF:b5 K mg "longer_rows" abq
 adG:b5 K mg "best_row" abo
 adH:b5 K mg "has_too_many_rows" abn
 adI:df K A.search "__init__" "Search.__init__" abi
 adJ:df K A.aZ "begin" "Yard.begin" abu
 adK:df K A.aZ "__init__" "Yard.__init__" abt
 adL:df K A.aZ "read" "Yard.read" abv
 adM:df K A.aZ "holds_another" "Yard.holds_another" abx
 adN:df K A.aZ "place" "Yard.place" abw
 adO:df K A.aZ "takes" "Yard.takes" aby
 adP:df K A.aZ "ready" "Yard.ready" abz
 adQ:b5 K mg "row_refusal" abE
 adR:df K A.aZ "times" "Yard.times" abA
 adS:df K A.aZ "slack" "Yard.slack" abB
 adT:df K A.aZ "chain" "Yard.chain" abC
 adU:df K A.aZ "best" "Yard.best" abD
 adV:df K A.source "__init__" "Source.__init__" abF
 adW:df K A.source "is_used_up" "Source.is_used_up" abG
 adX:df K A.source "take" "Source.take" abH
 adY:df K A.source "take_row" "Source.take_row" abI
 adZ:b5 K mg "answer_next" abJ
 ad0:b5 K mg "answers" AJ
open Ym (f6 gA lI jH ln tr fY)
abbrev st(l:List Nat):Str:=⟨l.toArray⟩
def pO(l:List Nat):(st l).length=l.length:=by show(l.toArray).size=_;simp
def su:st a=st b↔a=b:=⟨λe=>by simp_all,λe=>by rw[e]⟩
def ad1(a b:Nat):(([a]:List Nat)<[b])↔a<b:=by
 constructor
 ·intro h
  cases h with
  |rel h=>exact h
  |cons h=>simp_all
 intro h;exact List.Lex.rel h
inductive Ny(f:Nat->Bool)(vs:List V)(H:Hp)(Q:VK):Prop
 |mk:∀c:Nat,vs=[.str (st [c])]->Q (.bl (f c)) H->Ny f vs H Q
def Nz(f:Nat->Bool):Sp:=λvs H Q _=>Ny f vs H Q
def uQ(a c:Nat):(!decide (([c]:List Nat)<[a]))=decide (a<=c):=by rw[oH];simp only[iK,Bool.not_eq_true',decide_eq_false_iff_not,ad1];simp[*]
def NA(T:Txt w K mg A0):b9 P w K mg base "is_capital" 1 ["sign"] (Nz f6):=by
 refine cg ["sign"] T.acK ?_;rintro nD f aU A outer s H vs Q E hr ⟨c,rfl,k⟩;refine⟨_,(aH (aS (CC uu uu iM (pv 0) iM))),?_⟩;try dsimp only[bc,Cx.bf]
 refine⟨_,rfl,_,_,rfl,rfl,_,rfl,?_⟩;show if(!decide (([c]:List Nat)<[65]))=true then _ else _;rw[uQ];unfold f6 at k;refine eC (λh1=>⟨_,_,rfl,rfl,?_⟩) (λh1=>?_)
 ·rw[h1,m_,<-uQ]at k;exact k
 simp_all
def ad2(T:Txt w K mg A0):b9 P w K mg base "is_digit" 1 ["sign"] (Nz gA):=by
 refine cg ["sign"] T.acL ?_;rintro nD f aU A outer s H vs Q E hr ⟨c,rfl,k⟩;refine⟨_,(aH (aS (CC uu uu iM (pv 0) iM))),?_⟩;try dsimp only[bc,Cx.bf]
 refine⟨_,rfl,_,_,rfl,rfl,_,rfl,?_⟩;show if(!decide (([c]:List Nat)<[48]))=true then _ else _;rw[uQ];unfold gA at k;refine eC (λh1=>⟨_,_,rfl,rfl,?_⟩) (λh1=>?_)
 ·rw[h1,m_,<-uQ]at k;exact k
 simp_all
theorem dS{α:Type}:∀{l:List α} {i:Nat} {x:α},l[i]?=some x->l.take (i+1)=l.take i++[x]
 |[],i,x,h=>by simp at h
 |a::l,0,x,h=>by have e:a=x:=bC h;subst e;rfl
 |a::l,i+1,x,h=>by have ih:=dS (l:=l) (i:=i) (x:=x) h;simp[*]
inductive NB(f:List Nat->Bool)(vs:List V)(H:Hp)(Q:VK):Prop
 |mk:∀l:List Nat,vs=[.str (st l)]->l.length<=2000->(∀H',ax H H'->Q (.bl (f l)) H')->NB f vs H Q
def NC(f:List Nat->Bool):Sp:=λvs H Q _=>NB f vs H Q
theorem xO(h:n<=2000):n<=sizeLine:=by rw[bP];lia
def ax.new(h:H p=none):ax H (upd H p o):=λb u e=>by rw[ay (bz e h)];exact e
def ES(c:Nat)(r:List Nat):lI (c::r)=(decide (r.length<=3)&&(f6 c&&(c::r).all λx=>f6 x||gA x)):=rfl
def ND(T:Txt w K mg A0):
  b9 P w K mg base "is_name" 2 ["word"] (NC lI):=by
 refine cg ["word","sign"] T.acM ?_;rintro nD f aU A outer s H vs Q E hr ⟨l,rfl,hl,k⟩;refine⟨_,(aF (bD (ni (IB zB zB aP (cR Vj rfl T.eJ eI (aq (pv 0) aC)) (cM T.acq rfl))) (aH (aS oS)) bH) (aH (aS (jW (bB (NA T) hr (aq (bj zM (pv 0) aP) aC)) (iN (cR (CW rfl) rfl T.EI EF (aq (j_ (own:=[("sign",1)]) rfl nD (Kj (pv 0)) (i7 (by rfl)) (λ_ _ _ _ _=>(ck 1 nD)) (λ_ _ _ _ _=>j9) (λ_ _ _ _ _=>(vX (bB (NA T) hr (aq (pv 1) aC)) (iN (bB (ad2 T) hr (aq (pv 1) aC)))))) aC))))))),?_⟩;try dsimp only[bc,Cx.bf]
 refine pL ?_;intro _;have hz:(st l).length<=sizeLine:=by rw[pO];exact xO hl
 refine⟨_,rfl,_,rfl,hz,_,_,rfl,rfl,_,rfl,?_⟩;rw[pO];cases l with
 |nil=>exact⟨_,rfl,k H (ax.refl H)⟩
 |cons c r=>
  refine eC (λh1=>⟨_,_,rfl,rfl,?_⟩) (λh1=>absurd (cq (show(1:Int)<=((c::r).length:Int) by simp only[bG];lia)) h1);refine⟨_,rfl,?_⟩;by_cases h4:r.length<=3
  ·have e4:decide (((c::r).length:Int)<=4)=true:=cq (by simp only[bG];lia)
   rw[e4];refine bg ?_;have kD:iu (st (c::r)).cps.toList 0=some c:=bE (j:=0) rfl;refine⟨_,rfl,_,_,_,rfl,rfl,hz,kD,c,rfl,_,rfl,?_⟩;refine eC (λhc=>?_) (λhc=>?_)
   ·refine⟨_,rfl,_,rfl,λD hD=>?_⟩
    let Z1:Nat->Hp->Prop:=λi H'=>ax H H'/\H' D=some (.lst ((((c::r).take i).map λx=>f6 x||gA x).map V.bl));refine abW Z1 ⟨ax.new hD,aA⟩ ?_ ?_
    ·rintro i x H' hx ⟨sm,hd⟩
     have hx:(c::r)[i]?=some x:=hx;refine⟨rfl,⟨_,rfl,x,rfl,_,rfl,?_⟩⟩;have step:∀(b:Bool),b=(f6 x||gA x)->∃acc,H' D=some (.lst acc)/\acc.length<sizeLine/\(ax H (upd H' D (.lst (acc++[V.bl b])))/\(upd H' D (.lst (acc++[V.bl b]))) D=some (.lst ((((c::r).take (i+1)).map λx=>f6 x||gA x).map V.bl))):=by
      intro b hb;refine⟨_,hd,?_,λa o e=>?_,?_⟩
      ·rw[aT,aT,dQ];exact tO (GR _ _) (tO hl (by rw[bP];decide))
      ·rw[ay (bz e hD)];exact sm a o e
      rw[aA,dS hx,ft,ft,hb];rfl
     refine eC (λh2=>?_) (λh2=>⟨_,rfl,x,rfl,?_⟩)
     ·exact step true (by rw[h2];rfl)
     exact step (gA x) (by simp[*])
    rintro H' ⟨sm,hd⟩;have hd:H' D=some (.lst ((((c::r).take (c::r).length).map λx=>f6 x||gA x).map V.bl)):=hd;rw[zb]at hd;refine⟨_,_,rfl,aB.of hd,?_⟩;have e:lI (c::r)=(((c::r).map λx=>f6 x||gA x).all id):=by rw[ES];simp[*]
    rw[<-e];exact k H' sm
   have e:lI (c::r)=false:=by rw[ES];simp[*]
   have q:=k H (ax.refl H);rw[e]at q;exact q
  have e4:decide (((c::r).length:Int)<=4)=false:=b7 (by simp only[bG];lia);rw[e4];refine bA ?_;have e:lI (c::r)=false:=by rw[ES];simp[*]
  have q:=k H (ax.refl H);rw[e]at q;exact q
theorem NF(l:List Nat):wJ (st l) none (some (-2))=st (l.take (l.length - 2)):=by
 unfold wJ;have e1:(st l).cps.toList=l:=rfl;have e2:HT.ba (st l).length 0 none=0:=rfl;have e3:HT.ba (st l).length (st l).length (some (-2))=l.length - 2:=by rw[pO];show(-2+(l.length:Int)).toNat=_;lia
 simp[*]
theorem AV{α:Type}{l:List α}{k:Nat}{x:α}(h1:1<=k)(h2:k<=l.length)(h:l[l.length - k]?=some x):iu l (-(k:Int))=some x:=by
 unfold iu j7;rw[az (by lia),aD (by simp[*])];have e:(-(k:Int)+(l.length:Int)).toNat=l.length - k:=by lia
 simp[*]
def ad3:Str.ofString "."=st [46]:=by decide +kernel
def NG(a b:List Nat):decide (V.str (st a)=V.str (st b))=decide (a=b):=by simp[*]
def ad4(h:lI (l.take (l.length - 2))=false):jH l=false:=by unfold jH;simp[*]
def ad5(h:lI l=true):1<=l.length:=by
 cases l with
 |nil=>cases h
 |cons c r=>simp
def ad6(T:Txt w K mg A0):
  b9 P w K mg base "is_end" 3 ["word"] (NC jH):=by
 refine cg ["word"] T.acN ?_;rintro nD f aU A outer s H vs Q E hr ⟨l,rfl,hl,k⟩;refine⟨_,(aH (aS (jW (bB (ND T) hr (aq (mw KO (pv 0) mr (i6 (eh eA aP))) aC)) (jW (hG e_ (bj zM (pv 0) (eh eA aP)) iM (g_ _)) (iN (CC uu uu iM (bj zM (pv 0) (eh eA aP)) iM)))))),?_⟩;try dsimp only[bc,Cx.bf]
 have hz:(st l).length<=sizeLine:=by rw[pO];exact xO hl
 refine⟨_,rfl,_,rfl,_,rfl,_,rfl,hz,l.take (l.length - 2),by rw[<-NF];rfl,by rw[dQ];omega,λH1 s1=>⟨_,rfl,?_⟩⟩;refine eC (λhn=>?_) (λhn=>?_)
 ·have h3:3<=l.length:=by have:=ad5 hn;rw[dQ]at this;omega
  obtain⟨a,x,y,e⟩:=Ym.DY (l:=l) (by exact gN ‹_›);obtain⟨g1,g2⟩:=Ym.Ar a x y;rw[<-e]at g1 g2;have ee:jH l=(decide (x=46)&&(decide (48<=y)&&decide (y<=51))):=by rw[e,Ym.LX];rw[e,Ym.DZ]at hn;simp[*]
  rw[ee]at k;refine⟨_,rfl,_,rfl,_,_,_,rfl,rfl,hz,AV (l:=l) (k:=2) (by decide) (by simp[*]) g1,rfl,_,rfl,?_⟩;rw[ad3,NG];have e46:decide ([x]=[46])=decide (x=46):=by simp[*]
  rw[e46];refine eC (λNH=>?_) (λNH=>?_)
  ·rw[NH,m_]at k
   refine⟨_,rfl,_,rfl,_,_,_,rfl,rfl,hz,AV (l:=l) (k:=1) (by simp[*]) (by simp[*]) g2,_,_,rfl,rfl,_,rfl,?_⟩;show if(!decide (([y]:List Nat)<[48]))=true then _ else _;rw[uQ];refine eC (λh1=>⟨_,_,rfl,rfl,?_⟩) (λh1=>?_)
   ·rw[h1,m_,<-uQ]at k;exact k H1 s1
   simp_all
  simp_all
 have q:=k H1 s1;rw[ad4 (gQ.mpr hn)]at q;exact q
inductive NI(vs:List V)(H:Hp)(Q:VK):Prop
 |mk:∀l:List Nat,vs=[.str (st l)]->l.length<=2000->Q (.str (st (l.take (l.length - 2)))) H->NI vs H Q
def ad8:Sp:=λvs H Q _=>NI vs H Q
def ad9(T:Txt w K mg A0):b9 P w K mg base "end_name" 1 ["word"] ad8:=by
 refine cg ["word"] T.acO ?_;rintro nD f aU A outer s H vs Q E hr ⟨l,rfl,hl,k⟩;refine⟨_,(aH (aS (mw KO (pv 0) mr (i6 (eh eA aP))))),?_⟩;try dsimp only[bc,Cx.bf]
 have hz:(st l).length<=sizeLine:=by rw[pO];exact xO hl
 refine⟨_,rfl,_,rfl,_,rfl,_,rfl,hz,?_⟩;rw[<-NF]at k;exact k
inductive NJ(vs:List V)(H:Hp)(Q:VK):Prop
 |mk:∀(l:List Nat) (k:Nat),vs=[.str (st l)]->1<=l.length->l.length<=2000->l[l.length - 1]?=some (k+48)->k<=3->Q (.int k) H->NJ vs H Q
def ad_:Sp:=λvs H Q _=>NJ vs H Q
def aea:∀k:Nat,k<=3->PySem.intText? (st [k+48])=some (k:Int):=by
 intro k hk;match k,hk with
 |0,_=>decide +kernel
 |1,_=>decide +kernel
 |2,_=>decide +kernel
 |3,_=>decide +kernel
def NK(T:Txt w K mg A0):b9 P w K mg base "end_digit" 1 ["word"] ad_:=by
 refine cg ["word"] T.acP ?_;rintro nD f aU A outer s H vs Q E hr ⟨l,d,rfl,h1,hl,hd,h3,k⟩;refine⟨_,(aH (aS (zH WT rfl T.acC abM (aq (bj zM (pv 0) (eh eA aP)) aC)))),?_⟩;try dsimp only[bc,Cx.bf]
 have hz:(st l).length<=sizeLine:=by rw[pO];exact xO hl
 exact⟨_,rfl,_,rfl,_,_,_,rfl,rfl,hz,AV (l:=l) (k:=1) (by simp[*]) h1 hd,_,_,rfl,aea d h3,(by show 1<=640;decide),k⟩
open Yh (Bytes)
def aeb:Str.ofString "plain"=st [112,108,97,105,110]:=by decide +kernel
def aec:Str.ofString "point"=st [112,111,105,110,116]:=by decide +kernel
def aed:Str.ofString "cross"=st [99,114,111,115,115]:=by decide +kernel
def aee:Str.ofString "join"=st [106,111,105,110]:=by decide +kernel
def aef:Str.ofString "border"=st [98,111,114,100,101,114]:=by decide +kernel
def aeg:Str.ofString "signal"=st [115,105,103,110,97,108]:=by decide +kernel
def NL(b:Bytes):st (ln b)=Str.ofString "plain"↔b=Yh.ascii "plain":=by rw[aeb,su,Ym.pB (by decide) (t:=Yh.ascii "plain") (by decide +kernel)]
def NM(b:Bytes):st (ln b)=Str.ofString "point"↔b=Yh.ascii "point":=by rw[aec,su,Ym.pB (by decide) (t:=Yh.ascii "point") (by decide +kernel)]
def NN(b:Bytes):st (ln b)=Str.ofString "cross"↔b=Yh.ascii "cross":=by rw[aed,su,Ym.pB (by decide) (t:=Yh.ascii "cross") (by decide +kernel)]
def xP(b:Bytes):st (ln b)=Str.ofString "join"↔b=Yh.ascii "join":=by rw[aee,su,Ym.pB (by decide) (t:=Yh.ascii "join") (by decide +kernel)]
def AW(b:Bytes):st (ln b)=Str.ofString "border"↔b=Yh.ascii "border":=by rw[aef,su,Ym.pB (by decide) (t:=Yh.ascii "border") (by decide +kernel)]
def NO(b:Bytes):st (ln b)=Str.ofString "signal"↔b=Yh.ascii "signal":=by rw[aeg,su,Ym.pB (by decide) (t:=Yh.ascii "signal") (by decide +kernel)]
def iT(b:Bytes):Option Nat:=if b=Yh.ascii "plain" then some 0 else if b=Yh.ascii "point" then some 1 else if b=Yh.ascii "cross" then some 2 else none
def ET(h:iT b=some k):k<3/\st (ln b)=kn k:=by
 unfold iT at h;split at h
 ·rename_i e;cases h;exact⟨by decide,(NL b).mpr e⟩
 split at h
 ·rename_i e;cases h;exact⟨by decide,(NM b).mpr e⟩
 split at h
 ·rename_i e;cases h;exact⟨by decide,(NN b).mpr e⟩
 cases h
def aeh(h:iT b=none):∀k,k<3->st (ln b)≠kn k:=by
 unfold iT at h;split at h
 ·cases h
 rename_i h0;split at h
 ·cases h
 rename_i h1;split at h
 ·cases h
 rename_i h2;intro k hk;match k,hk with
 |0,_=>exact λe=>h0 ((NL b).mp e)
 |1,_=>exact λe=>h1 ((NM b).mp e)
 |2,_=>exact λe=>h2 ((NN b).mp e)
def iE(b:Bytes):Option Nat:=if b=Yh.ascii "join" then some 2 else if b=Yh.ascii "border" then some 1 else if b=Yh.ascii "signal" then some 1 else none
def aei(b:Bytes):(([("join",.int 2),("border",.int 1),("signal",.int 1)]:List (Str×V)).lookup (st (ln b))).getD .aQ=(match iE b with|some k=>V.int (k:Int)|none=>V.aQ):=by
 unfold iE;simp only[List.lookup];by_cases h1:b=Yh.ascii "join"
 ·rw[aD h1,(xP b).mpr h1];rfl
 rw[az h1];have e1:(st (ln b)==Str.ofString "join")=false:=oK.mpr λe=>h1 ((xP b).mp e);rw[e1];by_cases h2:b=Yh.ascii "border"
 ·rw[aD h2,(AW b).mpr h2];rfl
 rw[az h2];have e2:(st (ln b)==Str.ofString "border")=false:=oK.mpr λe=>h2 ((AW b).mp e);rw[e2];by_cases h3:b=Yh.ascii "signal"
 ·rw[aD h3,(NO b).mpr h3];rfl
 rw[az h3];have e3:(st (ln b)==Str.ofString "signal")=false:=oK.mpr λe=>h3 ((NO b).mp e);simp[*]
inductive NP(vs:List V)(H:Hp)(Q:VK):Prop
 |mk:∀b:Bytes,vs=[.str (st (ln b))]->Q (.bl (iT b).isSome) H->NP vs H Q
def aej:Sp:=λvs H Q _=>NP vs H Q
def aek(T:Txt w K mg A0):b9 P w K mg base "is_section_kind" 1 ["word"] aej:=by
 refine cg ["word"] T.acQ ?_;rintro nD f aU A outer s H vs Q E hr ⟨b,rfl,k⟩;refine⟨_,(aH (aS (vW (abS (pv 0) (tV (v:=.ref A0.nX) rfl T.EG rfl)) (by with_unfolding_all rfl)))),?_⟩;try dsimp only[bc,Cx.bf]
 obtain⟨tab,M,h1,h2⟩:=T.nX.ex;refine⟨_,rfl,_,tab,_,rfl,rfl,M,?_⟩;cases q:iT b with
 |some c=>obtain⟨hc,e⟩:=ET q;obtain⟨a,bs,hl,_⟩:=h1 c hc;rw[e,hl];rw[q]at k;exact k
 |none=>rw[h2 _ (aeh q)];rw[q]at k;exact k
def dZ(ws:List Bytes):List V:=ws.map λb=>V.str (st (ln b))
def NQ{ws:List Bytes}{i:Nat}{b:Bytes}(h:ws[i]?=some b):(dZ ws)[i]?=some (V.str (st (ln b))):=by unfold dZ;simp[*]
def uR(ws:List Bytes):(dZ ws).length=ws.length:=aT _
def EU(ws:List Bytes):Prop:=∀b∈ws,b.length<=2000
inductive NR(K:aa)(f:List Bytes->Bool)(vs:List V)(H:Hp)(Q:VK):Prop
 |mk:∀(a:Addr) (ws:List Bytes),vs=[.ref a]->aB K H a (dZ ws)->1<=ws.length->ws.length<=2000->EU ws->(∀H',ax H H'->Q (.bl (f ws)) H')->NR K f vs H Q
def NS(K:aa)(f:List Bytes->Bool):Sp:=λvs H Q _=>NR K f vs H Q
def uS(ws:List Bytes):Bool:=match ws with
 |[k,n]=>(iT k).isSome&&Yh.isName n
 |_=>false
def EV(k n:Bytes):uS [k,n]=((iT k).isSome&&Yh.isName n):=rfl
def ael(T:Txt w K mg A0):
  b9 P w K mg base "tells_section" 3 ["words"] (NS K uS):=by
 refine cg ["words"] T.acR ?_;rintro nD f aU A outer s H vs Q E hr ⟨a,ws,rfl,hs,h1,hl,kH,k⟩;refine⟨_,(aH (aS (jW (hG e_ (cR eU rfl T.eJ eI (aq (pv 0) aC)) aP (g_ _)) (jW (bB (aek T) hr (aq (bj cH (pv 0) aP) aC)) (iN (bB (ND T) hr (aq (bj cH (pv 0) aP) aC))))))),?_⟩;try dsimp only[bc,Cx.bf]
 refine⟨_,rfl,_,_,rfl,.inl hs,rfl,_,rfl,?_⟩;rw[uR,tZ];rcases ws with _|⟨x,_|⟨n,_|⟨z,r⟩⟩⟩
 ·simp_all
 ·exact k H (ax.refl H)
 ·refine⟨_,rfl,_,_,_,_,rfl,rfl,hs,bE (j:=0) rfl,x,rfl,_,rfl,?_⟩
  refine eC (λhk=>?_) (λhk=>?_)
  ·refine⟨_,rfl,_,_,_,_,rfl,rfl,hs,bE (j:=1) rfl,ln n,rfl,by rw[Ym.uC];exact kH n (by simp),λH' s'=>?_⟩;have q:=k H' s';rw[EV]at q;rw[hk,m_,<-Ym.LR]at q;exact q
  have q:=k H (ax.refl H);rw[EV]at q;simp_all
 have e:(((x::n::z::r).length:Int)==2)=false:=oK.mpr (by simp only[bG];lia);rw[e];exact k H (ax.refl H)
def xQ(ws:List Bytes):Bool:=match ws with
 |[]=>false
 |x::r=>match iE x with
  |none=>false
  |some k=>decide (r.length=k)&&r.all λb=>(Yh.endIn b).isSome
def AX(x:Bytes)(r:List Bytes):xQ (x::r)=(match iE x with
  |none=>false
  |some k=>decide (r.length=k)&&r.all λb=>(Yh.endIn b).isSome):=rfl
def EW(x:V)(r:List V):f_ (x::r) (some 1) none=r:=by
 unfold f_;have e1:HT.ba (x::r).length 0 (some 1)=1:=by show min (1:Int).toNat (r.length+1)=1;simp
 have e2:HT.ba (x::r).length (x::r).length none=r.length+1:=rfl;simp_all
def aem(T:Txt w K mg A0):
  b9 P w K mg base "tells_ends" 4 ["words"] (NS K xQ):=by
 refine cg ["words","word"] T.acS ?_;rintro nD f aU A outer s H vs Q E hr ⟨a,ws,rfl,hs,h1,hl,kH,k⟩;refine⟨_,(aH (aS (jW (hG e_ (dC jY (cR eU rfl T.eJ eI (aq (pv 0) aC)) aP) (abU (tV (v:=.ref A0.counts) rfl T.aco rfl) (bj cH (pv 0) aP) ⟨rfl,rfl,rfl,rfl⟩) (g_ _)) (iN (cR (CW rfl) rfl T.EI EF (aq (j_ (own:=[("word",1)]) rfl nD (g9 (mw wd (pv 0) (i6 aP) mr)) (i7 (by rfl)) (λ_ _ _ _ _=>(ck 1 nD)) (λ_ _ _ _ _=>j9) (λ_ _ _ _ _=>(bB (ad6 T) hr (aq (pv 1) aC)))) aC)))))),?_⟩;try dsimp only[bc,Cx.bf]
 rcases ws with _|⟨x,r⟩
 ·simp_all
 have aen:=aei x;refine⟨_,rfl,_,_,rfl,.inl hs,_,_,rfl,rfl,_,_,rfl,T.counts,_,rfl,_,_,_,_,rfl,rfl,hs,bE (j:=0) rfl,_,rfl,?_⟩;rw[aen,uR];rw[AX]at k;cases q:iE x with
 |none=>rw[q]at k;exact⟨rfl,_,rfl,k H (ax.refl H)⟩
 |some c=>
  rw[q]at k;have k:∀H',ax H H'->Q (V.bl (decide (r.length=c)&&r.all λb=>(Yh.endIn b).isSome)) H':=k;refine⟨rfl,_,rfl,?_⟩;show if decide (V.int (((x::r).length:Int) - 1)=V.int (c:Int))=true then _ else _;rw[tZ];by_cases hc:r.length=c
  ·have e:((((x::r).length:Int) - 1)==(c:Int))=true:=tH.mpr (by simp[*])
   rw[e];refine bA ?_;rw[cq hc]at k;refine⟨_,rfl,_,rfl,_,_,rfl,hs,λp hp=>⟨_,rfl,⟨_,aB.of aA⟩,λD hD=>?_⟩⟩;have jg:f_ (dZ (x::r)) (some 1) none=dZ r:=EW _ _;rw[jg]at hD⊢;have s1:ax H (upd H p (.lst (dZ r))):=ax.new hp;let Z1:Nat->Hp->Prop:=λi H'=>ax H H'/\H' p=some (.lst (dZ r))/\p≠D/\H' D=some (.lst (((r.take i).map λb=>jH (ln b)).map V.bl));refine nF (K:=K) (a:=p) (xs:=dZ r) Z1
    ⟨s1.trans (ax.new hD),ax.new hD _ _ aA,bz aA hD,aA⟩ (λi H' _ hh=>aB.of hh.2.1) ?_ ?_
   ·rintro i y H' hy ⟨sm,sx,EX,hd⟩
    obtain⟨b,hb,rfl⟩:∃b,r[i]?=some b/\y=V.str (st (ln b)):=by
     unfold dZ at hy;rw[cb]at hy;cases q2:r[i]? with
     |none=>simp_all
     |some b=>simp_all
    refine⟨rfl,_,rfl,ln b,rfl,by rw[Ym.uC];exact kH b (bU _ (d_ hb)),λH2 s2=>⟨_,s2 _ _ hd,?_,?_,?_,EX,?_⟩⟩
    ·rw[aT,aT,dQ];exact tO (GR _ _) (ig (by simp[*]) (xO hl))
    ·intro a' o' e';rw[ay (λz=>by subst z;have:=(s1.free hD);lia)];exact s2 _ _ (sm _ _ e')
    ·rw[ay EX];exact s2 _ _ sx
    rw[aA,dS hb,ft,ft];rfl
   rintro H' ⟨sm,sx,EX,hd⟩;have hd:H' D=some (.lst (((r.take (dZ r).length).map λb=>jH (ln b)).map V.bl)):=hd;rw[uR,zb]at hd;refine⟨_,_,rfl,aB.of hd,?_⟩;have e2:((r.map λb=>jH (ln b)).all id)=r.all λb=>(Yh.endIn b).isSome:=by rw[vB];congr 1;funext b;exact Ym.Zg b
   rw[e2];exact k H' sm
  have e:((((x::r).length:Int) - 1)==(c:Int))=false:=oK.mpr (by simp only[bG];lia);rw[e];rw[b7 hc]at k;exact k H (ax.refl H)
open Ym (gT)
theorem NT(s c:Nat)(r:List Nat):TL.pre [s] (c::r)=decide (c=s):=by show([c]==[s])=_;lia
theorem EY(s:Nat):∀(l acc:List Nat),TL.eR [s] 0 acc l=(match gT s l with
  |[]=>[acc]
  |w::r=>(acc++w)::r)
 |[],acc=>by rw[TL.z3];show [acc]=[acc++[]];rw[kU]
 |c::r,acc=>by
  by_cases h:c=s
  ·rw[TL.Ku (by rw[NT];exact cq h)]
   show acc::TL.eR [s] 0 [] r=_;rw[EY s r [],Ym.gT];cases q:gT s r with
   |nil=>exact absurd q (Ym.LS s r)
   |cons w t=>simp[*]
  rw[TL.Kv (by rw[NT];exact b7 h),EY s r (acc++[c]),Ym.gT];cases q:gT s r with
  |nil=>rfl
  |cons w t=>simp[*]
def aeo(s:Nat)(l:List Nat):TL.eR [s] 0 [] l=gT s l:=by
 rw[EY];cases q:gT s l with
 |nil=>exact absurd q (Ym.LS s l)
 |cons w t=>rfl
def aep(hs:s<256)(l:List Nat):Txt.split (st l) (st [s])=(gT s l).map st:=by refine TL.Kt ?_;rw[TL.WN (st l) (st [s]) (by show [s]≠[];simp) (TL.WQ (by simp[hs])),fz];show TL.eR [s] 0 [] l=_;rw[aeo];have e:(TL.tl∘st)=id:=rfl;rw[e,List.map_id]
def NU(h:fY c.toNat=true)(b:Bytes):(Txt.split (st (ln b)) (st [c.toNat])).map V.str=dZ (Yh.split c b):=by rw[aep (UInt8.toNat_lt c),Ym.LU h,fz,fz];rfl
theorem NV:∀l:List (List Nat),TL.uq [] l=l.flatten
 |[]=>rfl
 |[p]=>by show p=[p].flatten;simp
 |p::q::r=>by show p++([]++TL.uq [] (q::r))=_;rw[NV (q::r),B0];rfl
def AY:Str.ofString ""=st []:=by decide +kernel
def NW(ys:List (List Nat)):Txt.join (st []) (ys.map st)=st ys.flatten:=by refine TL.Kr ?_;rw[TL.join_eq,TL.KD];show TL.uq [] _=ys.flatten;rw[NV,fz];have e:(TL.tl∘st)=id:=rfl;rw[e,List.map_id]
def signs:List Nat:=[10,32,46,48,49,50,51,52,53,54,55,56,57,65,66,67,68,69,70,71,72,73,74,75,76,77,78,79,80,81,82,83,84,85,86,87,88,89,90,97,98,99,100,101,102,103,104,105,106,107,108,109,110,111,112,113,114,115,116,117,118,119,120,121,122]
def aeq:Str.ofString "\n .0123456789ABCDEFGHIJKLMNOPQRSTUVWXYZabcdefghijklmnopqrstuvwxyz"=st signs:=by decide +kernel
def aer:Str.ofString "?"=st [63]:=by decide +kernel
def aes:Str.ofString "\n"=st [10]:=by decide +kernel
def aet:∀n:Nat,n<256->decide (n∈signs)=fY n:=by decide +kernel
def gL(z:Int):UInt8:=UInt8.ofNat z.toNat
theorem aeu(h0:0<=z)(h1:z<=255):(gL z).toNat=z.toNat:=by unfold gL;rw[UInt8.toNat_ofNat'];exact Nat.mod_eq_of_lt (by lia)
inductive NY(K:aa)(vs:List V)(H:Hp)(Q:VK):Prop
 |mk:∀(a:Addr) (ns:List Int),vs=[.ref a]->aB K H a (ns.map V.int)->ns.length<=1024->(∀z∈ns,0<=z/\z<=255)->(∀H' p,ax H H'->H' p=some (.lst (dZ (Yh.split 10 (ns.map gL))))->H p=none->Q (.ref p) H')->NY K vs H Q
def aev(K:aa):Sp:=λvs H Q _=>NY K vs H Q
def xR(kvs:List (Key×V))(i:Nat):Prop:=kvs.length<=i/\∀z:Int,cI kvs (Sum.inl z)=if∃c∈signs.take i,z=(c:Int)then some (V.str (st [z.toNat]))else none
def aew(h:xR kvs i)(hc:signs[i]?=some c):xR (putK kvs (Sum.inl (c:Int)) (V.str (st [c]))) (i+1):=by
 obtain⟨h1,h2⟩:=h;refine⟨cF (nG _ _ _) (by simp[*]),λz=>?_⟩;rw[rj,h2 z,dS hc];by_cases e:z=(c:Int)
 ·subst e;simp[*]
 simp[*]
theorem aex(h:xR kvs signs.length)(h0:0<=z)(h1:z<=255):(cI kvs (Sum.inl z)).getD (V.str (st [63]))=V.str (st [tr (gL z)]):=by
 obtain⟨_,h2⟩:=h;rw[h2 z,zb];unfold tr;rw[aeu h0 h1,<-aet z.toNat (by lia)];by_cases e:z.toNat∈signs
 ·rw[aD ⟨z.toNat,e,by lia⟩,aD (cq e)];rfl
 rw[az,az]
 ·rfl
 ·lia
 rintro⟨c,hc,q⟩;simp_all
def aey(T:Txt w K mg A0):b9 P w K mg base "lines_of" 1 ["text"] (aev K):=by
 refine cg ["text","table","sign","byte"] T.acT ?_;rintro nD f aU A outer s H vs Q E hr ⟨a,ns,rfl,hs,hlen,hb,k⟩;refine⟨_,(aF (bw 1 nD zV) (aF (fX fW rfl (Kj (abP T.acp rfl)) (ck 2 nD) (aH (rn (gy hr) (pv 1) (cR Ur rfl T.acB abL (aq (pv 2) aC)) (pv 2) rfl))) (aH (aS (KI (WU iM (j_ (own:=[("byte",3)]) rfl nD (g9 (pv 0)) (i7 (by rfl)) (λ_ _ _ _ _=>(ck 3 nD)) (λ_ _ _ _ _=>j9) (λ_ _ _ _ _=>(Kc (gy hr) (pv 1) (pv 3) iM ⟨rfl,rfl,rfl,rfl⟩)))) iM))))),?_⟩;try dsimp only[bc,Cx.bf]
 refine iS ?_;intro _ _;intro t ht;refine⟨_,rfl,?_⟩;rw[aeq];let Z1:Nat->L2.St->Hp->Prop:=λi σ H'=>∃v:Option V,fN (σ=[some (.ref a),some (.ref t),v,none]) (ax H H') (∃kvs,H' t=some (.dK kvs)/\xR kvs i);refine abV Z1 ⟨none,rfl,ax.new ht,[],aA,aW _,λz=>by simp[cI]⟩ ?_ ?_
 ·rintro i c σ H' hc ⟨v,rfl,sm,kvs,hk,tk⟩
  have hc:signs[i]?=some c:=hc;refine⟨_,rfl,_,rfl,_,rfl,_,rfl,rfl,t,_,rfl,jA.k (k:=Sum.inl (c:Int)) hk (tO tk.1 ?_),?_⟩
  ·have:i<signs.length:=(dq.mp hc).1;have:signs.length=65:=rfl;rw[bP];lia
  refine⟨_,rfl,λb o e=>?_,_,aA,aew tk hc⟩;rw[ay (bz e ht)];exact sm b o e
 rintro σ H1 ⟨v,rfl,sm,kvs,hk,tk⟩;have tk:xR kvs signs.length:=tk;refine⟨⟨_,rfl⟩,_,rfl,a,rfl,⟨_,sm.seq hs⟩,λD hD=>?_⟩;let Z2:Nat->Hp->Prop:=λi H'=>ax H H'/\H' t=some (.dK kvs)/\t≠D/\H' D=some (.lst (((ns.take i).map λz=>st [tr (gL z)]).map V.str))
 refine nF (K:=K) (a:=a) (xs:=ns.map V.int) Z2
  ⟨sm.trans (ax.new hD),ax.new hD _ _ hk,bz hk hD,aA⟩ (λi H' _ hh=>hh.1.seq hs) ?_ ?_
 ·rintro i y H' hy ⟨AZ,dc,EZ,hd⟩
  obtain⟨z,hz,rfl⟩:∃z,ns[i]?=some z/\y=V.int z:=by
   rw[cb]at hy;cases q2:ns[i]? with
   |none=>simp_all
   |some b=>simp_all
  obtain⟨z0,z1⟩:=hb z (d_ hz);refine⟨rfl,_,rfl,t,rfl,.inl ⟨kvs,.inl dc⟩,_,rfl,_,fD.k (k:=Sum.inl z) dc,_,hd,?_,?_,?_,EZ,?_⟩
  ·rw[aT,aT,dQ,bP];lia
  ·intro b o e;rw[ay (λq=>by subst q;rw[sm.free hD]at e;cases e)];exact AZ b o e
  ·rw[ay EZ];exact dc
  rw[aA,dS hz,ft,ft];show some (HO.lst (_++[(cI kvs (Sum.inl z)).getD (V.str (Str.ofString "?"))]))=_;rw[aer,aex tk z0 z1];rfl
 rintro H' ⟨AZ,dc,EZ,hd⟩;have hd:H' D=some (.lst (((ns.take (ns.map V.int).length).map λz=>st [tr (gL z)]).map V.str)):=hd;rw[aT,zb]at hd;have hd2:H' D=some (.lst (((ns.map λz=>[tr (gL z)]).map st).map V.str)):=by simp_all
 refine⟨_,D,_,rfl,rfl,.inl (aB.of hd2),?_,⟨_,rfl⟩,_,_,rfl,rfl,by decide +kernel,?_,?_⟩
 ·rw[AY]
  have e:((ns.map λz=>[tr (gL z)]).map st).map (λx:Str=>x.length)=ns.map λ_=>1:=by rw[fz,fz];rfl
  rw[e];have e2:∀l:List Int,(l.map λ_=>1).sum=l.length:=by
   intro l;induction l with
   |nil=>rfl
   |cons x r ih=>rw[cA,List.sum_cons,ih,bG];lia
  rw[e2];show ns.length+_*0<=_;lia
 ·rw[AY,NW,pO]
  have e2:∀l:List Int,((l.map λz=>[tr (gL z)]).flatten).length=l.length:=by
   intro l;induction l with
   |nil=>rfl
   |cons x r ih=>simp[*]
  rw[e2,bP];lia
 intro p hp;rw[AY,NW];have e3:∀l:List Int,(l.map λz=>[tr (gL z)]).flatten=ln (l.map gL):=by
  intro l;induction l with
  |nil=>rfl
  |cons x r ih=>rw[cA,List.flatten_cons,ih];rfl
 rw[e3,aes];have e4:(Txt.split (st (ln (ns.map gL))) (st [10])).map V.str=dZ (Yh.split 10 (ns.map gL)):=NU (c:=10) (by decide) _;rw[e4];exact k _ p (AZ.trans (ax.new hp)) aA (AZ.free hp)
open Yh (Spot Plan)
def bR(x:Spot):List Key:=[Sum.inl (x.1:Int),Sum.inl (x.2:Int)]
abbrev cV(x:Spot):List V:=[V.int (x.1:Int),V.int (x.2:Int)]
theorem pP:bR x=bR y↔x=y:=by
 constructor
 ·intro h;injection h with h1 h2;injection h2 with h2 _;injection h1 with h1;injection h2 with h2;exact tJ (by lia) (by lia)
 intro h;rw[h]
structure PA where
 p:Addr
 dx:Addr
 k:Addr
 n:Addr
 j:Addr
 b:Addr
 g:Addr
def PA.all(a:PA):List Addr:=[a.p,a.dx,a.k,a.n,a.j,a.b,a.g]
def nY(a:PA):List (Str×V):=[("kinds",.ref a.k),("numbers",.ref a.n),("joined",.ref a.j),("borders",.ref a.b),("signals",.ref a.g)]
structure bJ(A:aL)(H:Hp)(a:PA)(P:Plan):Prop where
 obj:H a.p=some (.ins A.plan a.dx (nY a))
 own:H a.dx=some (.own a.p)
 nd:a.all.Nodup
 kinds:H a.k=some (.lst (P.sects.map λs=>V.str (kn s.kind)))
 numbers:∃kvs,H a.n=some (.dK kvs)/\kvs.length<=P.sects.length/\∀b:Bytes,Yh.isName b=true->cI kvs (Sum.inr (st (ln b)))=(P.find b).map λ(i:Nat)=>V.int (i:Int)
 joined:∃kvs,H a.j=some (.dT kvs)/\kvs.length<=2*P.joins.length/\∀x:Spot,(P.partner x=none->cI kvs (bR x)=none)/\∀y,P.partner x=some y->∃t,cI kvs (bR x)=some (.ref t)/\H t=some (.tup (cV y))
 borders:∃kvs,H a.b=some (.dT kvs)/\kvs.length<=P.borders.length/\∀x:Spot,cI kvs (bR x)=if P.isBorder x=true then some (.bl true)else none
 signals:H a.g=some (.dT (P.signals.map λx=>(bR x,V.bl true)))
structure d9(P:Plan)(n:Nat):Prop where
 kinds:∀s∈P.sects,s.kind<3
 names:∀s∈P.sects,Yh.isName s.name=true
 dO:P.sects.length<=16
 xS:P.signals.length<=12
 xT:P.joins.length<=n
 xU:P.borders.length<=n
 sy:P.signals.Nodup
 xV:(P.joins.flatMap λj=>[j.1,j.2]).Nodup
 A1:P.borders.Nodup
 apart:∀x,P.isBorder x=true->P.partner x=none
 uT:∀j∈P.joins,P.isEnd j.1=true/\P.isEnd j.2=true
 sC:∀x∈P.signals,P.isEnd x=true/\(P.partner x).isSome=true/\P.isPlain x.1=true
def bJ.mono(R:bJ A H a P)(s:ax H H'):bJ A H' a P where
 obj:=s _ _ R.obj
 own:=s _ _ R.own
 nd:=R.nd
 kinds:=s _ _ R.kinds
 numbers:=let⟨kvs,h,r⟩:=R.numbers;⟨kvs,s _ _ h,r⟩
 joined:=let⟨kvs,h,l,r⟩:=R.joined;⟨kvs,s _ _ h,l,λx=>⟨(r x).1,λy e=>let⟨t,h1,h2⟩:=(r x).2 y e;⟨t,h1,s _ _ h2⟩⟩⟩
 borders:=let⟨kvs,h,r⟩:=R.borders;⟨kvs,s _ _ h,r⟩
 signals:=s _ _ R.signals
def mN(a:PA):(nY a).lookup ("kinds":Str)=some (V.ref a.k):=rfl
def E2(a:PA):(nY a).lookup ("numbers":Str)=some (V.ref a.n):=rfl
def uU(a:PA):(nY a).lookup ("joined":Str)=some (V.ref a.j):=rfl
def E3(a:PA):(nY a).lookup ("borders":Str)=some (V.ref a.b):=rfl
def xW(a:PA):(nY a).lookup ("signals":Str)=some (V.ref a.g):=rfl
def pQ(a:PA)(h:m∉(["kinds","numbers","joined","borders","signals"]:List Str)):(nY a).lookup m=none:=by simp only[be,fL,fM,not_or]at h;unfold nY;simp[*]
def NZ{P:Plan}{i:Nat}(h:i<P.sects.length):∃s,P.sects[i]?=some s/\P.kindAt i=s.kind:=by refine⟨P.sects[i],cp h,?_⟩;unfold Plan.kindAt;simp[*]
def E4{P:Plan}{i:Nat}(h:i<P.sects.length):(P.sects.map λs=>V.str (kn s.kind))[i]?=some (V.str (kn (P.kindAt i))):=by obtain⟨s,h1,h2⟩:=NZ h;rw[cb,h1,h2];rfl
def E5{P:Plan}{n i:Nat}(W:d9 P n)(h:i<P.sects.length):P.kindAt i<3:=by obtain⟨s,h1,h2⟩:=NZ h;rw[h2];exact W.kinds s (d_ h1)
def aez(h:k<3):decide (V.str (kn k)=V.str "plain")=(k==0):=by
 match k,h with
 |0,_=>decide +kernel
 |1,_=>decide +kernel
 |2,_=>decide +kernel
def int_at{xs:List V}{i:Nat}{v:V}(h:xs[i]?=some v):iu xs (i:Int)=some v:=bE h
inductive N0(A0:aL)(vs:List V)(H:Hp)(Q:VK):Prop
 |mk:∀(a:PA) (R:Plan) (n i d:Nat),vs=[.ref a.p,.int i,.int d]->bJ A0 H a R->d9 R n->Q (.bl (R.isEnd (i,d))) H->N0 A0 vs H Q
def aeA(A0:aL):Sp:=λvs H Q _=>N0 A0 vs H Q
def N1(T:Txt w K mg A0):cK P w K mg base A0.plan "has_end" 1 ["self","section","digit"] (aeA A0):=by
 refine dY ["self","section","digit"] T.acU T.c_ ?_;rintro nD f aU A outer s H vs Q E hr ⟨a,R,n,i,d,rfl,hP,W,k⟩;refine⟨_,(aH (aS (jW (hG zA (pv 1) (cR eU rfl T.eJ eI (aq (aV (pv 0) rfl) aC)) (g_ _)) (iN (hG zA (pv 2) (cR eU rfl T.eJ eI (aq (Na (tV (v:=.ref A0.nX) rfl T.EG rfl) (bj cH (aV (pv 0) rfl) (pv 1)) (λ_ _=>rfl)) aC)) (g_ _)))))),?_⟩;try dsimp only[bc,Cx.bf]
 refine⟨_,rfl,_,rfl,a.p,_,_,_,_,rfl,hP.obj,T.c_,T.lN,mN a,_,_,rfl,.inl (aB.of hP.kinds),_,_,rfl,rfl,_,rfl,?_⟩;rw[aT];by_cases hi:i<R.sects.length
 ·rw[cq (show(i:Int)<(R.sects.length:Int) by simp[*])]
  obtain⟨tab,M,h1,h2⟩:=T.nX.ex;obtain⟨ta,bs,hl,ht,E6,_⟩:=h1 _ (E5 W hi);refine bA ⟨_,rfl,_,rfl,a.p,_,_,_,_,rfl,hP.obj,T.c_,T.lN,mN a,_,rfl,_,_,_,_,rfl,rfl,aB.of hP.kinds,int_at (E4 hi),_,tab,_,_,rfl,rfl,M,hl,_,_,rfl,.inr (ht.sq _),_,_,rfl,rfl,?_⟩;have e:R.isEnd (i,d)=decide ((d:Int)<((bs.map V.ref).length:Int)):=by unfold Plan.isEnd;simp[*]
  rw[e]at k;exact k
 rw[b7 (show¬(i:Int)<(R.sects.length:Int) by simp[*])];have e:R.isEnd (i,d)=false:=by unfold Plan.isEnd;simp[*]
 rw[e]at k;exact k
inductive N2(A0:aL)(vs:List V)(H:Hp)(Q:VK):Prop
 |mk:∀(a:PA) (R:Plan) (n i:Nat),vs=[.ref a.p,.int i]->bJ A0 H a R->d9 R n->i<R.sects.length->Q (.bl (R.isPlain i)) H->N2 A0 vs H Q
def aeB(A0:aL):Sp:=λvs H Q _=>N2 A0 vs H Q
def A2(T:Txt w K mg A0):cK P w K mg base A0.plan "is_plain" 1 ["self","section"] (aeB A0):=by
 refine dY ["self","section"] T.acV T.c_ ?_;rintro nD f aU A outer s H vs Q E hr ⟨a,R,n,i,rfl,hP,W,hi,k⟩;refine⟨_,(aH (aS (hG e_ (bj cH (aV (pv 0) rfl) (pv 1)) iM (g_ _)))),?_⟩;try dsimp only[bc,Cx.bf]
 refine⟨_,rfl,a.p,_,_,_,_,rfl,hP.obj,T.c_,T.lN,mN a,_,rfl,_,_,_,_,rfl,rfl,aB.of hP.kinds,int_at (E4 hi),rfl,?_⟩;rw[aez (E5 W hi)];have e:R.isPlain i=(R.kindAt i==0):=by unfold Plan.isPlain;simp[*]
 rw[e]at k;exact k
def pR{R:Plan}{x:Spot}:R.isEnd x=true↔x.1<R.sects.length/\x.2<Yh.endsOf (R.kindAt x.1):=by unfold Plan.isEnd;simp[*]
inductive N3(K:aa)(A0:aL)(vs:List V)(H:Hp)(Q:VK):Prop
 |mk:∀(a:PA) (R:Plan) (n:Nat) (e:Addr) (x:Spot),vs=[.ref a.p,.ref e]->bJ A0 H a R->d9 R n->aX K H e (cV x)->R.isEnd x=true->(∀b,si K b ((Yh.outsOf (R.kindAt x.1) x.2).map λ(n:Nat)=>V.int (n:Int))->Q (.ref b) H)->N3 K A0 vs H Q
def aeC(K:aa)(A0:aL):Sp:=λvs H Q _=>N3 K A0 vs H Q
def aeD(T:Txt w K mg A0):cK P w K mg base A0.plan "exits" 1 ["self","end"] (aeC K A0):=by
 refine dY ["self","end"] T.acW T.c_ ?_;rintro nD f aU A outer s H vs Q E hr ⟨a,R,n,e,x,rfl,hP,W,hx,hE,k⟩;obtain⟨hi,hd⟩:=pR.mp hE;refine⟨_,(aH (aS (bj eQ (Na (tV (v:=.ref A0.nX) rfl T.EG rfl) (bj cH (aV (pv 0) rfl) (bj eQ (pv 1) aP)) (λ_ _=>rfl)) (bj eQ (pv 1) aP)))),?_⟩;try dsimp only[bc,Cx.bf]
 obtain⟨tab,M,h1,h2⟩:=T.nX.ex;obtain⟨ta,bs,hl,ht,E6,lF⟩:=h1 _ (E5 W hi);have hb:=cp (by rw[E6];exact hd);have fE:(bs.map V.ref)[x.2]?=some (V.ref (bs[x.2]'(by rw[E6];exact hd))):=by rw[cb,hb];rfl
 refine⟨_,rfl,a.p,_,_,_,_,rfl,hP.obj,T.c_,T.lN,mN a,_,rfl,_,_,_,_,rfl,rfl,hx,bE rfl,_,_,_,_,rfl,rfl,aB.of hP.kinds,int_at (E4 hi),_,tab,_,_,rfl,rfl,M,hl,
  _,rfl,_,_,_,_,rfl,rfl,hx,bE rfl,_,_,_,_,rfl,rfl,ht.sq _,int_at fE,?_⟩
 exact k _ (lF _ _ hb)
def aeE(W:d9 R n)(x:Spot):R.stops x=(R.isPlain x.1&&((R.signalAt x).isSome||(R.partner x).isNone)):=by
 unfold Plan.stops;cases hb:R.isBorder x with
 |false=>rfl
 |true=>rw[W.apart x hb];simp[*]
def E7{R:Plan}(x:Spot):(cI (R.signals.map λy=>(bR y,V.bl true)) (bR x)).isSome=(R.signalAt x).isSome:=by
 unfold Plan.signalAt;induction R.signals with
 |nil=>rfl
 |cons y r ih=>
  by_cases e:y=x
  ·rw[cA,ka (by rw[e])];simp[*]
  rw[cA,ke (λq=>e (pP.mp q)),ih,List.findIdx?_cons,az (by simp[*])];simp[*]
def bJ.sig(hP:bJ A0 H a R)(h:H e=some (.tup (cV x))):fD H a.g (.ref e) (cI (R.signals.map λy=>(bR y,V.bl true)) (bR x)):=fD.t hP.signals h
def bJ.join(hP:bJ A0 H a R)(h:H e=some (.tup (cV x))):∃o,gR (fD H a.j (.ref e) o) (o.isSome=(R.partner x).isSome) (R.partner x=none->o=none) (∀y,R.partner x=some y->∃t,o=some (.ref t)/\H t=some (.tup (cV y))):=by
 obtain⟨kvs,hj,_,r⟩:=hP.joined;refine⟨_,fD.t (k:=bR x) hj h,?_,(r x).1,(r x).2⟩;cases q:R.partner x with
 |none=>simp[*]
 |some y=>obtain⟨t,h1,_⟩:=(r x).2 y q;rw[h1];rfl
def bJ.aeF(hP:bJ A0 H a R)(h:H e=some (.tup (cV x))):∃o,fD H a.b (.ref e) o/\o.isSome=R.isBorder x:=by obtain⟨kvs,hj,_,r⟩:=hP.borders;refine⟨_,fD.t (k:=bR x) hj h,?_⟩;show(cI kvs (bR x)).isSome=_;rw[r x];cases R.isBorder x<;>rfl
inductive N4(A0:aL)(vs:List V)(H:Hp)(Q:VK):Prop
 |mk:∀(a:PA) (R:Plan) (n:Nat) (e:Addr) (x:Spot),vs=[.ref a.p,.ref e]->bJ A0 H a R->d9 R n->H e=some (.tup (cV x))->x.1<R.sects.length->Q (.bl (R.stops x)) H->N4 A0 vs H Q
def aeG(A0:aL):Sp:=λvs H Q _=>N4 A0 vs H Q
def aeH(T:Txt w K mg A0):
  cK P w K mg base A0.plan "may_stop" 2 ["self","end"] (aeG A0):=by
 refine dY ["self","end"] T.acX T.c_ ?_;rintro nD f aU A outer s H vs Q E hr ⟨a,R,n,e,x,rfl,hP,W,hx,hi,k⟩;refine⟨_,(aH (aS (jW (dg (A2 T) hr (pv 0) (aq (bj eQ (pv 1) aP) aC)) (iN (vX (vW (wC (gy hr) (pv 1) (aV (pv 0) rfl)) (by with_unfolding_all rfl)) (iN (vW (Dd (gy hr) (pv 1) (aV (pv 0) rfl)) (by with_unfolding_all rfl)))))))),?_⟩;try dsimp only[bc,Cx.bf]
 rw[aeE W]at k;refine⟨_,rfl,a.p,_,_,rfl,hP.obj,pQ a (by decide +kernel),_,rfl,_,_,_,_,rfl,rfl,aX.of hx,bE rfl,a,R,n,x.1,rfl,hP,W,hi,_,rfl,?_⟩;refine eC (λhp=>?_) (λhp=>?_)
 ·rw[hp,m_]at k
  refine⟨_,rfl,_,rfl,a.p,_,_,_,_,rfl,hP.obj,T.c_,T.uO,xW a,a.g,_,rfl,hP.sig hx,_,rfl,?_⟩;rw[E7];refine eC (λhs=>?_) (λhs=>?_)
  ·simp_all
  rw[gQ.mpr hs,BW]at k;obtain⟨o,g1,g2,_⟩:=hP.join hx;refine⟨_,rfl,_,rfl,a.p,_,_,_,_,rfl,hP.obj,T.c_,T.sk,uU a,a.j,_,rfl,g1,?_⟩;simp[*]
 simp_all
def aG(S:List Addr)(H H':Hp):Prop:=∀b o,H b=some o->b∉S->H' b=some o
def aG.of(h:ax H H'):aG S H H':=λb o e _=>h b o e
def aG.trans(a:aG S H H1)(b:aG S H1 H2):aG S H H2:=λc o e n=>b c o (a c o e n) n
theorem aG.upd(h:p∈S):aG S H (upd H p o):=λb u e n=>by rw[ay (λq=>n (by rw[q];exact h))];exact e
theorem aG.new(h:H p=none):aG S H (L2.upd H p o):=aG.of (ax.new h)
abbrev nZ:Plan:=⟨[],[],[],[]⟩
def N5:d9 nZ 0:=by
 refine⟨?_,?_,by decide,by decide,by decide,by decide,qx,qx,qx,?_,?_,?_⟩
 ·simp[*]
 ·simp[*]
 ·intro x h;cases h
 ·intro x h;simp_all
 intro x h;simp_all
inductive N6(A0:aL)(vs:List V)(H:Hp)(Q:VK):Prop
 |mk:∀(p dx:Addr),vs=[.ref p]->H p=some (.ins A0.plan dx [])->H dx=some (.own p)->(∀(H':Hp) (a:PA),a.p=p->a.dx=dx->bJ A0 H' a nZ->(∀c∈[a.k,a.n,a.j,a.b,a.g],H c=none)->aG [p] H H'->Q .aQ H')->N6 A0 vs H Q
def N7(A0:aL):Sp:=λvs H Q _=>N6 A0 vs H Q
def aeI(T:Txt w K mg A0):cK P w K mg base A0.plan "__init__" 1 ["self"] (N7 A0):=by
 refine dY ["self"] T.acY T.c_ ?_;rintro nD f aU A outer s H vs Q E hr ⟨p,dx,rfl,hp,N8,k⟩;refine⟨_,(aF (dH (pv 0) (cf aC) rfl) (aF (dH (pv 0) zV rfl) (aF (dH (pv 0) De rfl) (aF (dH (pv 0) De rfl) (aH (dH (pv 0) De rfl)))))),?_⟩;try dsimp only[bc,Cx.bf]
 refine pM ?_;intro _ _ _ _;have uV:dx≠p:=e9 N8 hp (by simp[*]);refine⟨by simp[*],λak hk=>⟨_,rfl,p,_,dx,_,rfl,(ax.new hk) _ _ hp,T.c_,T.lN,by simp[*],?_⟩⟩;have n1:ak≠p:=λq=>by lia
 have d1:ak≠dx:=λq=>by lia
 intro an hn;rw[ay (λq=>by rw[q,aA]at hn;cases hn)]at hn;have n2:an≠p:=λq=>by rw[q,ay (aO n1),hp]at hn;cases hn
 have E8:an≠ak:=λq=>by rw[q,aA]at hn;cases hn
 rw[ay E8]at hn;have d2:an≠dx:=λq=>by lia
 refine⟨_,rfl,p,_,dx,_,rfl,by rw[ay (aO n2),aA],T.c_,T.AN,by show 1<1000;decide,?_⟩;intro aj hj;have n3:aj≠p:=λq=>by rw[q,aA]at hj;cases hj
 rw[ay n3]at hj;have E9:aj≠an:=λq=>by rw[q,aA]at hj;cases hj
 rw[ay E9,ay n3]at hj;have E_:aj≠ak:=λq=>by rw[q,aA]at hj;cases hj
 rw[ay E_]at hj;have d3:aj≠dx:=λq=>by lia
 refine⟨_,rfl,p,_,dx,_,rfl,by rw[ay (aO n3),aA],T.c_,T.sk,by show 2<1000;decide,?_⟩;intro ab hb;have n4:ab≠p:=λq=>by rw[q,aA]at hb;cases hb
 rw[ay n4]at hb;have Fb:ab≠aj:=λq=>by rw[q,aA]at hb;cases hb
 rw[ay Fb,ay n4]at hb;have Fc:ab≠an:=λq=>by rw[q,aA]at hb;cases hb
 rw[ay Fc,ay n4]at hb;have Fd:ab≠ak:=λq=>by rw[q,aA]at hb;cases hb
 rw[ay Fd]at hb;have d4:ab≠dx:=λq=>by lia
 refine⟨_,rfl,p,_,dx,_,rfl,by rw[ay (aO n4),aA],T.c_,T.AO,by show 3<1000;decide,?_⟩;intro ag hg;have n5:ag≠p:=λq=>by rw[q,aA]at hg;cases hg
 rw[ay n5]at hg;have Fe:ag≠ab:=λq=>by rw[q,aA]at hg;cases hg
 rw[ay Fe,ay n5]at hg;have Ff:ag≠aj:=λq=>by rw[q,aA]at hg;cases hg
 rw[ay Ff,ay n5]at hg;have Fg:ag≠an:=λq=>by rw[q,aA]at hg;cases hg
 rw[ay Fg,ay n5]at hg;have Fh:ag≠ak:=λq=>by rw[q,aA]at hg;cases hg
 rw[ay Fh]at hg;have d5:ag≠dx:=λq=>by lia
 refine⟨_,rfl,p,_,dx,_,rfl,by rw[ay (aO n5),aA],T.c_,T.uO,by show 4<1000;decide,?_⟩;refine k _ ⟨p,dx,ak,an,aj,ab,ag⟩ rfl rfl ⟨aA,?_,?_,?_,?_,?_,?_,?_⟩ ?_ ?_
 ·show _=some (HO.own p);rw[ay uV,ay (aO d5),ay uV,ay (aO d4),ay uV,ay (aO d3),ay uV,ay (aO d2),ay uV,ay (aO d1)];exact N8
 ·unfold PA.all;simp only[qp,be,fL,fM,not_or,qx,not_false_eq_true,and_true];exact⟨⟨aO uV,aO n1,aO n2,aO n3,aO n4,aO n5⟩,⟨aO d1,aO d2,aO d3,aO d4,aO d5⟩,⟨aO E8,aO E_,aO Fd,aO Fh⟩,⟨aO E9,aO Fc,aO Fg⟩,⟨aO Fb,aO Ff⟩,aO Fe⟩
 ·show _=some (HO.lst []);rw[ay n1,ay (aO Fh),ay n1,ay (aO Fd),ay n1,ay (aO E_),ay n1,ay (aO E8),ay n1,aA]
 ·refine⟨[],?_,aW _,λb _=>rfl⟩;rw[ay n2,ay (aO Fg),ay n2,ay (aO Fc),ay n2,ay (aO E9),ay n2,aA]
 ·refine⟨[],?_,bL _,λx=>⟨λ_=>rfl,λy h=>by cases h⟩⟩;rw[ay n3,ay (aO Ff),ay n3,ay (aO Fb),ay n3,aA]
 ·refine⟨[],?_,bL _,λx=>rfl⟩;rw[ay n4,ay (aO Fe),ay n4,aA]
 ·show _=some (HO.dT []);rw[ay n5,aA]
 ·simp[*]
 intro b o e nb;have nb:b≠p:=λq=>nb (by simp[*]);rw[ay nb,ay (bz e hg),ay nb,ay (bz e hb),ay nb,ay (bz e hj),ay nb,ay (bz e hn),ay nb,ay (bz e hk)];exact e
def bJ.pS(hP:bJ A H a R):a.dx≠a.p/\a.k≠a.p/\a.n≠a.p/\a.j≠a.p/\a.b≠a.p/\a.g≠a.p/\a.k≠a.dx/\a.n≠a.dx/\a.j≠a.dx/\a.b≠a.dx/\a.g≠a.dx/\
  a.n≠a.k/\a.j≠a.k/\a.b≠a.k/\a.g≠a.k/\a.j≠a.n/\a.b≠a.n/\a.g≠a.n/\a.b≠a.j/\a.g≠a.j/\a.g≠a.b:=by
 have h:=hP.nd;unfold PA.all at h;simp only[qp,be,fL,fM,not_or,qx,not_false_eq_true,and_true]at h;obtain⟨⟨h1,h2,h3,h4,h5,h6⟩,⟨h7,h8,h9,h10,h11⟩,⟨A3,h13,h14,Dg⟩,⟨A4,h17,h18⟩,⟨h19,h20⟩,h21⟩:=h;exact⟨aO h1,aO h2,aO h3,aO h4,aO h5,aO h6,aO h7,aO h8,aO h9,aO h10,aO h11,aO A3,aO h13,aO h14,aO Dg,aO A4,aO h17,aO h18,aO h19,aO h20,aO h21⟩
def bJ.aeS(hP:bJ A H a R)(hl:kvs.length<=2*js.length)
  (h:∀x:Spot,(Plan.partner {R with joins:=js} x=none->cI kvs (bR x)=none)/\∀y,Plan.partner {R with joins:=js} x=some y->∃t,cI kvs (bR x)=some (.ref t)/\H t=some (.tup (cV y))):
  bJ A (upd H a.j (.dT kvs)) a {R with joins:=js}:=by
 obtain⟨n1,n2,n3,n4,n5,n6,n7,n8,n9,A5,A6,A7,xX,xY,xZ,x8,x9,x_,yb,yc,yd⟩:=hP.pS;obtain⟨kv0,hj,_⟩:=hP.joined;refine⟨by rw[ay (aO n4)];exact hP.obj,by rw[ay (aO n9)];exact hP.own,hP.nd,by rw[ay (aO xX)];exact hP.kinds,?_,⟨kvs,aA,hl,λx=>⟨(h x).1,λy e=>?_⟩⟩,?_,by rw[ay yc];exact hP.signals⟩
 ·obtain⟨k,h1,h2⟩:=hP.numbers;exact⟨k,by rw[ay (aO x8)];exact h1,h2⟩
 ·obtain⟨t,h1,h2⟩:=(h x).2 y e;exact⟨t,h1,by rw[ay (e9 h2 hj (by simp[*]))];exact h2⟩
 obtain⟨k,h1,h2⟩:=hP.borders;exact⟨k,by rw[ay yb];exact h1,h2⟩
def bJ.N9(hP:bJ A H a R)(hb:∀xs,H b≠some (.tup xs)):∃kvs,fN (H a.j=some (.dT kvs)) (kvs.length<=2*R.joins.length) (∀x:Spot,(R.partner x=none->cI kvs (bR x)=none)/\∀y,R.partner x=some y->∃t,cI kvs (bR x)=some (.ref t)/\upd H b o t=some (.tup (cV y))):=by obtain⟨kvs,h1,h2,h3⟩:=hP.joined;refine⟨kvs,h1,h2,λx=>⟨(h3 x).1,λy e=>?_⟩⟩;obtain⟨t,h4,h5⟩:=(h3 x).2 y e;exact⟨t,h4,by rw[ay (λq=>hb _ (by rw[<-q];exact h5))];exact h5⟩
def bJ.aeU(hP:bJ A H a R)(hl:kvs.length<=bs.length)(h:∀x:Spot,cI kvs (bR x)=if Plan.isBorder {R with borders:=bs} x=true then some (.bl true)else none):
  bJ A (upd H a.b (.dT kvs)) a {R with borders:=bs}:=by
 obtain⟨n1,n2,n3,n4,n5,n6,n7,n8,n9,A5,A6,A7,xX,xY,xZ,x8,x9,x_,yb,yc,yd⟩:=hP.pS;obtain⟨kv0,hb,_⟩:=hP.borders;obtain⟨kj,hj,j1,j2⟩:=hP.N9 (b:=a.b) (o:=.dT kvs) (λxs e=>by simp_all);refine⟨by rw[ay (aO n5)];exact hP.obj,by rw[ay (aO A5)];exact hP.own,hP.nd,by rw[ay (aO xY)];exact hP.kinds,?_,⟨kj,by rw[ay (aO yb)];exact hj,j1,j2⟩,⟨kvs,aA,hl,h⟩,by rw[ay yd];exact hP.signals⟩;obtain⟨k,h1,h2⟩:=hP.numbers;exact⟨k,by rw[ay (aO x9)];exact h1,h2⟩
def bJ.aeV(hP:bJ A H a R)(gs:List Spot):bJ A (upd H a.g (.dT (gs.map λx=>(bR x,V.bl true)))) a {R with signals:=gs}:=by
 obtain⟨n1,n2,n3,n4,n5,n6,n7,n8,n9,A5,A6,A7,xX,xY,xZ,x8,x9,x_,yb,yc,yd⟩:=hP.pS;obtain⟨kj,hj,j1,j2⟩:=hP.N9 (b:=a.g) (o:=.dT (gs.map λx=>(bR x,V.bl true))) (λxs e=>by rw[hP.signals]at e;cases e);refine⟨by rw[ay (aO n6)];exact hP.obj,by rw[ay (aO A6)];exact hP.own,hP.nd,by rw[ay (aO xZ)];exact hP.kinds,?_,⟨kj,by rw[ay (aO yc)];exact hj,j1,j2⟩,?_,aA⟩
 ·obtain⟨k,h1,h2⟩:=hP.numbers;exact⟨k,by rw[ay (aO x_)];exact h1,h2⟩
 obtain⟨k,h1,h2⟩:=hP.borders;exact⟨k,by rw[ay (aO yd)];exact h1,h2⟩
def Fi(R:Plan)(x y z:Spot):Plan.partner {R with joins:=R.joins++[(x,y)]} z=(R.partner z).or (if x=z then some y else if y=z then some x else none):=by unfold Plan.partner;simp[*]
def uW{R:Plan}{x:Spot}(h:R.taken x=false):R.partner x=none/\R.isBorder x=false:=by obtain⟨h1,h2⟩:=Bool.or_eq_false_iff.mp h;simp_all
inductive N_(A0:aL)(vs:List V)(H:Hp)(Q:VK):Prop
 |mk:∀(a:PA) (R:Plan) (e:Addr) (x:Spot),vs=[.ref a.p,.ref e]->bJ A0 H a R->H e=some (.tup (cV x))->Q (.bl (R.taken x)) H->N_ A0 vs H Q
def aeW(A0:aL):Sp:=λvs H Q _=>N_ A0 vs H Q
def Fj(T:Txt w K mg A0):b9 P w K mg base "is_taken" 1 ["plan","end"] (aeW A0):=by
 refine cg ["plan","end"] T.acZ ?_;rintro nD f aU A outer s H vs Q E hr ⟨a,R,e,x,rfl,hP,hx,k⟩;refine⟨_,(aH (aS (vX (vW (wC (gy hr) (pv 1) (aV (pv 0) rfl)) (by with_unfolding_all rfl)) (iN (vW (wC (gy hr) (pv 1) (aV (pv 0) rfl)) (by with_unfolding_all rfl)))))),?_⟩;try dsimp only[bc,Cx.bf]
 obtain⟨o,g1,g2,_⟩:=hP.join hx;obtain⟨ob,b1,b2⟩:=hP.aeF hx;unfold Plan.taken at k;refine⟨_,rfl,_,rfl,a.p,_,_,_,_,rfl,hP.obj,T.c_,T.sk,uU a,a.j,_,rfl,g1,_,rfl,?_⟩;rw[g2];refine eC (λhs=>?_) (λhs=>?_)
 ·simp_all
 rw[gQ.mpr hs,BW]at k;refine⟨_,rfl,_,rfl,a.p,_,_,_,_,rfl,hP.obj,T.c_,T.AO,E3 a,a.b,_,rfl,b1,?_⟩;simp[*]
theorem Oa(x y:Spot):PyData.eqv (.tuple [.int x.1,.int x.2]) (.tuple [.int y.1,.int y.2])=decide (x=y):=by simp only[PyData.eqv,PyData.eqvAll,Bool.and_true];grind
def A8(h:H e=some (.tup (cV x))):Dp K H (.ref e) (.tuple [.int x.1,.int x.2]):=.tup (aX.of h) (.cons (.int _) (.cons (.int _) .nil))
def Ob(x:Spot):SeqAt.shaped (.tuple [.int x.1,.int x.2])=true:=rfl
inductive Oc(A0:aL)(vs:List V)(H:Hp)(Q:VK):Prop
 |mk:∀(a:PA) (R:Plan) (n:Nat) (e1 e2:Addr) (x y:Spot),vs=[.ref a.p,.ref e1,.ref e2]->bJ A0 H a R->d9 R n->n<=1100->H e1=some (.tup (cV x))->H e2=some (.tup (cV y))->(R.taken x=true\/R.taken y=true\/x=y->Q (.int 4) H)->(¬(R.taken x=true\/R.taken y=true\/x=y)->∀H',bJ A0 H' a {R with joins:=R.joins++[(x,y)]}->aG [a.j] H H'->Q (.int 0) H')->Oc A0 vs H Q
def aeX(A0:aL):Sp:=λvs H Q _=>Oc A0 vs H Q
def aeY(T:Txt w K mg A0):
  b9 P w K mg base "take_join" 2 ["plan","first","second"] (aeX A0):=by
 refine cg ["plan","first","second"] T.ac0 ?_;rintro nD f aU A outer s H vs Q E hr ⟨a,R,n,e1,e2,x,y,rfl,hP,W,hn,hx,hy,kb,kg⟩;refine⟨_,(aF (bD (PW.pt (pw_or (bT (VJ hr.units) (pv 1) (pv 2)) (pw_or (gv (bB (Fj T) hr (aq (pv 0) (aq (pv 1) aC)))) (pw_or1 (gv (bB (Fj T) hr (aq (pv 0) (aq (pv 2) aC)))))))) (aH (aS (cM T.EH rfl))) bH) (aF (rn (gy hr) (aV (pv 0) rfl) (pv 1) (pv 2) rfl) (aF (rn (gy hr) (aV (pv 0) rfl) (pv 2) (pv 1) rfl) (aH (aS (cM T.xC rfl)))))),?_⟩;try dsimp only[bc,Cx.bf]
 refine jL ?_;intro _ _ _;refine⟨_,rfl,_,rfl,_,_,A8 hx,A8 hy,Ob x,Ob y,_,rfl,?_⟩;rw[Oa];refine eC (λh1=>kb (.inr (.inr (Cb h1)))) (λh1=>⟨_,rfl,_,rfl,a,R,e1,x,rfl,hP,hx,_,rfl,?_⟩);refine eC (λh2=>kb (.inl h2)) (λh2=>⟨_,rfl,_,rfl,a,R,e2,y,rfl,hP,hy,_,rfl,?_⟩);refine eC (λh3=>kb (.inr (.inl h3))) (λh3=>?_);have bO:=λq=>h1 (cq q);obtain⟨px,bx⟩:=uW (gQ.mpr h2);obtain⟨py,by'⟩:=uW (gQ.mpr h3);obtain⟨kvs,hj,hl,hv⟩:=hP.joined;have hlen:kvs.length+2<=sizeLine:=by have:=W.xT;rw[bP];lia
 have nj1:=e9 hx hj (by simp[*]);have nj2:=e9 hy hj (by simp[*]);have npj:=hP.pS.2.2.2.1;have l1:=nG kvs (bR x) (V.ref e2);have l2:=nG (putK kvs (bR x) (V.ref e2)) (bR y) (V.ref e1);refine⟨_,rfl,_,rfl,a.p,_,_,_,_,rfl,hP.obj,T.c_,T.sk,uU a,_,rfl,a.j,_,rfl,jA.t (k:=bR x) hj hx (by exact gN ‹_›),?_⟩;refine⟨_,rfl,_,rfl,a.p,_,_,_,_,rfl,by rw[ay (aO npj)];exact hP.obj,T.c_,T.sk,uU a,_,rfl,a.j,_,rfl,jA.t (k:=bR y) aA (by rw[ay nj2];exact hy) (by exact tO ‹_› ‹_›),?_⟩;rw[e8];refine kg (λq=>q.elim h2 λq=>q.elim h3 bO) _ (hP.aeS ?_ ?_) (aG.upd (by simp))
 ·rw[cX,bG,dR];lia
 intro z;rw[Fi,rj,rj];by_cases Fk:z=x
 ·subst Fk;rw[az (λq=>bO (pP.mp q)),aD rfl,px,Option.none_or,aD rfl];exact⟨(λq=>nomatch q),λy' q=>bC q▸⟨e2,rfl,hy⟩⟩
 by_cases Od:z=y
 ·simp_all
 rw[az (λq=>Od (pP.mp q)),az (λq=>Fk (pP.mp q)),az (λq=>Fk q.symm),az (λq=>Od q.symm),Option.or_none];exact hv z
inductive Oe(A0:aL)(vs:List V)(H:Hp)(Q:VK):Prop
 |mk:∀(a:PA) (R:Plan) (n:Nat) (e:Addr) (x:Spot),vs=[.ref a.p,.ref e]->bJ A0 H a R->d9 R n->n<=1100->H e=some (.tup (cV x))->x.1<R.sects.length->(R.taken x=true->Q (.int 4) H)->(R.taken x=false->R.isPlain x.1=false->Q (.int 6) H)->(R.taken x=false->R.isPlain x.1=true->∀H',bJ A0 H' a {R with borders:=R.borders++[x]}->aG [a.b] H H'->Q (.int 0) H')->Oe A0 vs H Q
def ae2(A0:aL):Sp:=λvs H Q _=>Oe A0 vs H Q
def ae3(T:Txt w K mg A0):
  b9 P w K mg base "take_border" 2 ["plan","end"] (ae2 A0):=by
 refine cg ["plan","end"] T.ac1 ?_;rintro nD f aU A outer s H vs Q E hr ⟨a,R,n,e,x,rfl,hP,W,hn,hx,hi,k4,k6,kg⟩;refine⟨_,(aF (bD (gv (bB (Fj T) hr (aq (pv 0) (aq (pv 1) aC)))) (aH (aS (cM T.EH rfl))) bH) (aF (bD (ni (gv (dg (A2 T) hr (pv 0) (aq (bj eQ (pv 1) aP) aC)))) (aH (aS (cM T.Nj rfl))) bH) (aF (rn (gy hr) (aV (pv 0) rfl) (pv 1) oS rfl) (aH (aS (cM T.xC rfl)))))),?_⟩;try dsimp only[bc,Cx.bf]
 refine jL ?_;intro _ _ _;refine⟨_,rfl,_,rfl,a,R,e,x,rfl,hP,hx,_,rfl,?_⟩;refine eC (λh1=>k4 h1) (λh1=>?_);have iO:=gQ.mpr h1;refine⟨_,rfl,a.p,_,_,rfl,hP.obj,pQ a (by decide +kernel),_,rfl,_,_,_,_,rfl,rfl,aX.of hx,bE rfl,a,R,n,x.1,rfl,hP,W,hi,_,rfl,?_⟩;cases hp:R.isPlain x.1 with
 |false=>exact k6 iO hp
 |true=>
  obtain⟨kvs,hb,hl,hv⟩:=hP.borders;have hlen:kvs.length<sizeLine:=by have:=W.xU;rw[bP];lia
  refine⟨_,rfl,a.p,_,_,_,_,rfl,hP.obj,T.c_,T.AO,E3 a,_,rfl,a.b,_,rfl,jA.t (k:=bR x) hb hx hlen,?_⟩;obtain⟨px,bx⟩:=uW iO;refine kg iO hp _ (hP.aeU ?_ ?_) (aG.upd (by simp))
  ·have:=nG kvs (bR x) (V.bl true);rw[cX,bG,dR];lia
  intro z;rw[rj,hv z];unfold Plan.isBorder;simp only[Hw,gO,dA];by_cases e1:z=x
  ·subst e1;simp
  rw[az (λq=>e1 (pP.mp q))];simp[e1]
inductive Of(A0:aL)(vs:List V)(H:Hp)(Q:VK):Prop
 |mk:∀(a:PA) (R:Plan) (n:Nat) (e:Addr) (x:Spot),vs=[.ref a.p,.ref e]->bJ A0 H a R->d9 R n->H e=some (.tup (cV x))->x.1<R.sects.length->((R.signalAt x).isSome=true->Q (.int 4) H)->((R.signalAt x).isSome=false->(R.partner x).isNone=true->Q (.int 5) H)->((R.signalAt x).isSome=false->(R.partner x).isNone=false->R.isPlain x.1=false->Q (.int 6) H)->((R.signalAt x).isSome=false->(R.partner x).isNone=false->R.isPlain x.1=true->12<=R.signals.length->Q (.int 7) H)->((R.signalAt x).isSome=false->(R.partner x).isNone=false->R.isPlain x.1=true->¬12<=R.signals.length->∀H',bJ A0 H' a {R with signals:=R.signals++[x]}->aG [a.g] H H'->Q (.int 0) H')->Of A0 vs H Q
def ae4(A0:aL):Sp:=λvs H Q _=>Of A0 vs H Q
def ae5(T:Txt w K mg A0):
  b9 P w K mg base "take_signal" 2 ["plan","end"] (ae4 A0):=by
 refine cg ["plan","end"] T.ac2 ?_;rintro nD f aU A outer s H vs Q E hr ⟨a,R,n,e,x,rfl,hP,W,hx,hi,k4,k5,k6,k7,kg⟩;refine⟨_,(aF (bD (tW (wC (gy hr) (pv 1) (aV (pv 0) rfl)) (by with_unfolding_all rfl)) (aH (aS (cM T.EH rfl))) bH) (aF (bD (tW (Dd (gy hr) (pv 1) (aV (pv 0) rfl)) (by with_unfolding_all rfl)) (aH (aS (cM T.acw rfl))) bH) (aF (bD (ni (gv (dg (A2 T) hr (pv 0) (aq (bj eQ (pv 1) aP) aC)))) (aH (aS (cM T.Nj rfl))) bH) (aF (bD (bT e_ (cR ab1 rfl T.eJ eI (aq (aV (pv 0) rfl) aC)) (cM T.acs rfl)) (aH (aS (cM T.Nk rfl))) bH) (aF (rn (gy hr) (aV (pv 0) rfl) (pv 1) oS rfl) (aH (aS (cM T.xC rfl)))))))),?_⟩;try dsimp only[bc,Cx.bf]
 refine Ez ?_;intro _ _ _ _ _;refine⟨_,rfl,_,rfl,a.p,_,_,_,_,rfl,hP.obj,T.c_,T.uO,xW a,a.g,_,rfl,hP.sig hx,_,rfl,?_⟩;rw[E7];refine eC (λh1=>k4 h1) (λh1=>?_);have iO:=gQ.mpr h1;obtain⟨o,g1,g2,_⟩:=hP.join hx;refine⟨_,rfl,_,rfl,a.p,_,_,_,_,rfl,hP.obj,T.c_,T.sk,uU a,a.j,_,rfl,g1,_,rfl,?_⟩;rw[g2];have e2:(!(R.partner x).isSome)=(R.partner x).isNone:=by simp[*]
 rw[e2];refine eC (λh2=>k5 iO h2) (λh2=>?_);have kh:=gQ.mpr h2;refine⟨_,rfl,a.p,_,_,rfl,hP.obj,pQ a (by decide +kernel),_,rfl,_,_,_,_,rfl,rfl,aX.of hx,bE rfl,a,R,n,x.1,rfl,hP,W,hi,_,rfl,?_⟩;cases hp:R.isPlain x.1 with
 |false=>exact k6 iO kh hp
 |true=>
  refine⟨_,rfl,a.p,_,_,_,_,rfl,hP.obj,T.c_,T.uO,xW a,_,_,rfl,hP.signals,rfl,_,rfl,?_⟩;rw[aT,tZ];by_cases A3:12<=R.signals.length
  ·have ee:((R.signals.length:Int)==12)=true:=by have:=W.xS;simp;lia
   rw[ee];exact k7 iO kh hp A3
  have ee:((R.signals.length:Int)==12)=false:=by simp;lia
  rw[ee];have lH:cI (R.signals.map λy=>(bR y,V.bl true)) (bR x)=none:=by have:=E7 (R:=R) x;simp_all
  refine⟨_,rfl,a.p,_,_,_,_,rfl,hP.obj,T.c_,T.uO,xW a,_,rfl,a.g,_,rfl,jA.t (k:=bR x) hP.signals hx (by rw[aT,bP];lia),?_⟩;rw[V8 _ lH];have:=hP.aeV (R.signals++[x]);rw[ft]at this;exact kg iO kh hp A3 _ this (aG.upd (by simp))
def Og(h:Yh.isName b=true):(b.map UInt8.toNat).all fY=true:=by
 have ok1:∀c:UInt8,(Yh.isBig c||Yh.isDigit c)=true->fY c.toNat=true:=by
  intro c hc;rw[vC]at hc;unfold fY;rcases hc with hc|hc
  ·rw[<-Ym.DV]at hc
   unfold f6 tr at hc;by_cases q:fY c.toNat=true
   ·exact q
   simp_all
  rw[<-Ym.DW]at hc;unfold gA tr at hc;by_cases q:fY c.toNat=true
  ·exact q
  simp_all
 cases b with
 |nil=>cases h
 |cons c r=>unfold Yh.isName at h;simp_all
def ae6(h:(b.map UInt8.toNat).all fY=true):ln b=b.map UInt8.toNat:=(Ym.pB h rfl).mpr rfl
def ae7(hn:Yh.isName n=true):st (ln b)=st (ln n)↔b=n:=by rw[su,ae6 (Og hn)];exact Ym.pB (Og hn) rfl
def ae8(R:Plan)(n b:Bytes)(k:Nat):Plan.find {R with sects:=R.sects++[⟨n,k⟩]} b=(R.find b).or (if n=b then some R.sects.length else none):=by unfold Plan.find;simp[*]
def bJ.ae9(hP:bJ A H a R)(hl:kvs.length<=sc.length)(h:∀b:Bytes,Yh.isName b=true->cI kvs (Sum.inr (st (ln b)))=(Plan.find {R with sects:=sc} b).map λ(i:Nat)=>V.int (i:Int)):
  bJ A (upd (upd H a.n (.dK kvs)) a.k (.lst (sc.map λs=>V.str (kn s.kind)))) a {R with sects:=sc}:=by
 obtain⟨n1,n2,n3,n4,n5,n6,n7,n8,n9,A5,A6,A7,xX,xY,xZ,x8,x9,x_,yb,yc,yd⟩:=hP.pS;obtain⟨mO,hn,_⟩:=hP.numbers;obtain⟨kj,hj,j1,j2⟩:=hP.joined;refine⟨by rw[ay (aO n2),ay (aO n3)];exact hP.obj,by rw[ay (aO n7),ay (aO n8)];exact hP.own,hP.nd,aA,⟨kvs,by rw[ay A7,aA],hl,h⟩,⟨kj,by rw[ay xX,ay x8];exact hj,j1,λx=>⟨(j2 x).1,λy e=>?_⟩⟩,?_,by rw[ay xZ,ay x_];exact hP.signals⟩
 ·obtain⟨t,h1,h2⟩:=(j2 x).2 y e;exact⟨t,h1,by rw[ay (e9 h2 hP.kinds (by simp[*])),ay (e9 h2 hn (by simp[*]))];exact h2⟩
 obtain⟨k,h1,h2⟩:=hP.borders;exact⟨k,by rw[ay xY,ay x9];exact h1,h2⟩
inductive Oh(A0:aL)(vs:List V)(H:Hp)(Q:VK):Prop
 |mk:∀(a:PA) (R:Plan) (n kd:Nat) (nm:Bytes),vs=[.ref a.p,.str (kn kd),.str (st (ln nm))]->bJ A0 H a R->d9 R n->kd<3->Yh.isName nm=true->((R.find nm).isSome=true->Q (.int 2) H)->((R.find nm).isSome=false->16<=R.sects.length->Q (.int 7) H)->((R.find nm).isSome=false->¬16<=R.sects.length->∀H',bJ A0 H' a {R with sects:=R.sects++[⟨nm,kd⟩]}->aG [a.n,a.k] H H'->Q (.int 0) H')->Oh A0 vs H Q
def ae_(A0:aL):Sp:=λvs H Q _=>Oh A0 vs H Q
def afa(T:Txt w K mg A0):b9 P w K mg base "take_section" 1 ["plan","kind","name"] (ae_ A0):=by
 refine cg ["plan","kind","name"] T.ac3 ?_;rintro nD f aU A outer s H vs Q E hr ⟨a,R,n,kd,nm,rfl,hP,W,hk,iy,k2,k7,kg⟩;refine⟨_,(aF (bD (tW (wC (gy hr) (pv 2) (aV (pv 0) rfl)) (by with_unfolding_all rfl)) (aH (aS (cM T.acu rfl))) bH) (aF (bD (bT e_ (cR eU rfl T.eJ eI (aq (aV (pv 0) rfl) aC)) (cM T.acr rfl)) (aH (aS (cM T.Nk rfl))) bH) (aF (rn (gy hr) (aV (pv 0) rfl) (pv 2) (cR eU rfl T.eJ eI (aq (aV (pv 0) rfl) aC)) rfl) (aF (i3 (jy jT vI vJ rf (aV (pv 0) rfl) (aq (pv 1) aC))) (aH (aS (cM T.xC rfl))))))),?_⟩;try dsimp only[bc,Cx.bf]
 refine pM ?_;intro _ _ _ _;obtain⟨kvs,hn,hl,hv⟩:=hP.numbers;have hf:=hv nm iy;refine⟨_,rfl,_,rfl,a.p,_,_,_,_,rfl,hP.obj,T.c_,T.AN,E2 a,a.n,_,rfl,fD.k (k:=Sum.inr (st (ln nm))) hn,_,rfl,?_⟩;rw[hf,yX];refine eC (λh1=>k2 h1) (λh1=>?_);have iO:=gQ.mpr h1;refine⟨_,rfl,a.p,_,_,_,_,rfl,hP.obj,T.c_,T.lN,mN a,_,_,rfl,.inl (aB.of hP.kinds),rfl,_,rfl,?_⟩;rw[aT,tZ];have fw:=W.dO;by_cases A4:16<=R.sects.length
 ·have ee:((R.sects.length:Int)==16)=true:=by simp;lia
  rw[ee];exact k7 iO A4
 have ee:((R.sects.length:Int)==16)=false:=by simp;lia
 rw[ee];refine⟨_,rfl,a.p,_,_,_,_,rfl,hP.obj,T.c_,T.lN,mN a,_,_,rfl,.inl (aB.of hP.kinds),_,rfl,a.p,_,_,_,_,rfl,hP.obj,T.c_,T.AN,E2 a,_,rfl,a.n,_,rfl,jA.k (k:=Sum.inr (st (ln nm))) hn (by rw[bP];lia),?_⟩;have npn:=hP.pS.2.2.1;have Oi:=hP.pS.2.2.2.2.2.2.2.2.2.2.2.1;refine⟨_,rfl,a.p,_,_,_,_,rfl,by rw[ay (aO npn)];exact hP.obj,T.c_,T.lN,mN a,.inl ⟨rfl,_,aB.of (by rw[ay (aO Oi)];exact hP.kinds)⟩,_,rfl,a.k,_,_,rfl,rfl,by rw[ay (aO Oi)];exact hP.kinds,by rw[aT,bP];lia,?_⟩;have lH:R.find nm=none:=by simp_all
 have:=hP.ae9 (sc:=R.sects++[⟨nm,kd⟩]) (kvs:=putK kvs (Sum.inr (st (ln nm))) (V.int (((R.sects.map λs=>V.str (kn s.kind)).length:Nat):Int))) (by
  have:=nG kvs (Sum.inr (st (ln nm))) (V.int (((R.sects.map λs=>V.str (kn s.kind)).length:Nat):Int));rw[cX,bG,dR];lia) (by
  intro b hb;rw[rj,ae8,hv b hb,aT];by_cases e:b=nm
  ·subst e;simp[*]
  rw[az (λq=>e ((ae7 iy).mp (Sum.inr.inj q))),az (λq=>e q.symm),Option.or_none])
 rw[ft]at this;exact kg iO A4 _ this (aG.trans (aG.upd (by simp)) (aG.upd (by simp)))
inductive Oj(A0:aL)(vs:List V)(H:Hp)(Q:VK):Prop
 |mk:∀(a:PA) (R:Plan) (n:Nat) (b nm:Bytes) (d:Nat),vs=[.ref a.p,.str (st (ln b))]->bJ A0 H a R->d9 R n->Yh.endIn b=some (nm,d)->b.length<=2000->(R.spot (nm,d)=none->Q .aQ H)->(∀x,R.spot (nm,d)=some x->∀e,H e=none->Q (.ref e) (upd H e (.tup (cV x))))->Oj A0 vs H Q
def afc(A0:aL):Sp:=λvs H Q _=>Oj A0 vs H Q
def afd(T:Txt w K mg A0):b9 P w K mg base "find_end" 2 ["plan","word"] (afc A0):=by
 refine cg ["plan","word","section"] T.ac4 ?_;rintro nD f aU A outer s H vs Q E hr ⟨a,R,n,b,nm,d,rfl,hP,W,he,hb,mO,ks⟩;refine⟨_,(aF (bw 2 nD (Kb (gy hr) (aV (pv 0) rfl) (bB (ad9 T) hr (aq (pv 1) aC)) ⟨rfl,rfl,rfl,rfl⟩)) (aF (bD (PW.pt (pw_or (bT qP (pv 2) eF) (pw_or1 (ni (gv (dg (N1 T) hr (pv 0) (aq (pv 2) (aq (bB (NK T) hr (aq (pv 1) aC)) aC)))))))) (aH (aS eF)) bH) (aH (aS (jZ (aq (pv 2) (aq (bB (NK T) hr (aq (pv 1) aC)) aC))))))),?_⟩;try dsimp only[bc,Cx.bf]
 refine iS ?_;intro _ _;obtain⟨e1,e2,e3,e4⟩:=Ym.Zh he;have hl:(ln b).length<=2000:=by rw[Ym.uC];exact hb
 have iw:1<=(ln b).length:=by rw[Ym.uC];lia
 obtain⟨_,_,iy,_⟩:=(Ym.w9 _ _ _).mp he;obtain⟨kvs,hn,hlk,hv⟩:=hP.numbers;refine⟨_,rfl,a.p,_,_,_,_,rfl,hP.obj,T.c_,T.AN,E2 a,a.n,rfl,.inl ⟨kvs,.inl hn⟩,_,rfl,ln b,rfl,hl,?_⟩;rw[e1];refine⟨_,fD.k (k:=Sum.inr (st (ln nm))) hn,?_⟩;rw[hv nm iy];unfold Plan.spot at mO ks;cases q:R.find nm with
 |none=>rw[q]at mO;exact⟨_,rfl,rfl,_,rfl,mO rfl⟩
 |some i=>
  rw[q]at mO ks;simp only at mO ks;refine⟨_,rfl,rfl,_,rfl,?_⟩;show if decide (V.int (i:Int)=V.aQ)=true then _ else _;rw[b7 (by simp[*])];refine⟨_,rfl,a.p,_,_,rfl,hP.obj,pQ a (by decide +kernel),_,rfl,_,rfl,ln b,d,rfl,iw,hl,e2,e3,a,R,n,i,d,rfl,hP,W,_,rfl,?_⟩;cases qe:R.isEnd (i,d)with
  |false=>rw[az (by rw[qe];simp)]at mO;exact mO rfl
  |true=>have ks:=ks (i,d) (by rw[aD qe]);exact⟨_,rfl,_,rfl,ln b,d,rfl,iw,hl,e2,e3,iq,λe' kf=>ks e' kf⟩
def n_(x:Bytes)(r:List Bytes):Option Yh.Line:=match r with
 |[p]=>(Yh.endIn p).bind λe=>if x=Yh.ascii "border" then some (.border e)else if x=Yh.ascii "signal" then some (.signal e)else none
 |[p,q]=>(Yh.endIn p).bind λe=>(Yh.endIn q).bind λe'=>if x=Yh.ascii "join" then some (.join e e')else none
 |_=>none
def afe(h:iT x=some k):(x=Yh.ascii "plain"/\k=0)\/(x=Yh.ascii "point"/\k=1)\/(x=Yh.ascii "cross"/\k=2):=by
 unfold iT at h;split at h
 ·exact .inl ⟨by assumption,(bC h).symm⟩
 split at h
 ·exact .inr (.inl ⟨by assumption,(bC h).symm⟩)
 simp_all
def Fl(h:iE x=some k):(x=Yh.ascii "join"/\k=2)\/(x=Yh.ascii "border"/\k=1)\/(x=Yh.ascii "signal"/\k=1):=by
 unfold iE at h;split at h
 ·exact .inl ⟨by assumption,(bC h).symm⟩
 split at h
 ·exact .inr (.inl ⟨by assumption,(bC h).symm⟩)
 simp_all
def aff:Yh.ascii "point"≠Yh.ascii "plain":=by decide +kernel
def afg:Yh.ascii "cross"≠Yh.ascii "plain":=by decide +kernel
def afh:Yh.ascii "cross"≠Yh.ascii "point":=by decide +kernel
def ye:Yh.ascii "border"≠Yh.ascii "plain"/\Yh.ascii "border"≠Yh.ascii "point"/\Yh.ascii "border"≠Yh.ascii "cross"/\Yh.ascii "border"≠Yh.ascii "join":=by decide +kernel
def oh:Yh.ascii "signal"≠Yh.ascii "plain"/\Yh.ascii "signal"≠Yh.ascii "point"/\Yh.ascii "signal"≠Yh.ascii "cross"/\Yh.ascii "signal"≠Yh.ascii "border"/\Yh.ascii "signal"≠Yh.ascii "join":=by decide +kernel
def Ol(h:uS (Yh.split 32 b)=true):iY λk n kd=>gR (Yh.split 32 b=[k,n]) (iT k=some kd) (Yh.isName n=true) (Yh.lineIn b=some (.sect kd n)):=by
 unfold uS at h;split at h
 ·rename_i k n e
  rw[fo]at h;obtain⟨kd,hk⟩:=kW.mp h.1;refine⟨k,n,kd,e,hk,h.2,?_⟩;unfold Yh.lineIn;rw[e];simp only;rcases afe hk with⟨rfl,rfl⟩|⟨rfl,rfl⟩|⟨rfl,rfl⟩
  ·simp[*]
  ·rw[az aff,aD rfl,aD h.2]
  rw[az afg,az afh,aD rfl,aD h.2]
 cases h
def Om(h:xQ (Yh.split 32 b)=true):dB λx r=>gR (Yh.split 32 b=x::r) (iE x=some r.length) (∀p∈r,(Yh.endIn p).isSome=true) (∃L,n_ x r=some L/\Yh.lineIn b=some L):=by
 cases q:Yh.split 32 b with
 |nil=>rw[q]at h;cases h
 |cons x r=>
  rw[q,AX]at h;cases qc:iE x with
  |none=>simp_all
  |some c=>
   rw[qc]at h;simp only[fo,iK]at h;obtain⟨hl,cx⟩:=h;have yf:=l7.mp cx;refine⟨x,r,rfl,by rw[qc,hl],yf,?_⟩;unfold Yh.lineIn;rw[q];rcases Fl qc with⟨rfl,rfl⟩|⟨rfl,rfl⟩|⟨rfl,rfl⟩
   ·match r,hl with
    |[p,q'],_=>
     obtain⟨e,he⟩:=kW.mp (yf p (by simp));obtain⟨e',kf⟩:=kW.mp (yf q' (by simp));refine⟨.join e e',?_,?_⟩
     ·unfold n_;simp[*]
     simp[*]
   ·match r,hl with
    |[p],_=>
     obtain⟨e,he⟩:=kW.mp (yf p (by simp));refine⟨.border e,?_,?_⟩
     ·unfold n_;simp[*]
     simp only[he,vD];rw[az ye.1,az ye.2.1,az ye.2.2.1,aD trivial]
   match r,hl with
   |[p],_=>
    obtain⟨e,he⟩:=kW.mp (yf p (by simp));refine⟨.signal e,?_,?_⟩
    ·unfold n_;simp only[he,Hy];rw[az oh.2.2.2.1,aD trivial]
    simp only[he,vD];rw[az oh.1,az oh.2.1,az oh.2.2.1,az oh.2.2.2.1,aD trivial]
def Oo(h1:uS (Yh.split 32 b)=false)(h2:xQ (Yh.split 32 b)=false):Yh.lineIn b=none:=by
 unfold Yh.lineIn;match q:Yh.split 32 b with
 |[]=>rfl
 |[_]=>rfl
 |[x,n]=>
  rw[q]at h1 h2;rw[EV]at h1;simp only;have hn:∀k,iT x=some k->Yh.isName n=false:=λk hk=>by simp_all
  by_cases e1:x=Yh.ascii "plain"
  ·rw[aD e1,az];rw[hn 0 (by unfold iT;rw[aD e1])];simp
  rw[az e1];by_cases e2:x=Yh.ascii "point"
  ·rw[aD e2,az];rw[hn 1 (by unfold iT;rw[az e1,aD e2])];simp
  rw[az e2];by_cases e3:x=Yh.ascii "cross"
  ·rw[aD e3,az];rw[hn 2 (by unfold iT;rw[az e1,az e2,aD e3])];simp
  rw[az e3];rw[AX]at h2;by_cases e4:x=Yh.ascii "border"
  ·rw[aD e4]
   have:iE x=some 1:=by unfold iE;rw[az (by rw[e4];exact ye.2.2.2),aD e4]
   simp_all
  rw[az e4];by_cases e5:x=Yh.ascii "signal"
  ·rw[aD e5]
   have:iE x=some 1:=by unfold iE;rw[az (by rw[e5];exact oh.2.2.2.2),az e4,aD e5]
   simp_all
  rw[az e5]
 |[x,p,p']=>
  rw[q]at h2;rw[AX]at h2;simp only;by_cases e:x=Yh.ascii "join"
  ·rw[aD e]
   have:iE x=some 2:=by unfold iE;rw[aD e]
   simp_all
  rw[az e]
 |_::_::_::_::_=>rfl
def Fm(R:Plan)(e e':Bytes×Nat):R.line (.join e e')=(match R.spot e,R.spot e' with
  |some x,some y=>if R.taken x=true\/R.taken y=true\/x=y then .error 4 else .ok {R with joins:=R.joins++[(x,y)]}
  |_,_=>.error 3):=rfl
def Fn(R:Plan)(e:Bytes×Nat):R.line (.border e)=(match R.spot e with
  |none=>.error 3
  |some x=>if R.taken x=true then .error 4 else if R.isPlain x.1=false then .error 6 else .ok {R with borders:=R.borders++[x]}):=rfl
def Fo(R:Plan)(e:Bytes×Nat):R.line (.signal e)=(match R.spot e with
  |none=>.error 3
  |some x=>if(R.signalAt x).isSome=true then .error 4 else if(R.partner x).isNone=true then .error 5 else if R.isPlain x.1=false then .error 6 else if 12<=R.signals.length then .error 7 else .ok {R with signals:=R.signals++[x]}):=rfl
def Fp(R:Plan)(k:Nat)(n:Bytes):R.line (.sect k n)=(if(R.find n).isSome=true then .error 2 else if 16<=R.sects.length then .error 7 else .ok {R with sects:=R.sects++[⟨n,k⟩]}):=rfl
def iU(R:Plan)(b:Bytes):Option Spot:=(Yh.endIn b).bind R.spot
def Oq(H:Hp)(o:Option Spot)(v:V):Prop:=match o with
 |none=>v= .aQ
 |some x=>∃e,v= .ref e/\H e=some (.tup (cV x))
abbrev jh(a:PA):List Addr:=[a.n,a.k,a.j,a.b,a.g]
inductive Ot(K:aa)(A0:aL)(vs:List V)(H:Hp)(Q:VK):Prop
 |mk:∀(a:PA) (R:Plan) (n:Nat) (x:Bytes) (r:List Bytes) (l:Addr) (L:Yh.Line),vs=[.ref a.p,.str (st (ln x)),.ref l]->bJ A0 H a R->d9 R n->n<=1100->aB K H l (dZ r)->iE x=some r.length->(∀p∈r,(Yh.endIn p).isSome=true)->EU r->n_ x r=some L->(∀kd,R.line L= .error kd->∀H',bJ A0 H' a R->aG (jh a) H H'->Q (.int kd) H')->(∀R',R.line L= .ok R'->∀H',bJ A0 H' a R'->aG (jh a) H H'->Q (.int 0) H')->Ot K A0 vs H Q
def afi(K:aa)(A0:aL):Sp:=λvs H Q _=>Ot K A0 vs H Q
def aG.sub(h:aG S H H')(s:∀b∈S,b∈S'):aG S' H H':=λb o e n=>h b o e λq=>n (s b q)
def rQ{R:Plan}{e:Bytes×Nat}{x:Spot}(h:R.spot e=some x):R.isEnd x=true/\x.1<R.sects.length:=by
 unfold Plan.spot at h;split at h
 ·cases h
 split at h
 ·rename_i q;obtain rfl:=bC h;exact⟨q,(pR.mp q).1⟩
 cases h
def afj(T:Txt w K mg A0):b9 P w K mg base "take_ends" 3 ["plan","what","words"] (afi K A0):=by
 refine cg ["plan","what","words","ends","word"] T.ac5 ?_;rintro nD f aU A outer s H vs Q E hr ⟨a,R,n,x,r,l,L,rfl,hP,W,hn,hs,hc,cx,kH,hL,kb,kg⟩;refine⟨_,(aF (JP (i:=3) (own:=[("word",4)]) rfl nD rfl rfl (JR rfl rfl rfl rfl) (g9 (pv 2)) (i7 (by rfl)) (λ_ _ _ _ _=>(ck 4 nD)) (λ_ _ _ _ _=>j9) (λ_ _ _ _ _=>(bB (afd T) hr (aq (pv 0) (aq (pv 4) aC))))) (aF (bD (bT (abY (gy hr)) eF (pv 3) (by with_unfolding_all rfl)) (aH (aS (cM T.acv rfl))) bH) (aF (bD (bT e_ (pv 1) iM) (aH (aS (bB (aeY T) hr (aq (pv 0) (aq (bj cH (pv 3) aP) (aq (bj cH (pv 3) aP) aC)))))) bH) (aF (bD (bT e_ (pv 1) iM) (aH (aS (bB (ae3 T) hr (aq (pv 0) (aq (bj cH (pv 3) aP) aC))))) bH) (aH (aS (bB (ae5 T) hr (aq (pv 0) (aq (bj cH (pv 3) aP) aC))))))))),?_⟩;try dsimp only[bc,Cx.bf]
 refine pM ?_;intro _ _ _ _;refine⟨_,rfl,l,rfl,⟨_,hs⟩,λD hD=>?_⟩;let Z1:Nat->Hp->Prop:=λi H'=>ax H H'/\∃vs,H' D=some (.lst vs)/\Paired (λb v=>Oq H' (iU R b) v) (r.take i) vs;refine nF Z1
  ⟨ax.new hD,[],aA,.nil⟩ (λi H' _ hh=>hh.1.seq hs) ?_ ?_
 ·rintro i y H' hy ⟨sm,vs,hd,pr⟩
  obtain⟨b,hb,rfl⟩:∃b,r[i]?=some b/\y=V.str (st (ln b)):=by
   unfold dZ at hy;rw[cb]at hy;cases q2:r[i]? with
   |none=>simp_all
   |some b=>simp_all
  have Ou:=d_ hb;obtain⟨⟨nm,d⟩,he⟩:=kW.mp (cx b Ou);have es:iU R b=R.spot (nm,d):=by unfold iU;rw[he];rfl
  have hlen:vs.length<sizeLine:=by
   have h1:=bZ pr;rw[dQ]at h1;have h2:r.length<=2:=by rcases Fl hc with⟨_,q⟩|⟨_,q⟩|⟨_,q⟩<;>simp[*]
   rw[bP];lia
  refine⟨rfl,_,rfl,_,rfl,a,R,n,b,nm,d,rfl,hP.mono sm,W,he,kH b Ou,λe0=>?_,λz ez e' kf=>?_⟩
  ·have iF:ax H (upd H' D (.lst (vs++[V.aQ]))):=λc o ec=>by rw[ay (bz ec hD)];exact sm c o ec
   refine⟨vs,hd,hlen,iF,_,aA,?_⟩;rw[dS hb];refine kX (Paired.cj pr λp v q=>?_) ?_
   ·cases qs:iU R p with
    |none=>rw[qs]at q;exact q
    |some z=>rw[qs]at q;obtain⟨e1,q1,q2⟩:=q;exact⟨e1,q1,by rw[ay (e9 q2 hd (by simp[*]))];exact q2⟩
   rw[es,e0];rfl
  have ne:e'≠D:=λq=>by simp_all
  have iF:ax H (upd (upd H' e' (.tup (cV z))) D (.lst (vs++[V.ref e']))):=λc o ec=>by rw[ay (bz ec hD),ay (bz (sm c o ec) kf)];exact sm c o ec
  refine⟨vs,by rw[ay (aO ne)];exact hd,hlen,iF,_,aA,?_⟩;rw[dS hb];refine kX (Paired.cj pr λp v q=>?_) ?_
  ·cases qs:iU R p with
   |none=>rw[qs]at q;exact q
   |some z'=>rw[qs]at q;obtain⟨e1,q1,q2⟩:=q;exact⟨e1,q1,by rw[ay (e9 q2 hd (by simp[*])),ay (bz q2 kf)];exact q2⟩
  rw[es,ez];exact⟨e',rfl,by rw[ay ne,aA]⟩
 rintro H' ⟨sm,vs,hd,pr⟩;rw[uR,zb]at pr;have dw:=hP.mono sm;have fr:∀{H2:Hp} {S:List Addr},aG S H' H2->(∀b∈S,b∈jh a)->aG (jh a) H H2:=λh1 h2=>(aG.of sm).trans (h1.sub h2)
 have hvs:∀v∈vs,v= .aQ\/∃t ys,v= .ref t/\aX K H' t ys:=by
  have:∀{ps:List Bytes} {us:List V},Paired (λb v=>Oq H' (iU R b) v) ps us->∀v∈us,v= .aQ\/∃t ys,v= .ref t/\aX K H' t ys:=by
   intro ps us q;induction q with
   |nil=>intro v hv;simp_all
   |@cons p u ps us h t ih=>
    intro v hv;rcases be.mp hv with rfl|hv
    ·cases qs:iU R p with
     |none=>rw[qs]at h;exact .inl h
     |some z=>rw[qs]at h;obtain⟨e,h1,h2⟩:=h;exact .inr ⟨e,_,h1,aX.of h2⟩
    exact ih v hv
  exact this pr
 refine⟨_,rfl,D,vs,rfl,rfl,aB.of hd,hvs,_,rfl,?_⟩;rcases Fl hc with⟨rfl,h2⟩|⟨rfl,h1⟩|⟨rfl,h1⟩
 ·match r,h2 with
  |[p,q],_=>
   obtain⟨e,he⟩:=kW.mp (cx p (by simp));obtain⟨e',kf⟩:=kW.mp (cx q (by simp));unfold n_ at hL;simp only[he,kf,Hy]at hL;rw[aD trivial]at hL;obtain rfl:=(bC hL).symm;have s1:iU R p=R.spot e:=by unfold iU;rw[he];rfl
   have s2:iU R q=R.spot e':=by unfold iU;rw[kf];rfl
   cases pr with
   |cons p1 pr=>
    cases pr with
    |cons p2 pr=>
     cases pr;rw[s1]at p1;rw[s2]at p2;rw[Fm]at kb kg;cases z1:R.spot e with
     |none=>rw[z1]at p1 kb;obtain rfl:=p1;exact kb 3 rfl H' dw (aG.of sm)
     |some x1=>
      rw[z1]at p1 kb kg;obtain⟨t1,rfl,yg⟩:=p1;cases z2:R.spot e' with
      |none=>rw[z2]at p2 kb;obtain rfl:=p2;exact kb 3 rfl H' dw (aG.of sm)
      |some x2=>
       rw[z2]at p2 kb kg;obtain⟨t2,rfl,ht2⟩:=p2;simp only at kb kg;refine⟨_,rfl,rfl,_,rfl,?_⟩;rw[(xP _).mpr rfl];refine bA ⟨_,rfl,_,rfl,_,_,_,_,rfl,rfl,aB.of hd,bE rfl,_,rfl,_,_,_,_,rfl,rfl,aB.of hd,bE rfl,a,R,n,t1,t2,x1,x2,rfl,dw,W,hn,yg,ht2,λhb=>?_,λhb H2 oj bF=>?_⟩
       ·rw[aD hb]at kb;exact kb 4 rfl H' dw (aG.of sm)
       rw[az hb]at kg;exact kg _ rfl H2 oj (fr bF (by simp))
 ·match r,h1 with
  |[p],_=>
   obtain⟨e,he⟩:=kW.mp (cx p (by simp));unfold n_ at hL;simp only[he,Hy]at hL;rw[aD trivial]at hL;obtain rfl:=(bC hL).symm;have s1:iU R p=R.spot e:=by unfold iU;rw[he];rfl
   cases pr with
   |cons p1 pr=>
    cases pr;rw[s1]at p1;rw[Fn]at kb kg;cases z1:R.spot e with
    |none=>rw[z1]at p1 kb;obtain rfl:=p1;exact kb 3 rfl H' dw (aG.of sm)
    |some x1=>
     rw[z1]at p1 kb kg;obtain⟨t1,rfl,yg⟩:=p1;simp only at kb kg;refine⟨_,rfl,rfl,_,rfl,?_⟩;rw[b7 (by intro z;injection z with z;exact ye.2.2.2 ((xP _).mp z))];refine bg ⟨_,rfl,rfl,_,rfl,?_⟩;rw[(AW _).mpr rfl];refine bA ⟨_,rfl,_,rfl,_,_,_,_,rfl,rfl,aB.of hd,bE rfl,a,R,n,t1,x1,rfl,dw,W,hn,yg,(rQ z1).2,λh4=>?_,λh4 h6=>?_,λh4 h6 H2 oj bF=>?_⟩
     ·rw[aD h4]at kb;exact kb 4 rfl H' dw (aG.of sm)
     ·rw[az (by rw[h4];simp),aD h6]at kb;exact kb 6 rfl H' dw (aG.of sm)
     rw[az (by rw[h4];simp),az (by rw[h6];simp)]at kg;exact kg _ rfl H2 oj (fr bF (by simp))
 match r,h1 with
 |[p],_=>
  obtain⟨e,he⟩:=kW.mp (cx p (by simp));unfold n_ at hL;simp only[he,Hy]at hL;rw[az oh.2.2.2.1,aD trivial]at hL;obtain rfl:=(bC hL).symm;have s1:iU R p=R.spot e:=by unfold iU;rw[he];rfl
  cases pr with
  |cons p1 pr=>
   cases pr;rw[s1]at p1;rw[Fo]at kb kg;cases z1:R.spot e with
   |none=>rw[z1]at p1 kb;obtain rfl:=p1;exact kb 3 rfl H' dw (aG.of sm)
   |some x1=>
    rw[z1]at p1 kb kg;obtain⟨t1,rfl,yg⟩:=p1;simp only at kb kg;refine⟨_,rfl,rfl,_,rfl,?_⟩;rw[b7 (by intro z;injection z with z;exact oh.2.2.2.2 ((xP _).mp z))];refine bg ⟨_,rfl,rfl,_,rfl,?_⟩;rw[b7 (by intro z;injection z with z;exact oh.2.2.2.1 ((AW _).mp z))];refine bg ⟨_,rfl,_,rfl,_,_,_,_,rfl,rfl,aB.of hd,bE rfl,a,R,n,t1,x1,rfl,dw,W,yg,(rQ z1).2,λg4=>?_,λg4 g5=>?_,λg4 g5 g6=>?_,λg4 g5 g6 g7=>?_,λg4 g5 g6 g7 H2 oj bF=>?_⟩
    ·rw[aD g4]at kb;exact kb 4 rfl H' dw (aG.of sm)
    ·rw[az (by rw[g4];simp),aD g5]at kb;exact kb 5 rfl H' dw (aG.of sm)
    ·rw[az (by rw[g4];simp),az (by rw[g5];simp),aD g6]at kb;exact kb 6 rfl H' dw (aG.of sm)
    ·rw[az (by rw[g4];simp),az (by rw[g5];simp),az (by rw[g6];simp),aD g7]at kb;exact kb 7 rfl H' dw (aG.of sm)
    rw[az (by rw[g4];simp),az (by rw[g5];simp),az (by rw[g6];simp),az g7]at kg;exact kg _ rfl H2 oj (fr bF (by simp))
theorem Ov{R:Plan}{x:Spot}(h:R.partner x=none):x∉R.joins.flatMap λj=>[j.1,j.2]:=by intro hm;obtain⟨j,hj,hx⟩:=jr.mp hm;unfold Plan.partner at h;rw[Hu]at h;have:=h j hj;grind
def Ow(R:Plan)(s:Yh.Sect)(h:i<R.sects.length):Plan.kindAt {R with sects:=R.sects++[s]} i=R.kindAt i:=by unfold Plan.kindAt;rw[tI h]
theorem Fq{R:Plan}(s:Yh.Sect){x:Spot}(h:R.isEnd x=true):Plan.isEnd {R with sects:=R.sects++[s]} x=true:=by
 obtain⟨h1,h2⟩:=pR.mp h;refine pR.mpr ⟨?_,?_⟩
 ·show x.1<(R.sects++[s]).length;rw[cX];lia
 rw[Ow R s h1];exact h2
theorem afm{R:Plan}(s:Yh.Sect){i:Nat}(h:R.isPlain i=true):Plan.isPlain {R with sects:=R.sects++[s]} i=true:=by unfold Plan.isPlain at h⊢;rw[fo,iK]at h;rw[Ow R s h.1,h.2,Bool.and_true,iK];rw[cX];lia
theorem afn{R R':Plan}{n:Nat}(W:d9 R n){L:Yh.Line}(hl:∀k nm,L= .sect k nm->k<3/\Yh.isName nm=true)(h:R.line L= .ok R'):d9 R' (n+1):=by
 cases L with
 |sect k nm=>
  obtain⟨hk,iy⟩:=hl k nm rfl;rw[Fp]at h;split at h
  ·cases h
  split at h
  ·cases h
  rename_i h1 h2;injection h with h;subst h;refine⟨?_,?_,?_,W.xS,vK W.xT,vK W.xU,W.sy,W.xV,W.A1,W.apart,λj hj=>⟨Fq _ (W.uT j hj).1,Fq _ (W.uT j hj).2⟩,λx hx=>⟨Fq _ (W.sC x hx).1,(W.sC x hx).2.1,afm _ (W.sC x hx).2.2⟩⟩
  ·intro s hs
   rcases gO.mp hs with hs|hs
   ·exact W.kinds s hs
   simp_all
  ·intro s hs
   rcases gO.mp hs with hs|hs
   ·exact W.names s hs
   simp_all
  grind
 |join e e'=>
  rw[Fm]at h;cases z1:R.spot e with
  |none=>simp_all
  |some x=>
   cases z2:R.spot e' with
   |none=>simp_all
   |some y=>
    rw[z1,z2]at h;simp only at h;split at h
    ·cases h
    rename_i hb;injection h with h;subst h;have hx:=gQ.mpr λq=>hb (.inl q);have hy:=gQ.mpr λq=>hb (.inr (.inl q));have bO:x≠y:=λq=>hb (.inr (.inr q));obtain⟨px,bx⟩:=uW hx;obtain⟨py,by'⟩:=uW hy;refine⟨W.kinds,W.names,W.dO,W.xS,?_,vK W.xU,W.sy,?_,W.A1,?_,?_,?_⟩
    ·show(R.joins++[_]).length<=n+1;rw[cX,bG,dR];have:=W.xT;simp[*]
    ·show((R.joins++[(x,y)]).flatMap λj=>[j.1,j.2]).Nodup
     rw[qE,oN];refine⟨W.xV,by simp[bO],?_⟩;intro a ha b fE e;subst e;simp at fE;rcases fE with rfl|rfl
     ·exact Ov px ha
     exact Ov py ha
    ·intro z hz;rw[Fi,W.apart z hz,Option.none_or];have lB:R.isBorder z=true:=hz;rw[az (λq=>by simp_all),az (λq=>by simp_all)]
    ·intro j hj
     rcases gO.mp hj with hj|hj
     ·exact W.uT j hj
     rw[dA.mp hj];exact⟨(rQ z1).1,(rQ z2).1⟩
    intro z hz;obtain⟨a,b,c⟩:=W.sC z hz;refine⟨a,?_,c⟩;rw[Fi];simp[*]
 |border e=>
  rw[Fn]at h;cases z1:R.spot e with
  |none=>simp_all
  |some x=>
   rw[z1]at h;simp only at h;split at h
   ·cases h
   rename_i h1;split at h
   ·cases h
   injection h with h;subst h;obtain⟨px,bx⟩:=uW (gQ.mpr h1);refine⟨W.kinds,W.names,W.dO,W.xS,vK W.xT,?_,W.sy,W.xV,?_,?_,W.uT,W.sC⟩
   ·show(R.borders++[_]).length<=n+1;rw[cX,bG,dR];have:=W.xU;simp[*]
   ·show(R.borders++[x]).Nodup;rw[oN];refine⟨W.A1,by simp,?_⟩;intro a ha b fE e;rw[dA.mp fE]at e;subst e;unfold Plan.isBorder at bx;simp_all
   intro z hz;have lB:(R.borders++[x]).contains z=true:=hz;rw[Hw,iK,gO,dA]at lB;rcases lB with lB|rfl
   ·exact W.apart z (by unfold Plan.isBorder;simp[*])
   exact px
 |signal e=>
  rw[Fo]at h;cases z1:R.spot e with
  |none=>simp_all
  |some x=>
   rw[z1]at h;simp only at h;split at h
   ·cases h
   rename_i h1;split at h
   ·cases h
   rename_i h2;split at h
   ·cases h
   rename_i h3;split at h
   ·cases h
   rename_i h4;injection h with h;subst h;refine⟨W.kinds,W.names,W.dO,?_,vK W.xT,vK W.xU,?_,W.xV,W.A1,W.apart,W.uT,?_⟩
   ·grind
   ·show(R.signals++[x]).Nodup;rw[oN];refine⟨W.sy,by simp,?_⟩;intro a ha b fE e;rw[dA.mp fE]at e;subst e;refine h1 ?_;unfold Plan.signalAt;simp[*]
   intro z hz;rcases gO.mp hz with hz|hz
   ·exact W.sC z hz
   rw[dA.mp hz];refine⟨(rQ z1).1,?_,?_⟩
   ·have kh:=gQ.mpr h2;show(R.partner x).isSome=true;simp_all
   exact eq_true_of_ne_false h3
theorem Ox(h:b.length<=2000):∀(c:UInt8),EU (Yh.split c b)/\(Yh.split c b).length<=b.length+1:=by
 intro c;have:∀b:Bytes,(∀x∈Yh.split c b,x.length<=b.length)/\(Yh.split c b).length<=b.length+1:=by
  intro b;induction b with
  |nil=>unfold Yh.split;simp
  |cons x r ih=>
   unfold Yh.split;cases q:Yh.split c r with
   |nil=>exact absurd q (Ym.pA c r)
   |cons w l=>
    rw[q]at ih;obtain⟨i1,i2⟩:=ih;have hw:=i1 w (by simp);simp only;split
    ·refine⟨λy hy=>?_,by simp_all⟩
     rcases be.mp hy with rfl|hy
     ·simp
     have:=i1 y hy;simp only[bG];lia
    refine⟨λy hy=>?_,by simp only[bG]at i2⊢;lia⟩;rcases be.mp hy with rfl|hy
    ·simp_all
    have:=i1 y (bU _ hy);simp only[bG];lia
 exact⟨λx hx=>cF ((this b).1 x hx) h,(this b).2⟩
def takes(R:Plan)(b:Bytes):Except Nat Plan:=match Yh.lineIn b with
 |none=>.error 1
 |some L=>R.line L
def afo(W:d9 R n)(h:takes R b= .ok R'):d9 R' (n+1):=by
 unfold takes at h;cases q:Yh.lineIn b with
 |none=>simp_all
 |some L=>
  rw[q]at h;refine afn W (λk nm e=>?_) h;subst e;by_cases hs:uS (Yh.split 32 b)=true
  ·obtain⟨x,n',kd,_,h1,h2,h3⟩:=Ol hs;rw[q]at h3;injection h3 with h3;injection h3 with h3 h4;subst h3 h4;exact⟨(ET h1).1,h2⟩
  by_cases he:xQ (Yh.split 32 b)=true
  ·obtain⟨x,r,_,_,_,L,h1,h2⟩:=Om he
   rw[q]at h2;injection h2 with h2;subst h2;unfold n_ at h1;split at h1
   ·obtain⟨e,_,h1⟩:=SJ.mp h1
    split at h1
    ·cases h1
    simp_all
   ·obtain⟨e,_,h1⟩:=SJ.mp h1;obtain⟨e',_,h1⟩:=SJ.mp h1;simp_all
   cases h1
  rw[Oo (gQ.mpr hs) (gQ.mpr he)]at q;cases q
inductive Oy(A0:aL)(vs:List V)(H:Hp)(Q:VK):Prop
 |mk:∀(a:PA) (R:Plan) (n:Nat) (b:Bytes),vs=[.ref a.p,.str (st (ln b))]->bJ A0 H a R->d9 R n->n<=1100->b.length<=1900->(∀kd,takes R b= .error kd->∀H',bJ A0 H' a R->aG (jh a) H H'->Q (.int kd) H')->(∀R',takes R b= .ok R'->∀H',bJ A0 H' a R'->aG (jh a) H H'->Q (.int 0) H')->Oy A0 vs H Q
def afp(A0:aL):Sp:=λvs H Q _=>Oy A0 vs H Q
def afq:Str.ofString " "=st [32]:=by decide +kernel
def afr(T:Txt w K mg A0):b9 P w K mg base "take_line" 5 ["plan","line"] (afp A0):=by
 refine cg ["plan","line","words"] T.ac6 ?_;rintro nD f aU A outer s H vs Q E hr ⟨a,R,n,b,rfl,hP,W,hn,hb,kb,kg⟩;refine⟨_,(aF (bw 2 nD (KI (pv 1) iM)) (aF (bD (gv (bB (ael T) hr (aq (pv 2) aC))) (aH (aS (bB (afa T) hr (aq (pv 0) (aq (bj cH (pv 2) aP) (aq (bj cH (pv 2) aP) aC)))))) bH) (aF (bD (gv (bB (aem T) hr (aq (pv 2) aC))) (aH (aS (bB (afj T) hr (aq (pv 0) (aq (bj cH (pv 2) aP) (aq (mw wd (pv 2) (i6 aP) mr) aC)))))) bH) (aH (aS (cM T.Ni rfl)))))),?_⟩;try dsimp only[bc,Cx.bf]
 refine jL ?_;intro _ _ _;obtain⟨kH,hlen⟩:=Ox (b:=b) (by lia) 32;have h1:1<=(Yh.split 32 b).length:=by
  cases q:Yh.split 32 b with
  |nil=>exact absurd q (Ym.pA 32 b)
  |cons x r=>simp
 refine⟨_,rfl,⟨_,rfl⟩,_,_,rfl,rfl,by decide +kernel,by rw[pO,Ym.uC,bP];lia,λp hp=>?_⟩;have ew:(Txt.split (st (ln b)) (st [32])).map V.str=dZ (Yh.split 32 b):=NU (c:=32) (by decide) _;rw[afq,ew];have s1:ax H (upd H p (.lst (dZ (Yh.split 32 b)))):=ax.new hp;refine⟨_,rfl,p,_,rfl,aB.of aA,h1,by lia,kH,λH2 s2=>⟨_,rfl,?_⟩⟩;have dI:=s2 _ _ aA;have iF:=s1.trans s2;refine eC (λhs=>?_) (λhs=>?_)
 ·obtain⟨x,nm,kd,e1,e2,e3,e4⟩:=Ol hs
  obtain⟨hk,ek⟩:=ET e2;have et:takes R b=R.line (.sect kd nm):=by unfold takes;rw[e4]
  rw[et,Fp]at kb kg;rw[e1]at dI;refine⟨_,rfl,_,rfl,_,_,_,_,rfl,rfl,aB.of dI,bE rfl,_,rfl,_,_,_,_,rfl,rfl,aB.of dI,bE rfl,a,R,n,kd,nm,by simp[*],hP.mono iF,W,hk,e3,λg2=>?_,λg2 g7=>?_,λg2 g7 H3 sE b8=>?_⟩
  ·rw[aD g2]at kb;exact kb 2 rfl H2 (hP.mono iF) (aG.of iF)
  ·rw[az (by rw[g2];simp),aD g7]at kb;exact kb 7 rfl H2 (hP.mono iF) (aG.of iF)
  rw[az (by rw[g2];simp),az g7]at kg;exact kg _ rfl H3 sE ((aG.of iF).trans (b8.sub (by simp)))
 refine⟨_,rfl,p,_,rfl,aB.of dI,h1,by lia,kH,λH3 s3=>⟨_,rfl,?_⟩⟩;have cE:=s3 _ _ dI;have pT:=iF.trans s3;refine eC (λhe=>?_) (λhe=>?_)
 ·obtain⟨x,r,e1,e2,e3,L,e4,e5⟩:=Om he
  have et:takes R b=R.line L:=by unfold takes;rw[e5]
  rw[et]at kb kg;rw[e1]at cE kH;refine⟨_,rfl,_,rfl,_,_,_,_,rfl,rfl,aB.of cE,bE rfl,_,rfl,_,rfl,_,_,rfl,aB.of cE,λp2 afs=>?_⟩;have jg:f_ (dZ (x::r)) (some 1) none=dZ r:=EW _ _;rw[jg];have s4:ax H (upd H3 p2 (.lst (dZ r))):=pT.trans (ax.new afs);exact⟨a,R,n,x,r,p2,L,rfl,hP.mono s4,W,hn,aB.of aA,e2,e3,(λy hy=>kH y (bU _ hy)),e4,λkd hk H5 h5 f5=>kb kd hk H5 h5 ((aG.of s4).trans f5),λR' hk H5 h5 f5=>kg R' hk H5 h5 ((aG.of s4).trans f5)⟩
 have et:takes R b= .error 1:=by unfold takes;rw[Oo (gQ.mpr hs) (gQ.mpr he)]
 exact kb 1 et H3 (hP.mono pT) (aG.of pT)
theorem pU{J:It}{n:Nat}{g:TG}{tb:TS}{D:Ends}{σ:L2.St}{H:Hp}(Pv:Nat->L2.St->Hp->Prop)(h0:Pv 0 σ H)(hg:∀i σ H,i<n->Pv i σ H->J.go i H)(hz:∀σ H,Pv n σ H->J.stop n H)
  (hs:∀i σ H x H',i<n->Pv i σ H->J.i4 i H x H'->g x σ H' λσ2 H2=>tb {D with nx:=Pv (i+1),ct:=Pv (i+1),bk:=D.nx} σ2 H2)(hd:∀σ H,Pv n σ H->D.nx σ H):
  ∃W:Nat->Nat->L2.St->Hp->Prop,(∃m,W 0 m σ H)/\∀i m σ H,W i m σ H->
   (J.stop i H/\D.nx σ H)\/(J.go i H/\∃N:L2.St->Hp->Prop,(∀σ' H',N σ' H'->∃m',m'<m/\W (i+1) m' σ' H')/\∀y H',J.i4 i H y H'->g y σ H' λσ2 H2=>tb {D with nx:=N,ct:=N,bk:=D.nx} σ2 H2):=by
 refine⟨λi m σ H=>m=n - i/\i<=n/\Pv i σ H,⟨n,by simp,bL _,h0⟩,?_⟩;rintro i m σ H ⟨rfl,hi,p⟩;by_cases bq:i<n
 ·refine .inr ⟨hg i σ H bq p,Pv (i+1),λσ' H' p'=>⟨n -(i+1),by grind,rfl,bq,p'⟩,λy H' q=>?_⟩;exact hs i σ H y H' bq p q
 have e:i=n:=by lia
 subst e;exact .inl ⟨hz σ H p,hd σ H p⟩
theorem Fs{J:It}{n:Nat}{g:TG}{tt:TT}{te:TE}{vs:List Nat}{σ:L2.St}{H1:Hp}{D:Addr}{Qd:Hp->Prop}(Pv:Nat->Hp->Prop)(h0:Pv 0 (upd H1 D (.lst [])))(hg:∀i H,i<n->Pv i H->J.go i H)(hz:∀H,Pv n H->J.stop n H)
  (hs:∀i H x H',i<n->Pv i H->J.i4 i H x H'->g x (wipe σ vs) H' λσ2 H2=>wipe σ2 vs=wipe σ vs/\tt σ2 H2 λb H3=>
   if b=true then te σ2 H3 λy H4=>∃acc,H4 D=some (.lst acc)/\acc.length<sizeLine/\Pv (i+1) (upd H4 D (.lst (acc++[y])))else Pv (i+1) H3)(hd:∀H,Pv n H->Qd H):
  ∃W:Nat->Nat->Hp->Prop,(∃m,W 0 m (upd H1 D (.lst [])))/\∀i m H,W i m H->
   (J.stop i H/\Qd H)\/(J.go i H/\∃Nx:Hp->Prop,(∀H',Nx H'->∃m',m'<m/\W (i+1) m' H')/\∀y H',J.i4 i H y H'->g y (wipe σ vs) H' λσ2 H2=>wipe σ2 vs=wipe σ vs/\tt σ2 H2 λb H3=>
    if b=true then te σ2 H3 λy H4=>∃acc,H4 D=some (.lst acc)/\acc.length<sizeLine/\Nx (upd H4 D (.lst (acc++[y])))else Nx H3):=by
 refine⟨λi m H=>m=n - i/\i<=n/\Pv i H,⟨n,by simp,bL _,h0⟩,?_⟩;rintro i m H ⟨rfl,hi,p⟩;by_cases bq:i<n
 ·refine .inr ⟨hg i H bq p,Pv (i+1),λH' p'=>⟨n -(i+1),by grind,rfl,bq,p'⟩,λy H' q=>?_⟩;exact hs i H y H' bq p q
 have e:i=n:=by lia
 subst e;exact .inl ⟨hz H p,hd H p⟩
def ji(R:Plan)(n:Nat):List Bytes->Except Yh.Fault Plan
 |[]=>.ok R
 |b::r=>match takes R b with
  | .error k=>.error (n,k)
  | .ok Q=>ji Q (n+1) r
theorem Oz(last:Bytes):∀(init:List Bytes) (R:Plan) (n:Nat),Yh.readFrom R n (init++[last])=(match ji R n init with
  | .error e=>.error e
  | .ok Q=>if last=[]then .ok Q else .error (n+init.length,1))
 |[],R,n=>by unfold ji Yh.readFrom;rfl
 |b::r,R,n=>by
  have e:dB λy ys=>r++[last]=y::ys:=by
   cases r with
   |nil=>exact⟨_,_,rfl⟩
   |cons a t=>exact⟨_,_,rfl⟩
  obtain⟨y,ys,e⟩:=e;rw[GY,e,Yh.readFrom,<-e]
  ·unfold ji takes
   cases Yh.lineIn b with
   |none=>rfl
   |some L=>
    simp only;cases R.line L with
    |error k=>rfl
    |ok Q=>
     simp only;rw[Oz last r Q (n+1),bG];have:n+1+r.length=n+(r.length+1):=by lia
     rw[this]
  lia
theorem OA:∀(init:List Bytes) (R:Plan) (n i:Nat) (Ri:Plan) (b:Bytes),ji R n (init.take i)= .ok Ri->init[i]?=some b->(∀R',takes Ri b= .ok R'->ji R n (init.take (i+1))= .ok R')/\(∀k,takes Ri b= .error k->ji R n init= .error (n+i,k))
 |[],R,n,i,Ri,b,h,hb=>by simp at hb
 |c::r,R,n,0,Ri,b,h,hb=>by
  have h':=h;injection h' with h';subst h';have fE:=bC hb;subst fE;refine⟨λR' hR=>?_,λk hk=>?_⟩
  ·show ji R n [c]=_;unfold ji;rw[hR];rfl
  unfold ji;simp[*]
 |c::r,R,n,i+1,Ri,b,h,hb=>by
  rw[G8]at h;unfold ji at h;cases q:takes R c with
  |error k=>simp_all
  |ok Q=>
   rw[q]at h;obtain⟨a1,a2⟩:=OA r Q (n+1) i Ri b h (by assumption);refine⟨λR' hR=>?_,λk hk=>?_⟩
   ·rw[G8];unfold ji;rw[q];exact a1 R' hR
   unfold ji;rw[q];have:=a2 k hk;rw[show n+1+i=n+(i+1) by lia]at this;exact this
theorem Ft{α:Type}:∀{l:List α},l≠[]->dB λa x=>l=a++[x]
 |[],h=>absurd rfl h
 |[x],_=>⟨[],x,rfl⟩
 |x::y::r,_=>by obtain⟨a,z,e⟩:=Ft (l:=y::r) (by simp);exact⟨x::a,z,by rw[e];rfl⟩
theorem aft(a:List V)(x:V):f_ (a++[x]) none (some (-1))=a:=by
 unfold f_;have e1:HT.ba (a++[x]).length 0 none=0:=rfl;have e2:HT.ba (a++[x]).length (a++[x]).length (some (-1))=a.length:=by show(-1+((a++[x]).length:Int)).toNat=_;simp only[cX,bG,dR];lia
 rw[e1,e2];simp
theorem afu(h:takes R b= .error kd):kd≠0:=by
 unfold takes at h;cases q:Yh.lineIn b with
 |none=>rw[q]at h;injection h with h;lia
 |some L=>
  rw[q]at h;simp only at h;cases L with
  |sect k n=>
   rw[Fp]at h
   repeat' split at h
   all_goals first|(injection h with h;lia)|cases h
  |join e e'=>
   rw[Fm]at h
   repeat' split at h
   all_goals first|(injection h with h;lia)|cases h
  |border e=>
   rw[Fn]at h
   repeat' split at h
   all_goals first|(injection h with h;lia)|cases h
  |signal e=>
   rw[Fo]at h
   repeat' split at h
   all_goals first|(injection h with h;lia)|cases h
inductive OB(K:aa)(A0:aL)(vs:List V)(H:Hp)(Q:VK):Prop
 |mk:∀(a:PA) (l:Addr) (ns:List Int),vs=[.ref a.p,.ref l]->bJ A0 H a nZ->aB K H l (ns.map V.int)->ns.length<=1024->(∀z∈ns,0<=z/\z<=255)->l∉jh a->(∀e,Yh.readFrom nZ 0 (Yh.split 10 (ns.map gL))= .error e->∀H' p,H' p=some (.tup [.int e.1,.int e.2])->aG (jh a) H H'->Q (.ref p) H')->(∀R,Yh.readFrom nZ 0 (Yh.split 10 (ns.map gL))= .ok R->∀H' n,bJ A0 H' a R->d9 R n->n<=1100->aG (jh a) H H'->Q .aQ H')->OB K A0 vs H Q
def afv(K:aa)(A0:aL):Sp:=λvs H Q _=>OB K A0 vs H Q
theorem bJ.other(hP:bJ A0 H a R)(h:H b=some o)(h1:∀xs,o≠ .lst xs\/b≠a.k)(h2:∀kvs,o≠ .dK kvs)(h3:∀kvs,o≠ .dT kvs):b∉jh a:=by
 intro q;simp only[be,fL,fM]at q;obtain⟨mO,hn,_⟩:=hP.numbers;obtain⟨kj,hj,_⟩:=hP.joined;obtain⟨kb,hb,_⟩:=hP.borders;rcases q with rfl|rfl|rfl|rfl|rfl
 ·simp_all
 ·rw[hP.kinds]at h;grind
 ·simp_all
 ·simp_all
 rw[hP.signals]at h;exact h3 _ (bC h).symm
theorem afw{ns:List Int}(h:ns.length<=1024):∀b∈Yh.split 10 (ns.map gL),b.length<=1900:=by
 intro b hb;have:∀(l:Bytes),∀x∈Yh.split 10 l,x.length<=l.length:=by
  intro l;induction l with
  |nil=>unfold Yh.split;simp
  |cons x r ih=>
   unfold Yh.split;cases q:Yh.split 10 r with
   |nil=>exact absurd q (Ym.pA 10 r)
   |cons w l=>grind
 have:=this _ b hb;rw[aT]at this;lia
def afx(T:Txt w K mg A0):
  b9 P w K mg base "take_text" 6 ["plan","text"] (afv K A0):=by
 refine cg ["plan","text","lines","number","line","kind"] T.ac7 ?_;rintro nD f aU A outer s H vs Q E hr ⟨a,l,ns,rfl,hP,hs,hlen,hb,OC,kb,kg⟩;refine⟨_,(aF (bw 2 nD (bB (aey T) hr (aq (pv 1) aC))) (aF (fX fW rfl (Dm rfl T.AM (aq (mw wd (pv 2) mr (i6 (eh eA aP))) aC)) (nr rfl (gw (ck 3 nD) (gw (ck 4 nD) mm))) (aF (bw 5 nD (bB (afr T) hr (aq (pv 0) (aq (pv 4) aC)))) (aH (bD (bT zy (pv 5) (cM T.xC rfl)) (aH (aS (jZ (aq (pv 3) (aq (pv 5) aC))))) bH)))) (aF (bD (bT zy (bj cH (pv 2) (eh eA aP)) iM) (aH (aS (jZ (aq (dC jY (cR eU rfl T.eJ eI (aq (pv 2) aC)) aP) (aq (cM T.Ni rfl) aC))))) bH) (aH (aS eF))))),?_⟩;try dsimp only[bc,Cx.bf]
 refine jL ?_;intro _ _ _;obtain⟨kH,rh⟩:=Ox (b:=ns.map gL) (by rw[aT];lia) 10;rw[aT]at rh;have OD:=afw hlen;obtain⟨init,last,el⟩:=Ft (Ym.pA 10 (ns.map gL));refine⟨_,rfl,l,ns,rfl,hs,hlen,hb,λH1 p s1 hp A9=>?_⟩;rw[el]at hp rh OD kb kg;rw[Oz]at kb kg;have ew:dZ (init++[last])=dZ init++[V.str (st (ln last))]:=by unfold dZ;simp[*]
 rw[ew]at hp;have mP:=hP.mono s1;refine⟨_,rfl,_,rfl,_,rfl,_,_,rfl,aB.of hp,λq hq=>?_⟩;rw[aft];have hpS:=mP.other hp (λxs=>.inr (λz=>by rw[z,hP.kinds]at A9;cases A9)) (by intro k z;cases z) (by intro k z;cases z);have hqS:q∉jh a:=λz=>by
  have:=mP;obtain⟨mO,hn,_⟩:=mP.numbers;obtain⟨kj,hj,_⟩:=mP.joined;obtain⟨kb,hb,_⟩:=mP.borders;simp only[be,fL,fM]at z;rcases z with rfl|rfl|rfl|rfl|rfl
  ·lia
  ·rw[mP.kinds]at hq;cases hq
  ·lia
  ·lia
  rw[mP.signals]at hq;cases hq
 have s2:ax H (upd H1 q (.lst (dZ init))):=s1.trans (ax.new hq);refine⟨q,_,rfl,aB.of aA,?_⟩;let Z1:Nat->L2.St->Hp->Prop:=λi σ H'=>k9 λ(v1 v2 v3:Option V) (Ri:Plan)=>vM (σ=[some (.ref a.p),some (.ref l),some (.ref p),v1,v2,v3]) (aG (jh a) H H') (H' q=some (.lst (dZ init))) (H' p=some (.lst (dZ init++[V.str (st (ln last))]))) (ji nZ 0 (init.take i)= .ok Ri) (bJ A0 H' a Ri) (d9 Ri i);refine pU (n:=init.length) Z1
  ⟨none,none,none,nZ,rfl,aG.of s2,aA,(ax.new hq) _ _ hp,rfl,hP.mono s2,N5⟩ ?_ ?_ ?_ ?_
 ·rintro i σ H' hi ⟨v1,v2,v3,Ri,rfl,fr,h1,h2,h3,h4,h5⟩;exact⟨_,_,aB.of h1,NQ (cp hi)⟩
 ·rintro σ H' ⟨v1,v2,v3,Ri,rfl,fr,h1,h2,h3,h4,h5⟩;exact⟨_,aB.of h1,by rw[uR];exact aW _⟩
 ·rintro i σ H' y H2 hi ⟨v1,v2,v3,Ri,rfl,fr,h1,h2,h3,h4,h5⟩ ⟨t,x,rfl,ht,rfl,hx⟩
  have A_:=cp hi;have mF:=hx _ (aB.of h1);rw[NQ A_]at mF;obtain rfl:=(bC mF).symm;have s3:ax H' (upd H' t (.tup [.int (i:Nat),V.str (st (ln init[i]))])):=ax.new ht;obtain⟨t1,t2⟩:=OA init nZ 0 i Ri init[i] h3 A_;have gf:init.length<=ns.length:=by rw[cX,bG,dR]at rh;simp_all
  refine⟨_,_,rfl,aX.of aA,rfl,_,_,rfl,_,_,rfl,rfl,_,rfl,_,rfl,a,Ri,i,init[i],rfl,h4.mono s3,h5,by lia,OD init[i] (BO _ (Hr hi)),λkd hk H3 sE b8=>?_,λR' hk H3 sE b8=>?_⟩
  ·refine⟨_,rfl,rfl,_,rfl,?_⟩;rw[b7 (by intro z;injection z with z;exact afu hk (by exact_mod_cast z))];refine bA ⟨_,rfl,_,rfl,iq,λe he=>?_⟩;refine kb (i,kd) ?_ _ e aA ((fr.trans (aG.of s3)).trans (b8.trans (aG.new he)));rw[t2 kd hk,Ca]
  refine⟨_,rfl,rfl,_,rfl,?_⟩;have key:=λb o e n=>b8 b o (s3 b o e) n;exact⟨_,_,_,R',rfl,(fr.trans (aG.of s3)).trans b8,key _ _ h1 hqS,key _ _ h2 hpS,t1 R' hk,sE,afo h5 hk⟩
 rintro σ H' ⟨v1,v2,v3,Ri,rfl,fr,h1,h2,h3,h4,h5⟩;rw[zb]at h3;have gf:init.length<=ns.length:=by rw[cX,bG,dR]at rh;simp_all
 have kD:iu (dZ init++[V.str (st (ln last))]) (-1)=some (V.str (st (ln last))):=by refine AV (k:=1) (by simp[*]) (by simp) ?_;simp[*]
 refine⟨_,rfl,_,rfl,_,_,_,_,rfl,rfl,aB.of h2,kD,rfl,_,rfl,?_⟩;rw[h3]at kb kg;simp only at kb kg;rw[AY,NG];by_cases hl:last=[]
 ·subst hl;rw[aD rfl]at kg;have e:decide (ln ([]:Bytes)=[])=true:=cq rfl;rw[e];exact kg Ri rfl H' init.length h4 h5 (by lia) fr
 have e:=b7 (λq=>hl (Ym.Zb.mp q));rw[e];refine bA ⟨_,rfl,_,_,rfl,.inl (aB.of h2),_,_,rfl,rfl,iq,λe he=>?_⟩;rw[az hl]at kb;refine kb _ rfl _ e ?_ (fr.trans (aG.new he));rw[aA];have e3:((dZ init++[V.str (st (ln last))]).length:Int) - 1=((0+init.length:Nat):Int):=by rw[cX,uR,bG,dR];simp[*]
 show some (HO.tup [V.int (((dZ init++[V.str (st (ln last))]).length:Int) - 1),V.int 1])=some (HO.tup [V.int ((0+init.length:Nat):Int),V.int 1]);rw[e3]
open Yn (fG fH xp uM weigh Way nV)
inductive OE(K:aa)(x:V)(y:V)(H:Hp)(Q:VK):Prop
 |mk:∀a b xs ys,x= .ref a->y= .ref b->aX K H a xs->aX K H b ys->xs.length+ys.length<=sizeLine->(xs=[]->Q (.ref b) H)->(xs≠[]->ys=[]->Q (.ref a) H)->(xs≠[]->ys≠[]->∀p,H p=none->Q (.ref p) (upd H p (.tup (xs++ys))))->OE K x y H Q
def OF(K:aa):R2:=λx y H Q=>OE K x y H Q
def OG:dN X (binaryOp .Add) (OF X.K):=by
 intro pins s σ H x y v u Q I rx ry h;obtain⟨a,b,xs,ys,rfl,rfl,ha,hb,hz,q0,q1,q2⟩:=h;by_cases hx:xs=[]
 ·cases rx;cases ry;obtain⟨its,r1,p1,_⟩:=I.tuple ha;obtain⟨gS,r2,p2,_⟩:=I.tuple hb;obtain⟨⟨cls,dd,data,sl⟩,ho,hc,n,hd⟩:=id p1;obtain⟨⟨UY,zI,data2,zJ⟩,nA,mq,n2,hd2⟩:=id p2;simp only at hc hd mq hd2;subst hc hd mq hd2;have e:its=[]:=r1.zL.mpr hx;exact concat_meets ⟨_,ho,rfl⟩ ⟨_,nA,rfl⟩ noFill_tuple_add seq_tuple_add Sx Sy (Sz _ _) (tuple_addW0 a b its.toArray gS.toArray n n2 dd zI sl zJ (by simp[e])) ⟨ho,nA,.ref b,H,I,rfl,q0 hx⟩
 exact Jd pins s σ H _ _ v u Q I rx ry ⟨a,b,xs,ys,rfl,rfl,ha,hb,hx,hz,q1 hx,q2 hx⟩
def OH(h:X.K=K):wc X (Jh K):=by subst h;exact eQ
def afA(h:X.K=K):dN X (compareOp .In) (Jn K false):=by subst h;exact Jo
def Ba(h:X.K=K)(he:PE X e ta)(hb:attributeBase e f X.env (eval e X.env)=eval e X.env):PE X (.Attribute e f pos) (IJ K ta f):=by subst h;exact aV he hb
inductive OI(C:Addr)(ns:List Str)(vs:List V)(H:Hp)(Q:VK):Prop
 |mk:∀(p dx:Addr) (xs:List V),vs= .ref p::xs->xs.length=ns.length->H p=some (.ins C dx [])->Q .aQ (upd H p (.ins C dx (ns.zip xs)))->OI C ns vs H Q
def uX(C:Addr)(ns:List Str):Sp:=λvs H Q _=>OI C ns vs H Q
abbrev aR(l:List Nat):List V:=l.map λ(n:Nat)=>V.int (n:Int)
def afB(T:Txt w K mg A0):cK P w K mg base A0.route "__init__" 1 ["self","start","sections","heading"] (uX A0.route ["start","sections","heading"]):=by
 refine dY ["self","start","sections","heading"] T.ac8 T.lO ?_ (len:=λvs H Q E h=>by obtain⟨p,dx,xs,rfl,hl,_⟩:=h;simp[*]);rintro nD f aU A outer s H vs Q E hr ⟨p,dx,xs,rfl,hl,hp,k⟩;rcases xs with _|⟨x,_|⟨y,_|⟨z,_|⟨_,_⟩⟩⟩⟩<;>cases hl;refine⟨_,(aF (dH (pv 0) (pv 1) rfl) (aF (dH (pv 0) (pv 2) rfl) (aH (dH (pv 0) (pv 3) rfl)))),?_⟩;try dsimp only[bc,Cx.bf]
 refine iS ?_;intro _ _;refine⟨_,rfl,_,rfl,p,_,dx,_,rfl,hp,T.lO,T.AQ,by simp[*],?_⟩;refine⟨_,rfl,_,rfl,p,_,dx,_,rfl,aA,T.lO,T.AR,by show 1<1000;decide,?_⟩;refine⟨_,rfl,_,rfl,p,_,dx,_,rfl,aA,T.lO,T.Nw,by show 2<1000;decide,?_⟩;rw[e8,e8];exact k
def sF(H:Hp)(w:Way)(v:V):Prop:=∃a s l,v= .ref a/\H a=some (.tup [.ref s,.ref l])/\H s=some (.tup (aR w.1))/\H l=some (.tup (cV w.2))
def sF.mono{H H':Hp}{w:Way}{v:V}(h:sF H w v)(s:∀b xs,H b=some (.tup xs)->H' b=some (.tup xs)):sF H' w v:=by obtain⟨a,t,l,e,h1,h2,h3⟩:=h;exact⟨a,t,l,e,s _ _ h1,s _ _ h2,s _ _ h3⟩
inductive OJ(A0:aL)(vs:List V)(H:Hp)(Q:VK):Prop
 |mk:∀(a:PA) (R:Plan) (n:Nat) (s l:Addr) (ss:List Nat) (lv:Spot),vs=[.ref a.p,.ref s,.ref l]->bJ A0 H a R->d9 R n->H s=some (.tup (aR ss))->ss≠[]->ss.length<=1000->H l=some (.tup (cV lv))->(∀H' p us,ax H H'->H p=none->H' p=some (.lst us)->Paired (sF H') (fG R ss lv) us->Q (.ref p) H')->OJ A0 vs H Q
def afC(K:aa)(A0:aL):Sp:=λvs H Q _=>OJ A0 vs H Q
def OK(n:Nat)(l:List Nat):lq (.int (n:Int)) (aR l)=l.contains n:=by
 unfold lq aR;rw[yW];rw[oH,B_,Hw,iK];constructor
 ·rintro⟨x,hx,e⟩
  have e':((x:Int)==(n:Int))=true:=e;have:x=n:=by exact_mod_cast (tH.mp e')
  simp_all
 intro h;exact⟨n,h,by show((n:Int)==(n:Int))=true;simp⟩
def Fu(W:d9 R n)(h:R.partner x=some y):R.isEnd y=true:=by
 unfold Plan.partner at h;obtain⟨j,hj,e⟩:=SI h;obtain⟨h1,h2⟩:=W.uT j hj;split at e
 ·rw[<-bC e];exact h2
 simp_all
def OL(T:Txt w K mg A0):b9 P w K mg base "ways_on" 2 ["plan","sections","leaving"] (afC K A0):=by
 refine cg ["plan","sections","leaving","entered","further","digit"] T.ac9 ?_;rintro nD f aU A outer s H vs Q E hr ⟨a,R,n,sA,lA,ss,lv,rfl,hP,W,hs,bO,hlen,hl,k⟩;refine⟨_,(aF (bw 3 nD (Kb (gy hr) (aV (pv 0) rfl) (pv 2) ⟨rfl,rfl,rfl,rfl⟩)) (aF (bD (PW.pt (pw_or (bT qP (pv 3) eF) (pw_or1 (bT Jo (bj eQ (pv 3) aP) (pv 1) (by with_unfolding_all rfl))))) (aH (aS (cf aC))) bH) (aF (bw 4 nD (dC Jd (pv 1) (jZ (aq (bj eQ (pv 3) aP) aC)))) (aH (aS (j_ (own:=[("digit",5)]) rfl nD (XF rfl T.Nn (aq (dg (aeD T) hr (pv 0) (aq (pv 3) aC)) aC)) (i7 (by rfl)) (λ_ _ _ _ _=>(ck 5 nD)) (λ_ _ _ _ _=>j9) (λ_ _ _ _ _=>(jZ (aq (pv 4) (aq (jZ (aq (bj (OH (K:=K) rfl) (pv 3) aP) (aq (pv 5) aC))) aC)))))))))),?_⟩;try dsimp only[bc,Cx.bf]
 refine jL ?_;intro _ _ _;obtain⟨kvs,hj,Jy,hv⟩:=hP.joined;refine⟨_,rfl,a.p,_,_,_,_,rfl,hP.obj,T.c_,T.sk,uU a,a.j,rfl,.inr ⟨kvs,.inl hj⟩,_,rfl,_,fD.t (k:=bR lv) hj hl,?_⟩;unfold fG at k;cases q:R.partner lv with
 |none=>rw[(hv lv).1 q];rw[q]at k;refine⟨_,rfl,rfl,_,rfl,?_⟩;refine⟨by simp[*],λp hp=>?_⟩;exact k _ p [] (ax.new hp) hp aA .nil
 |some y=>
  obtain⟨t,h1,h2⟩:=(hv lv).2 y q;rw[h1];rw[q]at k;simp only at k;refine⟨_,rfl,rfl,_,rfl,?_⟩;show if decide (V.ref t=V.aQ)=true then _ else _;rw[b7 (by simp[*])];refine⟨_,rfl,_,_,_,_,rfl,rfl,aX.of h2,bE (j:=0) rfl,_,rfl,_,_,rfl,.inr (aX.of hs),rfl,?_,_,rfl,?_⟩
  ·rw[vB];exact l7.mpr λ_ _=>rfl
  show if lq (V.int (y.1:Int)) (aR ss)=true then _ else _;rw[OK];by_cases hc:ss.contains y.1=true
  ·rw[aD hc]at k⊢;refine⟨by simp[*],λp hp=>?_⟩;exact k _ p [] (ax.new hp) hp aA .nil
  rw[az hc]at k⊢;refine⟨_,rfl,_,rfl,_,_,_,_,rfl,rfl,aX.of h2,bE (j:=0) rfl,dM,λp1 eV=>?_⟩;have s1:ax H (upd H p1 (.tup [V.int (y.1:Int)])):=ax.new eV;have afD:aR ss≠[]:=λz=>bO (Hk.mp z);refine⟨_,_,_,_,rfl,rfl,aX.of (s1 _ _ hs),aX.of aA,afD,by rw[aT,bP];simp only[bG,dR];lia,(λz=>by simp_all),λ_ p2 dI=>?_⟩;have e2:aR ss++[V.int (y.1:Int)]=aR (ss++[y.1]):=by unfold aR;simp[*]
  rw[e2];have s2:ax H (upd (upd H p1 (.tup [V.int (y.1:Int)])) p2 (.tup (aR (ss++[y.1])))):=s1.trans (ax.new dI);generalize kJ:upd (upd H p1 (.tup [V.int (y.1:Int)])) p2 (.tup (aR (ss++[y.1])))=H2 at s2⊢;have yh:H2 p2=some (.tup (aR (ss++[y.1]))):=by rw[<-kJ];exact aA
  have hE:R.isEnd y=true:=Fu W q;refine⟨_,rfl,a.p,_,_,rfl,(hP.mono s2).obj,pQ a (by decide +kernel),_,rfl,a,R,n,t,y,rfl,hP.mono s2,W,aX.of (s2 _ _ h2),hE,λb hb=>?_⟩;refine⟨_,_,rfl,hb.sq _,λD hD=>?_⟩;rw[aT];let fw:Nat->Way:=λd=>(ss++[y.1],(y.1,d));have Aq:(Yh.outsOf (R.kindAt y.1) y.2).length<=2:=Yn.MN _ _;let Z1:Nat->Hp->Prop:=λi H'=>ax H2 H'/\∃us,H' D=some (.lst us)/\Paired (sF H') (((Yh.outsOf (R.kindAt y.1) y.2).reverse.map fw).take i) us;refine Fs (n:=(Yh.outsOf (R.kindAt y.1) y.2).length) Z1
   ⟨ax.new hD,[],aA,.nil⟩ ?_ ?_ ?_ ?_
  ·rintro i H' hi ⟨sm,us,hd,pr⟩;refine⟨hi,_,V.int (((Yh.outsOf (R.kindAt y.1) y.2)[(Yh.outsOf (R.kindAt y.1) y.2).length - 1 - i]'(by omega):Nat):Int),hb.sq _,?_⟩;rw[cb,cp (by omega)];rfl
  ·rintro H' ⟨sm,us,hd,pr⟩;exact aW _
  ·rintro i H' x H3 hi ⟨sm,us,hd,pr⟩ ⟨rfl,hx⟩
   have mF:=hx _ (hb.sq _);rw[cb]at mF;obtain⟨d,jC,rfl⟩:=jq.mp mF;have afE:((Yh.outsOf (R.kindAt y.1) y.2).reverse.map fw)[i]?=some (fw d):=by rw[cb,List.getElem?_reverse hi,jC];rfl
   have hlu:us.length<sizeLine:=by have h1:=bZ pr;rw[dQ]at h1;rw[bP];lia
   refine⟨rfl,_,rfl,_,rfl,_,_,_,_,rfl,rfl,aX.of (sm _ _ (s2 _ _ h2)),bE (j:=0) rfl,_,rfl,iq,λp3 cE=>?_⟩;refine⟨iq,λp4 fh=>?_⟩;have n3:p3≠D:=λz=>by lia
   have n4:p4≠D:=λz=>by rw[z,ay (aO n3),hd]at fh;cases fh
   have n34:p3≠p4:=λz=>by rw[<-z,aA]at fh;cases fh
   have tp:∀b xs,H3 b=some (.tup xs)->upd (upd (upd H3 p3 (.tup [V.int (y.1:Int),V.int (d:Int)])) p4 (.tup [V.ref p2,V.ref p3])) D (.lst (us++[V.ref p4])) b=some (.tup xs):=λb xs e=>by rw[ay (e9 e hd (by simp[*])),ay (bz ((ax.new cE) _ _ e) fh),ay (bz e cE)];exact e
   refine⟨us,by rw[ay (aO n4),ay (aO n3)];exact hd,hlu,λb o e=>?_,_,aA,?_⟩
   ·rw[ay (λz=>by lia),ay (bz ((ax.new cE) _ _ (sm _ _ e)) fh),ay (bz (sm _ _ e) cE)];exact sm _ _ e
   rw[dS afE];refine kX (Paired.cj pr λp v z=>z.mono tp) ⟨p4,p2,p3,rfl,?_,tp _ _ (sm _ _ yh),?_⟩
   ·rw[ay n4,aA]
   rw[ay n3,ay n34,aA]
  rintro H' ⟨sm,us,hd,pr⟩;rw[fq (by simp[*])]at pr;exact k H' D us (s2.trans sm) (s2.free hD) hd pr
open Yn (iQ)
abbrev OM(s l:Addr)(hd:Nat):List (Str×V):=[("start",.ref s),("sections",.ref l),("heading",.int hd)]
def sG(A0:aL)(H:Hp)(r:nV)(v:V):Prop:=k9 λp dx s l=>gR (v= .ref p) (H p=some (.ins A0.route dx (OM s l r.heading))) (H s=some (.tup (cV r.start))) (H l=some (.lst (aR r.sects)))
def sG.mono(h:sG A0 H r v)(s:ax H H'):sG A0 H' r v:=by obtain⟨p,dx,a,l,e,h1,h2,h3⟩:=h;exact⟨p,dx,a,l,e,s _ _ h1,s _ _ h2,s _ _ h3⟩
def jM(A0:aL)(S:List Addr)(H:Hp)(r:nV)(v:V):Prop:=k9 λp dx s l=>vM (v= .ref p) (H p=some (.ins A0.route dx (OM s l r.heading))) (H s=some (.tup (cV r.start))) (H l=some (.lst (aR r.sects))) (p∉S) (l∉S) (s∉S)
def jM.jj(h:jM A0 S H r v)(f:aG S H H'):jM A0 S H' r v:=by obtain⟨p,dx,a,l,e,h1,h2,h3,n1,n2,n3⟩:=h;exact⟨p,dx,a,l,e,f _ _ h1 n1,f _ _ h2 n3,f _ _ h3 n2,n1,n2,n3⟩
def jM.sub(h:jM A0 S H r v)(s:∀b∈S',b∈S):jM A0 S' H r v:=by obtain⟨p,dx,a,l,e,h1,h2,h3,n1,n2,n3⟩:=h;exact⟨p,dx,a,l,e,h1,h2,h3,λz=>n1 (s _ z),λz=>n2 (s _ z),λz=>n3 (s _ z)⟩
theorem ON(W:d9 R n)(h1:ss.Nodup)(h2:∀i∈ss,i<16)(h3:1<=ss.length):∀w∈fG R ss lv,xp R w/\w.1.length=ss.length+1:=by
 intro w hw;unfold fG at hw;cases q:R.partner lv with
 |none=>simp_all
 |some y=>
  rw[q]at hw;simp only at hw;have hy:=(pR.mp (Fu W q)).1;have q_:=W.dO;split at hw
  ·simp_all
  rename_i hc;obtain⟨d,_,rfl⟩:=b_.mp hw;have hn:=λz=>hc (by assumption);refine⟨⟨?_,?_,?_,hy⟩,?_⟩
  ·simp[*]
  ·show(ss++[y.1]).Nodup;rw[oN];refine⟨h1,by simp,?_⟩;grind
  ·intro i hi
   rcases gO.mp hi with hi|hi
   ·exact h2 i hi
   rw[dA.mp hi];exact cF ‹_› ‹_›
  simp[*]
theorem OO{α β:Type}{G:α->β->Prop}:∀{xs:List α} {us:List β} {u:β},Paired G xs (us++[u])->dB λys y=>fN (xs=ys++[y]) (Paired G ys us) (G y u)
 |_,[],_,.cons r .nil=>⟨[],_,rfl,.nil,r⟩
 |_,_::us,u,.cons r t=>by obtain⟨ys,y,e,h1,h2⟩:=OO t;exact⟨_::ys,y,by rw[e];rfl,.cons r h1,h2⟩
theorem Fv{α β:Type}{G:α->β->Prop}:∀{xs ys:List α} {us vs:List β},Paired G xs us->Paired G ys vs->Paired G (xs++ys) (us++vs)
 |_,_,_,_,.nil,h=>h
 |_,_,_,_,.cons r t,h=>.cons r (Fv t h)
inductive OP(A0:aL)(vs:List V)(H:Hp)(Q:VK):Prop
 |mk:∀(S:List Addr) (a:PA) (R:Plan) (n:Nat) (s:Addr) (st:Spot),vs=[.ref a.p,.ref s]->bJ A0 H a R->d9 R n->H s=some (.tup (cV st))->st.1<R.sects.length->(∀b∈S,H b≠none)->s∉S->(∀H' p us,ax H H'->H p=none->H' p=some (.lst us)->Paired (jM A0 S H') ((iQ R st).map λx=>⟨st,x.1,x.2⟩) us->Q (.ref p) H')->OP A0 vs H Q
def afH(A0:aL):Sp:=λvs H Q _=>OP A0 vs H Q
def afI(T:Txt w K mg A0):mM P w K mg base "Route" A0.route 1 ["self","start","sections","heading"] (uX A0.route ["start","sections","heading"]):=sh (afB T) T.ab6 T.ab7 T.ab5
def afJ(T:Txt w K mg A0):b9 P w K mg base "routes_from" 3 ["plan","start"] (afH A0):=by
 refine cg ["plan","start","routes","ways","way","sections","leaving"] T.ac_ ?_;rintro nD f aU A outer s H vs Q E hr ⟨S,a,R,n,sA,st,rfl,hP,W,hs,bq,OQ,yi,k⟩;refine⟨_,(aF (bw 2 nD (cf aC)) (aF (bw 3 nD (bB (OL T) hr (aq (pv 0) (aq (jZ (aq (bj eQ (pv 1) aP) aC)) (aq (pv 1) aC))))) (aF (H_ fW (IE (pv 3) (λ_=>rfl)) (aF (bw 4 nD (Vn jT PySem.F.slot_list_pop PySem.F.type_list_pop Vt (pv 3))) (aF (bw 5 nD (bj eQ (pv 4) aP)) (aF (bw 6 nD (bj eQ (pv 4) aP)) (aH (bD (gv (dg (aeH T) hr (pv 0) (aq (pv 6) aC))) (aH (i3 (jy jT vI vJ rf (pv 2) (aq (pN (afI T) hr (aq (pv 1) (aq (zH Vk rfl T.Nm abN (aq (mw CM (pv 5) (i6 aP) mr) aC)) (aq (bj eQ (pv 6) aP) aC)))) aC)))) (aH (i3 (jy jT Cd Ce we (pv 3) (aq (bB (OL T) hr (aq (pv 0) (aq (pv 5) (aq (pv 6) aC)))) aC)))))))))) (aH (aS (pv 2)))))),?_⟩;try dsimp only[bc,Cx.bf]
 refine jL ?_;intro _ _ _;have q_:=W.dO;refine⟨bL _,λar Fw=>?_⟩;have s1:ax H (upd H ar (.lst [])):=ax.new Fw;refine⟨_,rfl,_,rfl,_,_,_,_,rfl,rfl,aX.of (s1 _ _ hs),bE rfl,dM,λp1 eV=>?_⟩;have s2:ax (upd H ar (.lst [])) (upd (upd H ar (.lst [])) p1 (.tup [V.int (st.1:Int)])):=ax.new eV;refine⟨_,rfl,a,R,n,p1,sA,[st.1],st,rfl,hP.mono (s1.trans s2),W,aA,by simp,by simp,(s1.trans s2) _ _ hs,λH1 aw us sm OR haw pr=>?_⟩;have Fx:ar≠aw:=λz=>by rw[<-z,s2 _ _ aA]at OR;simp_all
 have sH:=(s1.trans s2).trans sm;have afL:=sm _ _ (s2 _ _ aA);have OS:=(s1.trans s2).free OR;refine⟨λm σ H'=>tR λ(v4 v5 v6:Option V) (stack:List Way) (us rs:List V) (acc:List (List Nat×Nat))=>Cm (σ=[some (.ref a.p),some (.ref sA),some (.ref ar),some (.ref aw),v4,v5,v6]) (m=weigh stack) (ax H H') (H' aw=some (.lst us)) (Paired (sF H') stack us) (uM R stack) (H' ar=some (.lst rs)) (Paired (jM A0 (ar::aw::S) H') (acc.map λx=>⟨st,x.1,x.2⟩) rs) (acc++stack.reverse.flatMap (λw=>fH R (19 - w.1.length) w)=iQ R st),?_,?_⟩
 ·have wo:=ON (lv:=st) W (ss:=[st.1]) (by simp) (by intro i hi;rw[dA.mp hi];exact cF ‹_› ‹_›) (by simp)
  refine⟨_,none,none,none,fG R [st.1] st,us,[],[],rfl,rfl,sH,haw,pr,⟨λw hw=>(wo w hw).1,λi w hw=>?_⟩,afL,.nil,?_⟩
  ·have h2:=Yn.xo (P:=R) [st.1] st;have h3:=(wo w (d_ hw)).2;have:=(dq.mp hw).1;rw[h3];simp only[bG,dR];exact cF ‹_› ‹_›
  rw[B0];have fm:∀(l:List Way) (f f':Way->List (List Nat×Nat)),(∀z∈l,f z=f' z)->l.flatMap f=l.flatMap f':=by
   intro l f f' h;induction l with
   |nil=>rfl
   |cons a r uG=>simp_all
  refine fm _ _ _ λz hz=>?_;rw[(wo z (List.mem_reverse.mp hz)).2];rfl
 rintro m σ H' ⟨v4,v5,v6,stack,us,rs,acc,rfl,rfl,Fy,hw,pw,so,Bb,om,eq⟩;refine⟨_,rfl,_,.inl ⟨us,aB.of hw,rfl⟩,?_⟩;have key:(acc++stack.reverse.flatMap (λw=>fH R (19 - w.1.length) w)).length<=262144:=by rw[eq];exact Yn.AF st
 have akB:rs.length<=262144:=by have h1:=bZ om;rw[aT]at h1;rw[cX]at key;lia
 cases dU:us with
 |nil=>rw[dU]at pw;cases pw;refine⟨_,rfl,?_⟩;rw[List.reverse_nil,Cf,kU]at eq;rw[<-eq]at k;exact k H' ar rs Fy Fw Bb (Paired.cj om λ_ _ z=>z.sub λb hb=>bU _ (bU _ hb))
 |cons u0 ur=>
  obtain⟨oo,u,eu⟩:=Ft (l:=us) (by lia);rw[<-dU];have bO:(!us.isEmpty)=true:=by rw[dU];rfl
  rw[bO];refine bA ?_;rw[eu]at pw;obtain⟨kK,wy,OT,Fz,pwy⟩:=OO pw;subst OT;obtain⟨ya,ys,yl,rfl,y1,y2,y3⟩:=pwy;have pV:=so.each wy (by simp);have hhi:=so.high kK.length wy (by simp);have rK:=pV.dO;refine⟨λσ' kL=>∃m',m'<weigh (kK++[wy])/\tR λ(v4 v5 v6:Option V) (stack:List Way) (us rs:List V) (acc:List (List Nat×Nat))=>Cm (σ'=[some (.ref a.p),some (.ref sA),some (.ref ar),some (.ref aw),v4,v5,v6]) (m'=weigh stack) (ax H kL) (kL aw=some (.lst us)) (Paired (sF kL) stack us) (uM R stack) (kL ar=some (.lst rs)) (Paired (jM A0 (ar::aw::S) kL) (acc.map λx=>⟨st,x.1,x.2⟩) rs) (acc++stack.reverse.flatMap (λw=>fH R (19 - w.1.length) w)=iQ R st),λσ' kL q=>q,?_⟩;have afN:us[us.length - 1]?=some (V.ref ya):=by rw[eu];simp
  refine⟨_,rfl,.inl ⟨rfl,_,aB.of hw⟩,aw,us,V.ref ya,rfl,rfl,hw,afN,?_⟩;have edl:us.dropLast=oo:=by rw[eu];simp
  rw[edl];generalize kJ:upd H' aw (.lst oo)=H2;have mQ:∀b xs,H' b=some (.tup xs)->H2 b=some (.tup xs):=λb xs e=>by rw[<-kJ,ay (e9 e hw (by lia))];exact e
  have sI:ax H H2:=λb o e=>by rw[<-kJ,ay (bz e OS)];exact Fy b o e
  have uY:H2 aw=some (.lst oo):=by rw[<-kJ];exact aA
  have kM:H2 ar=some (.lst rs):=by rw[<-kJ,ay Fx];exact Bb
  have bF:aG (ar::aw::S) H' H2:=by rw[<-kJ];exact aG.upd (by simp)
  obtain⟨fl,sJ⟩:∃fl,19 - wy.1.length=fl+1:=⟨18 - wy.1.length,by grind⟩;have afP:fH R (19 - wy.1.length) wy=if R.stops wy.2=true then [(wy.1.tail,wy.2.2)]else(fG R wy.1 wy.2).reverse.flatMap (fH R fl):=by rw[sJ];rfl
  rw[List.reverse_append,List.reverse_cons,List.reverse_nil,B0,qE,f9,Cf,kU,afP]at eq;refine⟨_,rfl,_,_,_,_,rfl,rfl,aX.of (mQ _ _ y1),bE rfl,?_⟩;refine⟨_,rfl,_,_,_,_,rfl,rfl,aX.of (mQ _ _ y1),bE rfl,?_⟩;refine⟨_,rfl,a.p,_,_,rfl,(hP.mono sI).obj,pQ a (by decide +kernel),_,rfl,a,R,n,yl,wy.2,rfl,hP.mono sI,W,mQ _ _ y3,pV.lv,_,rfl,?_⟩;have Bc:uM R kK:=⟨λw hw=>so.each w (BO _ hw),λi w hi=>so.high i w (by rw[tI (dq.mp hi).1];exact hi)⟩;have OU:weigh (kK++[wy])=weigh kK+3 ^(19 - wy.1.length):=by rw[Yn.MP];unfold weigh;simp
  refine eC (λb4=>?_) (λb4=>?_)
  ·rw[aD b4]at eq
   refine⟨_,rfl,.inl ⟨rfl,_,aB.of kM⟩,_,rfl,_,rfl,_,rfl,_,_,rfl,aX.of (mQ _ _ y2),?_,λp3 cE=>?_⟩
   ·rintro⟨z,_⟩
    have h2:=pV.two;have e1:HT.ba (aR wy.1).length 0 (some 1)=min 1 wy.1.length:=by rw[aT];exact HT.qY _ _ 1
    rw[e1]at z;simp_all
   have jg:f_ (aR wy.1) (some 1) none=aR wy.1.tail:=by
    have h2:=pV.two;cases q:wy.1 with
    |nil=>rw[q]at h2;simp at h2
    |cons x r=>exact EW _ _
   rw[jg];have s3:ax H2 (upd H2 p3 (.tup (aR wy.1.tail))):=ax.new cE;refine⟨_,_,rfl,.inr (aX.of aA),λl3 jN=>?_⟩;have s4:ax H2 (upd (upd H2 p3 (.tup (aR wy.1.tail))) l3 (.lst (aR wy.1.tail))):=s3.trans (ax.new jN);refine⟨_,rfl,_,_,_,_,rfl,rfl,aX.of (s4 _ _ (mQ _ _ y3)),bE rfl,?_⟩;intro x dx nx da lP;refine⟨x,dx,_,rfl,rfl,aA,rfl,?_⟩;rw[e8];generalize jk:upd (upd H2 p3 (.tup (aR wy.1.tail))) l3 (.lst (aR wy.1.tail))=H4 at s4 nx da⊢;have Bd:H4 l3=some (.lst (aR wy.1.tail)):=by rw[<-jk];exact aA
   generalize sL:upd (upd H4 dx (.own x)) x (.ins A0.route dx _)=H5;have s5:ax H4 H5:=λb o e=>by rw[<-sL,ay (bz e nx),ay (bz e da)];exact e
   have kN:=s4.trans s5;refine⟨ar,rs,_,rfl,rfl,kN _ _ kM,by rw[bP];lia,?_⟩;have fP:aG (ar::aw::S) H' (upd H5 ar (.lst (rs++[V.ref x]))):=bF.trans ((aG.of kN).trans (aG.upd (by simp)));have OV:l3∉(ar::aw::S):=λz=>by
    simp only[be]at z;rcases z with z|z|z
    ·rw[z,s3 _ _ kM]at jN;cases jN
    ·rw[z,s3 _ _ uY]at jN;cases jN
    exact OQ _ z ((sI.trans s3).free jN)
   have OW:x∉(ar::aw::S):=λz=>by
    simp only[be]at z;rcases z with z|z|z
    ·rw[z,s4 _ _ kM]at nx;cases nx
    ·rw[z,s4 _ _ uY]at nx;cases nx
    exact OQ _ z ((sI.trans s4).free nx)
   have nsS:sA∉(ar::aw::S):=λz=>by
    simp only[be]at z;rcases z with z|z|z
    ·simp_all
    ·simp_all
    exact yi z
   have yj:∀b xs,H' b=some (.tup xs)->upd H5 ar (.lst (rs++[V.ref x])) b=some (.tup xs):=λb xs e=>by rw[ay (e9 (kN _ _ (mQ _ _ e)) (kN _ _ kM) (by simp[*]))];exact kN _ _ (mQ _ _ e)
   refine⟨weigh kK,by rw[OU];have:=Nat.pow_pos (n:=19 - wy.1.length) (show 0<3 by decide);simp_all,_,_,_,kK,oo,rs++[V.ref x],acc++[(wy.1.tail,wy.2.2)],rfl,rfl,λb o e=>?_,?_,Paired.cj Fz λp v z=>z.mono yj,Bc,aA,?_,by rw[<-eq,tN]⟩
   ·rw[ay (bz e Fw)];exact kN _ _ (sI _ _ e)
   ·rw[ay (aO Fx)];exact kN _ _ uY
   rw[ft];refine kX (Paired.cj om λp v z=>z.jj fP) ⟨x,dx,sA,l3,rfl,?_,?_,?_,OW,OV,nsS⟩
   ·rw[ay (λz=>OW (by rw[z];simp)),<-sL];exact aA
   ·exact yj _ _ (Fy _ _ hs)
   rw[ay (λz=>OV (by rw[z];simp))];exact s5 _ _ Bd
  rw[az b4]at eq;have wo:=ON (lv:=wy.2) W pV.nd pV.inn (by have:=pV.two;exact gN ‹_›);refine⟨_,rfl,.inl ⟨rfl,_,aB.of uY⟩,_,rfl,_,rfl,_,rfl,a,R,n,ys,yl,wy.1,wy.2,rfl,hP.mono sI,W,mQ _ _ y2,by have:=pV.two;intro z;rw[z]at this;simp at this,by lia,mQ _ _ y3,λH3 p3 oq s3 afR cE yk=>?_⟩;have n3:p3≠aw:=λz=>by simp_all
  have l3:=bZ yk;have l3':=Yn.xo (P:=R) wy.1 wy.2;have hs0:=Bc.dO;have lp0:=bZ Fz;refine⟨aw,p3,oo,oq,rfl,rfl,s3 _ _ uY,cE,by rw[bP];lia,?_⟩;have fP:aG (ar::aw::S) H' (upd H3 aw (.lst (oo++oq))):=bF.trans ((aG.of s3).trans (aG.upd (by simp)));have yj:∀b xs,H3 b=some (.tup xs)->upd H3 aw (.lst (oo++oq)) b=some (.tup xs):=λb xs e=>by rw[ay (e9 e (s3 _ _ uY) (by simp[*]))];exact e
  refine⟨weigh (kK++fG R wy.1 wy.2),by rw[OU,Yn.MP];have:=Yn.aaj (P:=R) (lv:=wy.2) rK;simp_all,_,_,_,kK++fG R wy.1 wy.2,oo++oq,rs,acc,rfl,rfl,λb o e=>?_,aA,?_,⟨?_,?_⟩,?_,Paired.cj om λp v z=>z.jj fP,?_⟩
  ·rw[ay (bz e OS)];exact s3 _ _ (sI _ _ e)
  ·exact Fv (Paired.cj Fz λp v z=>z.mono λb xs e=>yj _ _ (s3 _ _ (mQ _ _ e))) (Paired.cj yk λp v z=>z.mono yj)
  ·intro w hw
   rcases gO.mp hw with hw|hw
   ·exact Bc.each w hw
   exact(wo w hw).1
  ·intro i w hi
   by_cases bq:i<kK.length
   ·rw[tI bq]at hi;exact Bc.high i w hi
   rw[BS (by simp_all)]at hi;have h1:=(wo w (d_ hi)).2;have h2:=(dq.mp hi).1;grind
  ·rw[ay Fx];exact s3 _ _ kM
  rw[<-eq,List.reverse_append,qE];congr 2;have fm:∀(l:List Way) (f f':Way->List (List Nat×Nat)),(∀z∈l,f z=f' z)->l.flatMap f=l.flatMap f':=by
   intro l f f' h;induction l with
   |nil=>rfl
   |cons a r uG=>rw[f9,f9,h a cT,uG λz hz=>h z (bU _ hz)]
  refine fm _ _ _ λz hz=>?_;rw[(wo z (List.mem_reverse.mp hz)).2];congr 1;grind
open Yh (Places)
open Yn (Mv)
def OX{X:Cx}{K:aa}{x y:Str}{p q pos:Pos}{k:Nat}{t:nj}(h:X.K=K)(hc:X.calm=true)(hp:vZ X [.Name x p,.Name y q] t):PG X (.Tuple [.Name x p,.Name y q] k pos) (HV K 2 t):=by subst h;exact nr hc hp rfl rfl
def cut(S:List Addr)(H:Hp):Hp:=λa=>if a∈S then none else H a
def cu(S:List Addr)(H:Hp):Prop:=∀a∈S,H a≠none
def b6(h:a∉S):cut S H a=H a:=by unfold cut;rw[az h]
def lQ(h:a∈S):cut S H a=none:=by unfold cut;rw[aD h]
def cG(h:cut S H a=some o):a∉S/\H a=some o:=by
 by_cases q:a∈S
 ·rw[lQ q]at h;cases h
 rw[b6 q]at h;exact⟨q,h⟩
def aJ:ax (cut S H) H:=λb u e=>(cG e).2
def bN(s:ax H H'):ax (cut S H) (cut S H'):=λb u e=>by obtain⟨n,e⟩:=cG e;rw[b6 n];exact s _ _ e
theorem aG.cut(f:aG S H H'):ax (cut S H) (Yd.cut S H'):=λb u e=>by obtain⟨n,e⟩:=cG e;rw[b6 n];exact f _ _ e n
def ym(h:∀a∈S,a∈S'):ax (cut S' H) (cut S H):=λb u e=>by obtain⟨n,e⟩:=cG e;rw[b6 λz=>n (h _ z)];exact e
def sN(h:H D=none)(s:ax H H'):ax (cut S H) (cut (D::S) H'):=λb u e=>by obtain⟨n,e⟩:=cG e;rw[b6 (λz=>by simp_all)];exact s _ _ e
def cu.same(d:cu S H)(s:ax H H'):cu S H':=λb hb z=>d b hb (s.free z)
theorem cu.cons(d:cu S H)(h:H D=some o):cu (D::S) H:=λb hb=>by
 rcases be.mp hb with rfl|hb
 ·lia
 exact d b hb
def cu.fresh(d:cu S H)(h:H p=none):p∉S:=λz=>d p z h
def eE(d:cu S H)(h:H p=none)(e:H' p=some o):cut S H' p=some o:=by rw[b6 (d.fresh h)];exact e
def cy(c:Nat):SK:=if c=0 then none else some (bR (Yh.spotOf c))
def OY:cy 0=none:=rfl
def sO(h:c≠0):cy c=some (bR (Yh.spotOf c)):=az h
def afS(h:x.2<2):cy (Yh.codeOf x)=some (bR x):=by rw[sO (Yn.Zr x),Yn.rP h]
def pW(h:cy c=cy d):c=d:=by
 by_cases hc:c=0
 ·by_cases hd:d=0
  ·rw[hc,hd]
  rw[hc,OY,sO hd]at h;cases h
 by_cases hd:d=0
 ·rw[hd,OY,sO hc]at h;cases h
 rw[sO hc,sO hd]at h;exact Yn.Zs hc hd (pP.mp (bC h))
theorem ou{α β:Type}{f:α->β}(h:∀a b,f a=f b->a=b):∀{l m:List α},l.map f=m.map f->l=m
 |[],[],_=>rfl
 |[],_::_,e=>by cases e
 |_::_,[],e=>by cases e
 |a::l,b::m,e=>by rw[cA,cA]at e;injection e with e1 e2;rw[h a b e1,ou h e2]
theorem Paired.get{α β:Type}{G:α->β->Prop}:∀{xs:List α} {us:List β} {i:Nat} {x:α},Paired G xs us->xs[i]?=some x->∃u,us[i]?=some u/\G x u
 |_,_,0,_,.cons r _,h=>⟨_,rfl,by simp_all⟩
 |_,_,i+1,_,.cons _ t,h=>by rw[vH]at h;rw[vH];exact Paired.get t h
theorem Paired.get'{α β:Type}{G:α->β->Prop}:∀{xs:List α} {us:List β} {i:Nat} {u:β},Paired G xs us->us[i]?=some u->∃x,xs[i]?=some x/\G x u
 |_,_,0,_,.cons r _,h=>⟨_,rfl,by simp_all⟩
 |_,_,i+1,_,.cons _ t,h=>by rw[vH]at h;rw[vH];exact Paired.get' t h
theorem Paired.set{α β:Type}{G:α->β->Prop}{x:α}{u:β}(r:G x u):∀{xs:List α} {us:List β} {i:Nat},Paired G xs us->Paired G (xs.set i x) (us.set i u)
 |_,_,_,.nil=>by rw[List.set_nil,List.set_nil];exact .nil
 |_,_,0,.cons _ t=>.cons r t
 |_,_,i+1,.cons r' t=>.cons r' (Paired.set r t)
theorem Paired.OZ{α β γ:Type}{G:α->β->Prop}{f:γ->α}:∀{xs:List γ} {us:List β},Paired G (xs.map f) us->Paired (λx u=>G (f x) u) xs us
 |[],_,.nil=>.nil
 |_::_,_,.cons r t=>.cons r (Paired.OZ t)
theorem Paired.O0{α β γ:Type}{G:α->β->Prop}{f:γ->α}:∀{xs:List γ} {us:List β},Paired (λx u=>G (f x) u) xs us->Paired G (xs.map f) us
 |[],_,.nil=>.nil
 |_::_,_,.cons r t=>.cons r (Paired.O0 t)
def gz.mono(r:gz H ks a)(s:ax H H'):gz H' ks a:=r.dG λ_ _ e=>s _ _ e
def gc.mono(r:gc H k v)(s:ax H H'):gc H' k v:=r.dG λ_ _ e=>s _ _ e
abbrev jO(H:Hp)(c:Nat)(v:V):Prop:=gc H (cy c) v
def yn(r:jO H c v):decide (v= .aQ)=decide (c=0):=by
 by_cases h:c=0
 ·subst h;obtain rfl:v= .aQ:=r;rfl
 unfold jO at r;rw[sO h]at r;obtain⟨b,rfl,_⟩:=r;simp[*]
def sP(r:jO H c v)(h:c≠0):∃b,v= .ref b/\H b=some (.tup (cV (Yh.spotOf c))):=by unfold jO at r;rw[sO h]at r;exact r
def FA(h:x.2<2)(e:H b=some (.tup (cV x))):jO H (Yh.codeOf x) (.ref b):=by unfold jO;rw[afS h];exact⟨b,rfl,e⟩
def StandsAt(H:Hp)(p:Places)(a:Addr):Prop:=gz H (p.map cy) a
theorem StandsAt.mono(r:StandsAt H p a)(s:ax H H'):StandsAt H' p a:=gz.mono r s
def StandsAt.ex{H:Hp}{p:Places}{a:Addr}(r:StandsAt H p a):∃vs,H a=some (.tup vs)/\Paired (jO H) p vs:=by obtain⟨vs,h,q⟩:=r;exact⟨vs,h,Paired.OZ (f:=cy) q⟩
def StandsAt.of{H:Hp}{p:Places}{a:Addr}{vs:List V}(h:H a=some (.tup vs))(q:Paired (jO H) p vs):StandsAt H p a:=⟨vs,h,Paired.O0 q⟩
abbrev uZ(t w:Nat)(st l d:Addr)(n:Nat):List (Str×V):=[("train",.int t),("what",.int w),("stands",.ref st),("through",.ref l),("frees",.ref d),("lasts",.int n)]
structure afT(A0:aL)(H:Hp)(mv:Mv)(p dx st l d:Addr):Prop where
 obj:H p=some (.ins A0.move dx (uZ mv.train mv.what st l d mv.bS))
 stands:StandsAt H mv.to st
 through:H l=some (.lst (aR mv.through))
 short:mv.through.length<=17
 frees:∃kvs,H d=some (.dK kvs)/\∀i:Nat,cI kvs (Sum.inl (i:Int))=(Yn.cD mv.frees i).map λ(n:Nat)=>V.int n
def f7(A0:aL)(H:Hp)(mv:Mv)(v:V):Prop:=∃p dx st l d,v= .ref p/\afT A0 H mv p dx st l d
theorem f7.mono(h:f7 A0 H mv v)(s:ax H H'):f7 A0 H' mv v:=by obtain⟨p,dx,st,l,d,e,h1,h2,h3,h6,kvs,h4,h5⟩:=h;exact⟨p,dx,st,l,d,e,s _ _ h1,h2.mono s,s _ _ h3,h6,kvs,s _ _ h4,h5⟩
def fi{α:Type}(G:α->V->Prop):Option α->V->Prop
 |none,v=>v= .aQ
 |some x,v=>G x v
def fi.mono{α:Type}{G G':α->V->Prop}{o:Option α}{v:V}(h:fi G o v)(f:∀x,G x v->G' x v):fi G' o v:=by
 cases o with
 |none=>exact h
 |some x=>exact f x h
abbrev FC(st m b:Addr)(n:Nat):List (Str×V):=[("stands",.ref st),("moves",.ref m),("begins",.ref b),("done",.int n)]
structure afU(A0:aL)(H:Hp)(x:Yn.aN)(p dx st m b:Addr):Prop where
 obj:H p=some (.ins A0.row dx (FC st m b x.done))
 stands:StandsAt H x.at_ st
 moves:∃us,H m=some (.lst us)/\Paired (f7 A0 H) (x.h.map (·.1)) us
 begins:H b=some (.lst (aR (x.h.map (·.2))))
def dj(A0:aL)(H:Hp)(x:Yn.aN)(v:V):Prop:=Cj λp dx st m b=>v= .ref p/\afU A0 H x p dx st m b
theorem dj.mono(h:dj A0 H x v)(s:ax H H'):dj A0 H' x v:=by obtain⟨p,dx,st,m,b,e,h1,h2,⟨us,h3,h4⟩,h5⟩:=h;exact⟨p,dx,st,m,b,e,s _ _ h1,h2.mono s,⟨us,s _ _ h3,Paired.cj h4 λ_ _ q=>q.mono s⟩,s _ _ h5⟩
structure YA where
 y:Addr
 dx:Addr
 p:PA
 r:Addr
 st:Addr
 tt:Addr
 rt:Addr
def YA.L(a:YA):List Addr:=[a.y,a.st,a.tt,a.rt]
def gU(a:YA):List (Str×V):=[("plan",.ref a.p.p),("routes",.ref a.r),("stands",.ref a.st),("section_times",.ref a.tt),("ready_times",.ref a.rt)]
def pX(P:Plan)(r:Yh.Route):nV:=⟨Yn.jf P r,r.sects,r.rests.2⟩
open Wqatdq (State)
structure dk(A0:aL)(H:Hp)(a:YA)(s:State):Prop where
 obj:H a.y=some (.ins A0.aZ a.dx (gU a))
 nd:a.L.Nodup
 plan:∃P0 n,bJ A0 (cut a.L H) a.p P0/\d9 P0 n/\s.plan=P0.form
 routes:∃us,cut a.L H a.r=some (.lst us)/\Paired (sG A0 (cut a.L H)) (s.routes.map (pX s.plan)) us
 stands:∃us,H a.st=some (.lst us)/\Paired (jO (cut a.L H)) s.at_ us
 times:H a.tt=some (.lst (aR s.takes))
 ready:H a.rt=some (.lst (aR s.ready))
 good:Yn.Good s
 sig:Yn.uL s.plan s.routes
 dO:s.routes.length<=64
 sQ:s.plan.sects.length<=16
 short:∀r∈s.routes,r.sects.length<=17
theorem dk.mono(h:dk A0 H a s)(e:ax H H'):dk A0 H' a s where
 obj:=e _ _ h.obj
 nd:=h.nd
 plan:=let⟨P0,n,h1,h2⟩:=h.plan;⟨P0,n,h1.mono (bN e),h2⟩
 routes:=let⟨us,h1,h2⟩:=h.routes;⟨us,bN e _ _ h1,Paired.cj h2 λ_ _ q=>q.mono (bN e)⟩
 stands:=let⟨us,h1,h2⟩:=h.stands;⟨us,e _ _ h1,Paired.cj h2 λ_ _ q=>gc.mono q (bN e)⟩
 times:=e _ _ h.times
 ready:=e _ _ h.ready
 good:=h.good
 sig:=h.sig
 dO:=h.dO
 sQ:=h.sQ
 short:=h.short
def Be(a:YA):(gU a).lookup ("plan":Str)=some (V.ref a.p.p):=rfl
def FD(a:YA):(gU a).lookup ("routes":Str)=some (V.ref a.r):=rfl
def Bf(a:YA):(gU a).lookup ("stands":Str)=some (V.ref a.st):=rfl
def yo(a:YA):(gU a).lookup ("section_times":Str)=some (V.ref a.tt):=rfl
def FE(a:YA):(gU a).lookup ("ready_times":Str)=some (V.ref a.rt):=rfl
def mR(a:YA)(h:m∉(["plan","routes","stands","section_times","ready_times"]:List Str)):(gU a).lookup m=none:=by simp only[be,fL,fM,not_or]at h;unfold gU;simp[*]
open Yn (cN)
def O1(h:p.getD m.1 0=0):cN P rs k p m=none:=by
 unfold cN Yh.moved;rw[l_]at h;cases q:p[m.1]? with
 |none=>rfl
 |some c=>simp_all
def afV(h:p[t]?=some c)(h0:c≠0):cN P rs k p (t,0)=some ⟨t,0,p.set t (Yh.codeOf ((Yh.spotOf c).1,1 -(Yh.spotOf c).2)),[],[],k.of (Yh.spotOf c).1⟩:=by
 have e1:Yh.moved P rs p (t,0)=some (p.set t (Yh.codeOf ((Yh.spotOf c).1,1 -(Yh.spotOf c).2))):=by unfold Yh.moved;simp[*]
 have e2:Yn.ownOf p t=(Yh.spotOf c).1:=by unfold Yn.ownOf;simp[*]
 unfold cN;rw[e1];have e3:Yn.lJ rs k p (t,0)=k.of (Yh.spotOf c).1:=by unfold Yn.lJ Yn.eS;rw[aD (by simp)];show(0+k.of (Yn.ownOf p t))=_;simp[*]
 rw[e3];rfl
def afW(h:p[t]?=some c)(h0:c≠0):cN P rs k p (t,1)=if P.isBorder (Yh.spotOf c)=true then some ⟨t,1,p.set t 0,[],[((Yh.spotOf c).1,k.of (Yh.spotOf c).1)],k.of (Yh.spotOf c).1⟩else none:=by
 have e1:Yh.moved P rs p (t,1)=if P.isBorder (Yh.spotOf c)=true then some (p.set t 0)else none:=by unfold Yh.moved;simp[*]
 have e2:Yn.ownOf p t=(Yh.spotOf c).1:=by unfold Yn.ownOf;simp[*]
 have e3:Yn.lJ rs k p (t,1)=k.of (Yh.spotOf c).1:=by unfold Yn.lJ Yn.eS;rw[aD (by simp)];show(0+k.of (Yn.ownOf p t))=_;simp[*]
 unfold cN;rw[e1];by_cases hb:P.isBorder (Yh.spotOf c)=true
 ·rw[aD hb,aD hb];unfold Yn.nP;rw[e3];rw[e2];rfl
 simp[*]
theorem afX(h:p[t]?=some c)(h0:c≠0)(hw:2<=w):cN P rs k p (t,w)=match rs[w - 2]? with
  |none=>none
  |some r=>if P.signalAt (Yh.spotOf c)=some r.signal/\(r.sects.any (Yh.inIt p))=false then some ⟨t,w,p.set t (Yh.codeOf r.rests),r.sects,((Yh.spotOf c).1::r.sects.dropLast).zip (Yh.passed k 0 r.sects),(Yh.passed k 0 r.sects).getLastD 0⟩else none:=by
 have e1:Yh.moved P rs p (t,w)=match rs[w - 2]? with
   |none=>none
   |some r=>if P.signalAt (Yh.spotOf c)=some r.signal/\(r.sects.any (Yh.inIt p))=false then some (p.set t (Yh.codeOf r.rests))else none:=by
  unfold Yh.moved;rw[h];cases c with
  |zero=>exact absurd rfl h0
  |succ c=>show(if w=0 then _ else if w=1 then _ else _)=_;rw[az (by lia),az (by lia)];cases rs[w - 2]?<;>rfl
 have e2:Yn.ownOf p t=(Yh.spotOf c).1:=by unfold Yn.ownOf;simp[*]
 unfold cN;rw[e1];cases q:rs[w - 2]? with
 |none=>rfl
 |some r=>
  simp only;have ep:Yn.eS rs p (t,w)=r.sects:=by unfold Yn.eS;rw[az (by simp[*])];simp[*]
  have et:Yn.iP rs (t,w)=r.sects:=by unfold Yn.iP;rw[az (by simp[*])];simp[*]
  have el:Yn.lJ rs k p (t,w)=(Yh.passed k 0 r.sects).getLastD 0:=by unfold Yn.lJ;rw[ep]
  have ef:Yn.nP rs k p (t,w)=((Yh.spotOf c).1::r.sects.dropLast).zip (Yh.passed k 0 r.sects):=by unfold Yn.nP;rw[az (by show¬w=0;lia),az (by show¬w=1;lia),ep];simp[*]
  simp[*]
def O3{K:aa}{H:Hp}{Q:VK}{a b:Addr}{xs ys:List V}(ha:H a=some (.tup xs))(hb:H b=some (.tup ys))(hl:xs.length+ys.length<=sizeLine)
  (k:∀r H',ax H H'->(H r=none\/(xs=[]/\r=b)\/(ys=[]/\r=a))->H' r=some (.tup (xs++ys))->Q (.ref r) H'):OF K (.ref a) (.ref b) H Q:=by
 refine⟨a,b,xs,ys,rfl,rfl,aX.of ha,aX.of hb,hl,λh=>?_,λh1 h2=>?_,λh1 h2 p hp=>?_⟩
 ·exact k b H (ax.refl _) (.inr (.inl ⟨h,rfl⟩)) (by rw[hb,h];rfl)
 ·exact k a H (ax.refl _) (.inr (.inr ⟨h2,rfl⟩)) (by simp[*])
 exact k p _ (ax.new hp) (.inl hp) aA
def O4(xs:List V)(t:Nat)(h:t<=xs.length):f_ xs none (some (t:Int))=xs.take t:=by unfold f_;rw[HT.qY];show((xs.drop 0).take (min t xs.length - 0))=_;simp[*]
def afY(xs:List V)(t:Nat)(h:t<=xs.length):f_ xs (some (t:Int)) none=xs.drop t:=by unfold f_;rw[HT.qY,vG h];show(xs.drop t).take (xs.length - t)=_;rw[fq (by simp[*])]
def afZ{α:Type}(xs:List α)(t:Nat)(v:α)(h:t<xs.length):xs.take t++[v]++xs.drop (t+1)=xs.set t v:=by rw[List.set_eq_take_append_cons_drop,aD h,tN];rfl
def af0(T:Txt w K mg A0):cK P w K mg base A0.move "__init__" 1 ["self","train","what","stands","through","frees","lasts"] (uX A0.move ["train","what","stands","through","frees","lasts"]):=by
 refine dY ["self","train","what","stands","through","frees","lasts"] T.ada T.fT ?_ (len:=λvs H Q E h=>by obtain⟨p,dx,xs,rfl,hl,_⟩:=h;rw[bG,hl];rfl);rintro nD f aU A outer s H vs Q E hr ⟨p,dx,xs,rfl,hl,hp,k⟩;rcases xs with _|⟨x1,_|⟨x2,_|⟨x3,_|⟨x4,_|⟨x5,_|⟨x6,_|⟨_,_⟩⟩⟩⟩⟩⟩⟩<;>cases hl;refine⟨_,(aF (dH (pv 0) (pv 1) rfl) (aF (dH (pv 0) (pv 2) rfl) (aF (dH (pv 0) (pv 3) rfl) (aF (dH (pv 0) (pv 4) rfl) (aF (dH (pv 0) (pv 5) rfl) (aH (dH (pv 0) (pv 6) rfl))))))),?_⟩;try dsimp only[bc,Cx.bf]
 refine Ez ?_;intro _ _ _ _ _;refine⟨_,rfl,_,rfl,p,_,dx,_,rfl,hp,T.fT,T.xG,by simp[*],?_⟩;refine⟨_,rfl,_,rfl,p,_,dx,_,rfl,aA,T.fT,T.Nr,by show 1<1000;decide,?_⟩;refine⟨_,rfl,_,rfl,p,_,dx,_,rfl,aA,T.fT,T.uN,by show 2<1000;decide,?_⟩;refine⟨_,rfl,_,rfl,p,_,dx,_,rfl,aA,T.fT,T.Nt,by show 3<1000;decide,?_⟩;refine⟨_,rfl,_,rfl,p,_,dx,_,rfl,aA,T.fT,T.Nu,by show 4<1000;decide,?_⟩;refine⟨_,rfl,_,rfl,p,_,dx,_,rfl,aA,T.fT,T.xH,by show 5<1000;decide,?_⟩;rw[e8,e8,e8,e8,e8];exact k
def af1(T:Txt w K mg A0):cK P w K mg base A0.row "__init__" 1 ["self","stands","moves","begins","done"] (uX A0.row ["stands","moves","begins","done"]):=by
 refine dY ["self","stands","moves","begins","done"] T.adb T.dz ?_ (len:=λvs H Q E h=>by obtain⟨p,dx,xs,rfl,hl,_⟩:=h;simp[*]);rintro nD f aU A outer s H vs Q E hr ⟨p,dx,xs,rfl,hl,hp,k⟩;rcases xs with _|⟨x1,_|⟨x2,_|⟨x3,_|⟨x4,_|⟨_,_⟩⟩⟩⟩⟩<;>cases hl;refine⟨_,(aF (dH (pv 0) (pv 1) rfl) (aF (dH (pv 0) (pv 2) rfl) (aF (dH (pv 0) (pv 3) rfl) (aH (dH (pv 0) (pv 4) rfl))))),?_⟩;try dsimp only[bc,Cx.bf]
 refine jL ?_;intro _ _ _;refine⟨_,rfl,_,rfl,p,_,dx,_,rfl,hp,T.dz,T.rw_stands,by simp[*],?_⟩;refine⟨_,rfl,_,rfl,p,_,dx,_,rfl,aA,T.dz,T.rw_moves,by show 1<1000;decide,?_⟩;refine⟨_,rfl,_,rfl,p,_,dx,_,rfl,aA,T.dz,T.rw_begins,by show 2<1000;decide,?_⟩;refine⟨_,rfl,_,rfl,p,_,dx,_,rfl,aA,T.dz,T.rw_done,by show 3<1000;decide,?_⟩;rw[e8,e8,e8];exact k
inductive O5(vs:List V)(H:Hp)(Q:VK):Prop
 |mk:∀(st:Addr) (t:Nat) (us:List V) (v:V),vs=[.ref st,.int t,v]->H st=some (.tup us)->t<us.length->us.length<=1000->(∀H' r,ax H H'->H r=none->H' r=some (.tup (us.set t v))->Q (.ref r) H')->O5 vs H Q
def af2:Sp:=λvs H Q _=>O5 vs H Q
def FF(T:Txt w K mg A0):b9 P w K mg base "with_stand" 1 ["stands","train","stand"] af2:=by
 refine cg ["stands","train","stand"] T.ade ?_;rintro nD f aU A outer s H vs Q E hr ⟨st,t,us,v,rfl,hs,ht,hl,k⟩;refine⟨_,(aH (aS (dC OG (dC OG (mw CM (pv 0) mr (i6 (pv 1))) (jZ (aq (pv 2) aC))) (mw CM (pv 0) (i6 (dC lj (pv 1) aP)) mr)))),?_⟩;try dsimp only[bc,Cx.bf]
 refine⟨_,rfl,_,rfl,_,rfl,_,_,rfl,aX.of hs,?_,λp1 eV=>?_⟩
 ·rintro⟨_,z⟩;rw[HT.qY,vG (gN ht)]at z;simp_all
 rw[O4 us t (gN ht)];refine⟨_,rfl,dM,λp2 dI=>?_⟩;have s1:ax H (upd H p1 (.tup (us.take t))):=ax.new eV;have s2:=s1.trans (ax.new (o:=.tup [v]) dI);refine O3 (xs:=us.take t) (ys:=[v]) (ax.new dI _ _ aA) aA (by rw[dQ,bP];simp only[bG,dR];grind) λr H3 s3 u4 h3=>?_;have n3:H r=none:=by
  rcases u4 with q|⟨_,rfl⟩|⟨q,_⟩
  ·exact s2.free q
  ·exact s1.free dI
  simp_all
 refine⟨_,rfl,_,rfl,_,_,rfl,rfl,_,rfl,_,_,rfl,aX.of ((s2.trans s3) _ _ hs),?_,λp4 fh=>?_⟩
 ·rintro⟨z,_⟩
  have e:((t:Int)+1)=((t+1:Nat):Int):=by rfl
  rw[e,HT.qY]at z;simp_all
 have e:((t:Int)+1)=((t+1:Nat):Int):=by rfl
 rw[e,afY us (t+1) ht];have s4:=s2.trans (s3.trans (ax.new (o:=.tup (us.drop (t+1))) fh));refine O3 (xs:=us.take t++[v]) (ys:=us.drop (t+1)) (ax.new fh _ _ h3) aA (by rw[cX,dQ,qt,bP];simp only[bG,dR];grind) λr5 H5 s5 FG h5=>?_;rw[afZ us t v ht]at h5;refine k H5 r5 (s4.trans s5) ?_ h5;rcases FG with q|⟨q,_⟩|⟨_,rfl⟩
 ·exact s4.free q
 ·simp_all
 exact n3
def sR(p:Places)(ss:List Nat):Bool:=p.any λc=>!decide (c=0)&&ss.contains (Yh.spotOf c).1
theorem held_eq(p:Places)(ss:List Nat):ss.any (Yh.inIt p)=sR p ss:=by rw[oH];unfold sR Yh.inIt;rw[B_,B_];grind
inductive O6(vs:List V)(H:Hp)(Q:VK):Prop
 |mk:∀(st l:Addr) (p:Places) (ss:List Nat),vs=[.ref st,.ref l]->StandsAt H p st->p.length=3->H l=some (.lst (aR ss))->(∀H',ax H H'->Q (.bl (sR p ss)) H')->O6 vs H Q
def af3:Sp:=λvs H Q _=>O6 vs H Q
def af4(T:Txt w K mg A0):b9 P w K mg base "is_one_held" 1 ["stands","sections"] af3:=by
 refine cg ["stands","sections","stand"] T.adf ?_;rintro nD f aU A outer s H vs Q E hr ⟨st,l,p,ss,rfl,hs,h3,hl,k⟩;obtain⟨us,hs,pu⟩:=hs.ex;refine⟨_,(aH (aS (cR (JD rfl) rfl T.Np M7 (aq (j_ (own:=[("stand",2)]) rfl nD (T_ (pv 0)) (i7 (by rfl)) (λ_ _ _ _ _=>(ck 2 nD)) (λ_ _ _ _ _=>j9) (λ_ _ _ _ _=>(jW (hG oX (pv 2) eF (g_ _)) (iN (hG (afA (K:=K) rfl) (bj (OH (K:=K) rfl) (pv 2) aP) (pv 1) (by with_unfolding_all rfl)))))) aC)))),?_⟩;try dsimp only[bc,Cx.bf]
 refine⟨_,rfl,_,rfl,⟨us,aX.of hs⟩,λD hD=>?_⟩;have lu:p.length=us.length:=bZ pu;let g:Nat->Bool:=λc=>!decide (c=0)&&ss.contains (Yh.spotOf c).1;let Z1:Nat->Hp->Prop:=λi H'=>ax H H'/\H' D=some (.lst (((p.map g).take i).map V.bl));refine V7 (K:=K) (a:=st) (xs:=us) Z1 ⟨ax.new hD,aA⟩ (λi H' _ q=>aX.of (q.1 _ _ hs)) ?_ ?_
 ·rintro i x H' hx ⟨sm,hd⟩
  obtain⟨c,hc,rc⟩:=Paired.get' pu hx;have hpg:(p.map g)[i]?=some (g c):=by rw[cb,hc];rfl
  have fin:∀b,b=g c->∃acc,H' D=some (.lst acc)/\acc.length<sizeLine/\(ax H (upd H' D (.lst (acc++[V.bl b])))/\(upd H' D (.lst (acc++[V.bl b]))) D=some (.lst (((p.map g).take (i+1)).map V.bl))):=by
   rintro b rfl;refine⟨_,hd,by rw[aT,dQ,aT,bP];lia,λb o e=>?_,?_⟩
   ·rw[ay (bz e hD)];exact sm _ _ e
   rw[aA,dS hpg,ft];rfl
  refine⟨rfl,_,rfl,rfl,_,rfl,?_⟩;show if(!decide (x=V.aQ))=true then _ else _;rw[yn rc];by_cases fQ:c=0
  ·rw[cq fQ];refine fin false ?_;lia
  rw[b7 fQ];obtain⟨b,rfl,hb⟩:=sP rc fQ;refine⟨_,rfl,_,_,_,_,rfl,rfl,aX.of (sm _ _ hb),bE (j:=0) rfl,_,rfl,_,_,rfl,.inl (aB.of (sm _ _ hl)),rfl,?_,?_⟩
  ·rw[vB];exact l7.mpr λ_ _=>rfl
  refine fin _ ?_;show lq (V.int ((Yh.spotOf c).1:Int)) (aR ss)=(!decide (c=0)&&_);rw[OK,b7 fQ];rfl
 rintro H' ⟨sm,hd⟩;rw[fq (by simp_all)]at hd;refine⟨_,_,rfl,aB.of hd,?_⟩;have e:((p.map g).any id)=sR p ss:=by rw[yW];rfl
 simp[*]
structure Pre(A0:aL)(S:List Addr)(H:Hp)(a:YA)(s:State)(st:Addr)(p:Places):Prop where
 a_:cu S H
 aZ:dk A0 (cut S H) a s
 stands:StandsAt (cut S H) p st
 ok:Yn.de s.plan.sects.length p
def fI(nx:H x=none)(da:H dx=none):ax H (upd (upd H dx (.own x)) x o):=λb u e=>by rw[ay (bz e nx),ay (bz e da)];exact e
def FH{k:Yh.Takes}{i:Nat}(h:i<k.length):(aR k)[i]?=some (V.int ((k.of i:Nat):Int)):=by rw[cb,cp h];unfold Yh.Takes.of;simp[*]
theorem O7(k:Yh.Takes):∀(l:List Nat) (s i x:Nat),l[i]?=some x->(Yh.passed k s l)[i]?=some (((Yh.passed k s l).take i).getLastD s+k.of x)
 |[],_,_,_,h=>by cases h
 |y::l,s,0,x,h=>by rw[List.getElem?_cons_zero]at h;rw[<-bC h];rfl
 |y::l,s,i+1,x,h=>by rw[vH]at h;show(Yh.passed k (s+k.of y) l)[i]?=some ((((s+k.of y)::(Yh.passed k (s+k.of y) l)).take (i+1)).getLastD s+k.of x);rw[O7 k l (s+k.of y) i x h,G8,Hi]
inductive O8(A0:aL)(wh:Nat)(vs:List V)(H:Hp)(Q:VK):Prop
 |mk:∀(S:List Addr) (a:YA) (s:State) (st:Addr) (p:Places) (t c:Nat),vs=[.ref a.y,.ref st,.int t]->Pre A0 S H a s st p->p[t]?=some c->c≠0->(∀H' v,ax H H'->fi (f7 A0 (cut S H')) (cN s.plan s.routes s.takes p (t,wh)) v->Q v H')->O8 A0 wh vs H Q
def O9(A0:aL)(wh:Nat):Sp:=λvs H Q _=>O8 A0 wh vs H Q
abbrev af6(A0:aL):=uX A0.move ["train","what","stands","through","frees","lasts"]
abbrev af7:List Str:=["self","train","what","stands","through","frees","lasts"]
def FI(T:Txt w K mg A0):mM P w K mg base "Move" A0.move 1 af7 (af6 A0):=sh (af0 T) T.acf T.acg T.ace
def af8(T:Txt w K mg A0):b9 P w K mg base "turn_of" 3 ["yard","stands","train"] (O9 A0 0):=by
 refine cg ["yard","stands","train","section","turned"] T.adg ?_;rintro nD f aU A outer s H vs Q E hr ⟨S,a,s,st,p,t,c,rfl,pre,hc,h0,k⟩;refine⟨_,(aF (bw 3 nD (bj eQ (bj eQ (pv 1) (pv 2)) aP)) (aF (bw 4 nD (jZ (aq (pv 3) (aq (dC jY aP (bj eQ (bj eQ (pv 1) (pv 2)) aP)) aC)))) (aH (aS (pN (FI T) hr (aq (pv 2) (aq (cM T.EJ rfl) (aq (bB (FF T) hr (aq (pv 1) (aq (pv 2) (aq (pv 4) aC)))) (aq (cf aC) (aq zV (aq (bj cH (aV (pv 0) rfl) (pv 3)) aC))))))))))),?_⟩;try dsimp only[bc,Cx.bf]
 refine iS ?_;intro _ _;obtain⟨us,hs,pu⟩:=pre.stands.ex;obtain⟨u,hu,ru⟩:=Paired.get pu hc;obtain⟨b,rfl,hb⟩:=sP ru h0;have yp:=bZ pu;rw[pre.ok.len]at yp;have dE:t<us.length:=(dq.mp hu).1;have hi:=pre.ok.inn t c hc h0;have gf:(Yh.spotOf c).1<s.takes.length:=by rw[pre.aZ.good.pG];exact hi
 have h2:=Yn.rQ c;have e1:(1:Int) -((Yh.spotOf c).2:Int)=((1 -(Yh.spotOf c).2:Nat):Int):=by grind
 refine⟨_,rfl,_,rfl,_,_,_,_,rfl,rfl,aX.of (aJ _ _ hs),bE hu,_,_,_,_,rfl,rfl,aX.of (aJ _ _ hb),bE (j:=0) rfl,?_⟩;refine⟨_,rfl,_,rfl,_,rfl,_,_,_,_,rfl,rfl,aX.of (aJ _ _ hs),bE hu,_,_,_,_,rfl,rfl,aX.of (aJ _ _ hb),bE (j:=1) rfl,_,_,rfl,rfl,iq,λp1 eV=>?_⟩;have ev:([V.int ((Yh.spotOf c).1:Int),V.int ((1:Int) -((Yh.spotOf c).2:Int))]:List V)=cV ((Yh.spotOf c).1,1 -(Yh.spotOf c).2):=by rw[e1]
 have s1:=ax.new (o:=.tup [V.int ((Yh.spotOf c).1:Int),V.int ((1:Int) -((Yh.spotOf c).2:Int))]) eV;refine⟨_,rfl,_,rfl,_,rfl,_,rfl,st,t,us,_,rfl,s1 _ _ (aJ _ _ hs),dE,by lia,λH2 r s2 kO kM=>?_⟩;refine⟨by simp[*],λp3 cE=>?_⟩;intro p4 fh;have s4:=(s1.trans s2).trans ((ax.new (o:=.lst []) cE).trans (ax.new (o:=.dK []) fh));refine⟨_,rfl,a.y,_,_,_,_,rfl,s4 _ _ (aJ _ _ pre.aZ.obj),T.di,T.uP,yo a,_,rfl,_,_,_,_,rfl,rfl,aB.of (s4 _ _ (aJ _ _ pre.aZ.times)),bE (FH gf),?_⟩;intro x dx nx da lP;refine⟨x,dx,_,rfl,rfl,aA,rfl,?_⟩;rw[e8];generalize jk:upd (upd H2 p3 (.lst [])) p4 (.dK [])=H4 at s4 nx da⊢;have s5:=s4.trans (fI (o:=.ins A0.move dx (uZ t 0 r p3 p4 (s.takes.of (Yh.spotOf c).1))) nx da);have yq:ax H2 _:=((ax.new (o:=.lst []) cE).trans (ax.new (o:=.dK []) fh)).trans (by rw[jk];exact fI (o:=.ins A0.move dx (uZ t 0 r p3 p4 (s.takes.of (Yh.spotOf c).1))) nx da);refine k _ _ s5 ?_;rw[afV hc h0];refine⟨x,dx,r,p3,p4,rfl,?_,?_,?_,bL _,[],?_,λi=>rfl⟩
 ·exact eE pre.a_ (s4.free nx) aA
 ·refine StandsAt.of (eE pre.a_ (s1.free kO) (yq _ _ kM)) ?_;refine Paired.set ?_ (Paired.cj pu λ_ _ q=>gc.mono q (bN s5));exact FA (by show 1 -(Yh.spotOf c).2<2;lia) (eE pre.a_ eV (yq _ _ (by rw[<-ev];exact s2 _ _ aA)))
 ·exact eE pre.a_ ((s1.trans s2).free cE) (fI nx da _ _ (by rw[<-jk];exact ax.new fh _ _ aA))
 exact eE pre.a_ ((s1.trans s2).free ((ax.new cE).free fh)) (fI nx da _ _ (by rw[<-jk];exact aA))
def af9(T:Txt w K mg A0):b9 P w K mg base "leave_of" 3 ["yard","stands","train"] (O9 A0 1):=by
 refine cg ["yard","stands","train","section","time"] T.adh ?_;rintro nD f aU A outer s H vs Q E hr ⟨S,a,s,st,p,t,c,rfl,pre,hc,h0,k⟩;refine⟨_,(aF (bD (tW (Dd (gy hr) (bj eQ (pv 1) (pv 2)) (aV (aV (pv 0) rfl) rfl)) (by with_unfolding_all rfl)) (aH (aS eF)) bH) (aF (bw 3 nD (bj eQ (bj eQ (pv 1) (pv 2)) aP)) (aF (bw 4 nD (bj cH (aV (pv 0) rfl) (pv 3))) (aH (aS (pN (FI T) hr (aq (pv 2) (aq (cM T.EK rfl) (aq (bB (FF T) hr (aq (pv 1) (aq (pv 2) (aq eF aC)))) (aq (cf aC) (aq (Wk (Wi (pv 3) (pv 4) Wh) rfl rfl (by simp) (by decide)) (aq (pv 4) aC)))))))))))),?_⟩;try dsimp only[bc,Cx.bf]
 refine jL ?_;intro _ _ _;obtain⟨us,hs,pu⟩:=pre.stands.ex;obtain⟨u,hu,ru⟩:=Paired.get pu hc;obtain⟨b,rfl,hb⟩:=sP ru h0;have yp:=bZ pu;rw[pre.ok.len]at yp;have dE:t<us.length:=(dq.mp hu).1;have hi:=pre.ok.inn t c hc h0;have gf:(Yh.spotOf c).1<s.takes.length:=by rw[pre.aZ.good.pG];exact hi
 obtain⟨P0,n0,hP,W,eP⟩:=pre.aZ.plan;have dw:=hP.mono (aJ.trans aJ);obtain⟨kvs,hbd,hbl,hv⟩:=dw.borders;refine⟨_,rfl,_,rfl,_,_,_,_,rfl,rfl,aX.of (aJ _ _ hs),bE hu,_,rfl,a.y,_,_,_,_,rfl,aJ _ _ pre.aZ.obj,T.di,T.xK,Be a,a.p.p,_,_,_,_,rfl,dw.obj,T.c_,T.AO,E3 a.p,a.p.b,_,rfl,fD.t (k:=bR (Yh.spotOf c)) hbd (aJ _ _ hb),_,rfl,?_⟩;rw[hv];have eb:s.plan.isBorder (Yh.spotOf c)=P0.isBorder (Yh.spotOf c):=by rw[eP,Yn.MS]
 rw[afW hc h0,eb]at k;by_cases O_:P0.isBorder (Yh.spotOf c)=true
 ·rw[aD O_]at k⊢
  refine bg ?_;refine⟨_,rfl,_,rfl,_,_,_,_,rfl,rfl,aX.of (aJ _ _ hs),bE hu,_,_,_,_,rfl,rfl,aX.of (aJ _ _ hb),bE (j:=0) rfl,?_⟩;refine⟨_,rfl,a.y,_,_,_,_,rfl,aJ _ _ pre.aZ.obj,T.di,T.uP,yo a,_,rfl,_,_,_,_,rfl,rfl,aB.of (aJ _ _ pre.aZ.times),bE (FH gf),?_⟩;refine⟨_,rfl,_,rfl,_,rfl,st,t,us,_,rfl,aJ _ _ hs,dE,by lia,λH2 r s2 kO kM=>?_⟩;refine⟨by simp[*],λp3 cE=>?_⟩;intro p4 fh;refine⟨_,rfl,_,rfl,aA,[(Sum.inl ((Yh.spotOf c).1:Int),V.int ((s.takes.of (Yh.spotOf c).1:Nat):Int))],rfl,by show 1<=15;decide,?_⟩;rw[e8];have s4:=s2.trans ((ax.new (o:=.lst []) cE).trans (ax.new (o:=.dK (rC [] [(Sum.inl ((Yh.spotOf c).1:Int),V.int ((s.takes.of (Yh.spotOf c).1:Nat):Int))])) fh));refine⟨_,rfl,?_⟩;intro x dx nx da lP;refine⟨x,dx,_,rfl,rfl,aA,rfl,?_⟩;rw[e8];generalize jk:upd (upd H2 p3 (.lst [])) p4 _=H4 at s4 nx da⊢;have s5:=s4.trans (fI (o:=.ins A0.move dx (uZ t 1 r p3 p4 (s.takes.of (Yh.spotOf c).1))) nx da);refine k _ _ s5 ?_;refine⟨x,dx,r,p3,p4,rfl,?_,?_,?_,bL _,rC [] [(Sum.inl ((Yh.spotOf c).1:Int),V.int ((s.takes.of (Yh.spotOf c).1:Nat):Int))],?_,λi=>?_⟩
  ·exact eE pre.a_ (s4.free nx) aA
  ·refine StandsAt.of (eE pre.a_ kO (fI nx da _ _ (by rw[<-jk];exact(((ax.new cE).trans (ax.new fh)) _ _ kM)))) ?_;exact Paired.set (show jO _ 0 V.aQ from rfl) (Paired.cj pu λ_ _ q=>gc.mono q (bN s5))
  ·exact eE pre.a_ (s2.free cE) (fI nx da _ _ (by rw[<-jk];exact ax.new fh _ _ aA))
  ·exact eE pre.a_ (s2.free ((ax.new cE).free fh)) (fI nx da _ _ (by rw[<-jk];exact aA))
  show cI (putK [] _ _) _=_;rw[rj,Yn.uE,Yn.w_];by_cases e:(Yh.spotOf c).1=i
  ·simp[*]
  rw[az (by intro z;injection z with z;lia),az e];rfl
 rw[az O_]at k⊢;exact bA (k H .aQ (ax.refl _) rfl)
theorem aga{r:Yh.Route}(h:r.steps≠[])(own:Nat):(own::r.sects)[r.sects.length]?=some r.rests.1:=by
 have hl:0<r.sects.length:=by unfold Yh.Route.sects;rw[aT];exact G9.mpr h
 obtain⟨n,hn⟩:∃n,r.sects.length=n+1:=⟨r.sects.length - 1,by lia⟩;rw[hn,vH];have e1:r.sects[n]?=r.sects.getLast?:=by rw[List.getLast?_eq_getElem?,hn];rfl
 rw[e1];unfold Yh.Route.sects Yh.Route.rests;rw[List.getLast?_map];cases q:r.steps.getLast? with
 |none=>simp_all
 |some x=>rfl
def agb(hi:i<l.length):(own::l.dropLast)[i]?=(own::l)[i]?:=by
 have bO:l≠[]:=by intro z;simp_all
 rw[<-List.dropLast_cons_of_ne_nil bO,List.getElem?_dropLast,aD (by assumption)]
inductive Pa(A0:aL)(vs:List V)(H:Hp)(Q:VK):Prop
 |mk:∀(S:List Addr) (a:YA) (s:State) (st:Addr) (p:Places) (t c wh:Nat),vs=[.ref a.y,.ref st,.int t,.int wh]->Pre A0 S H a s st p->p[t]?=some c->c≠0->2<=wh->(∀H' v,ax H H'->fi (f7 A0 (cut S H')) (cN s.plan s.routes s.takes p (t,wh)) v->Q v H')->Pa A0 vs H Q
def agc(A0:aL):Sp:=λvs H Q _=>Pa A0 vs H Q
def agd(T:Txt w K mg A0):
  b9 P w K mg base "ride_of" 3 ["yard","stands","train","what"] (agc A0):=by
 refine cg ["yard","stands","train","what","route","frees","time","behind","section"] T.adi ?_;rintro nD f aU A outer s H vs Q E hr ⟨S,a,s,st,p,t,c,wh,rfl,pre,hc,h0,hw,k⟩;refine⟨_,(aF (bD (bT zC (dC jY (pv 3) (cM T.EL rfl)) (cR eU rfl T.eJ eI (aq (aV (pv 0) rfl) aC))) (aH (aS eF)) bH) (aF (bw 4 nD (bj cH (aV (pv 0) rfl) (dC jY (pv 3) (cM T.EL rfl)))) (aF (bD (PW.pt (pw_or (bT (VL hr.units) (aV (pv 4) rfl) (bj eQ (pv 1) (pv 2))) (pw_or1 (gv (bB (af4 T) hr (aq (pv 1) (aq (aV (pv 4) rfl) aC))))))) (aH (aS eF)) bH) (aF (bw 5 nD zV) (aF (bw 6 nD aP) (aF (bw 7 nD (bj eQ (aV (pv 4) rfl) aP)) (aF (fX fW rfl (g9 (aV (pv 4) rfl)) (ck 8 nD) (aF (HX (i:=6) nD rfl (by first|exact Or.inl rfl|exact Or.inr rfl) (bj cH (aV (pv 0) rfl) (pv 8)) HZ) (aF (rn (gy hr) (pv 5) (pv 7) (pv 6) rfl) (aH (bw 7 nD (pv 8)))))) (aH (aS (pN (FI T) hr (aq (pv 2) (aq (pv 3) (aq (bB (FF T) hr (aq (pv 1) (aq (pv 2) (aq (jZ (aq (pv 7) (aq (aV (pv 4) rfl) aC))) aC)))) (aq (aV (pv 4) rfl) (aq (pv 5) (aq (pv 6) aC)))))))))))))))),?_⟩;try dsimp only[bc,Cx.bf]
 refine EA ?_;intro _ _ _ _ _ _ _;obtain⟨us,hs,pu⟩:=pre.stands.ex;obtain⟨u,hu,ru⟩:=Paired.get pu hc;obtain⟨b,rfl,hb⟩:=sP ru h0;have yp:=bZ pu;rw[pre.ok.len]at yp;have dE:t<us.length:=(dq.mp hu).1;obtain⟨sS,FJ,yr⟩:=pre.aZ.routes;have sU:=aJ _ _ (aJ _ _ FJ);have FK:=bZ yr;rw[aT]at FK;have ew:((wh:Int) - 2)=((wh - 2:Nat):Int):=by grind
 rw[afX hc h0 hw]at k;refine⟨_,rfl,_,_,rfl,rfl,_,rfl,a.y,_,_,_,_,rfl,aJ _ _ pre.aZ.obj,T.di,T.AS,FD a,_,_,rfl,.inl (aB.of sU),_,_,rfl,rfl,_,rfl,?_⟩;show if decide ((sS.length:Int)<=(wh:Int) - 2)=true then _ else _;cases q:s.routes[wh - 2]? with
 |none=>rw[q]at k;have hle:=SH.mp q;rw[cq (by simp_all)];exact bA (k H .aQ (ax.refl _) rfl)
 |some r=>
  rw[q]at k;simp only at k;have bq:wh - 2<s.routes.length:=(dq.mp q).1;rw[b7 (by simp_all)];refine bg ?_;have gb:r∈s.routes:=d_ q;obtain⟨rv,FL,rat⟩:=Paired.get yr (i:=wh - 2) (x:=pX s.plan r) (by simp[*]);have rat:=rat.mono aJ;obtain⟨rp,ia,ra,rl,rfl,r1,r2,r3⟩:=rat;have u5:=aJ _ _ r1;have Pb:=aJ _ _ r2;have yt:=aJ _ _ r3;have yt:H rl=some (.lst (aR r.sects)):=yt;obtain⟨age,agf⟩:=pre.aZ.good.land.sects r gb;have agg:=pre.aZ.good.land.rest r gb;refine⟨_,rfl,a.y,_,_,_,_,rfl,aJ _ _ pre.aZ.obj,T.di,T.AS,FD a,_,rfl,_,_,rfl,rfl,_,_,_,_,rfl,rfl,aB.of sU,by show iu sS ((wh:Int) - 2)=_;rw[ew];exact bE FL,?_⟩;refine⟨_,rfl,rp,_,_,_,_,rfl,u5,T.lO,T.AQ,rfl,_,rfl,_,rfl,_,_,_,_,rfl,rfl,aX.of (aJ _ _ hs),bE hu,_,_,A8 Pb,A8 (aJ _ _ hb),rfl,rfl,_,rfl,?_⟩;rw[Oa];have Ak:=pre.aZ.sig.sig r gb (Yh.spotOf c);by_cases b4:Yh.spotOf c=Yn.jf s.plan r
  ·rw[cq (show(pX s.plan r).start=Yh.spotOf c from b4.symm)]
   refine bg ?_;refine⟨_,rfl,_,rfl,rp,_,_,_,_,rfl,u5,T.lO,T.AR,rfl,st,rl,p,r.sects,rfl,pre.stands.mono aJ,pre.ok.len,yt,λH2 s2=>?_⟩;refine⟨_,rfl,?_⟩;rw[held_eq]at k;by_cases hh:sR p r.sects=true
   ·rw[hh];rw[az (by lia)]at k;exact bA (k H2 .aQ s2 rfl)
   have hh:sR p r.sects=false:=by cases z:sR p r.sects;rfl;exact absurd z hh
   rw[hh];rw[aD ⟨Ak.mpr b4,hh⟩]at k;refine bg ?_;intro fr ly;have s3:=s2.trans (ax.new (o:=.dK []) ly);have Pc:H fr=none:=s2.free ly;refine⟨_,rfl,rp,_,_,_,_,rfl,s3 _ _ u5,T.lO,T.AQ,rfl,_,_,_,_,rfl,rfl,aX.of (s3 _ _ Pb),bE (j:=0) rfl,?_⟩;refine⟨_,rfl,rp,_,_,_,_,rfl,s3 _ _ u5,T.lO,T.AR,rfl,rl,rfl,⟨_,aB.of (s3 _ _ yt)⟩,?_⟩;let own:=(Yh.spotOf c).1;let ts:=Yh.passed s.takes 0 r.sects;let Z:=(own::r.sects.dropLast).zip ts;have hts:ts.length=r.sects.length:=Yn.Zo _ _ _;have e0:((pX s.plan r).start.1:Int)=((((own::r.sects).getD 0 0:Nat)):Int):=by show((Yn.jf s.plan r).1:Int)=_;rw[<-b4];rfl
   let Z1:Nat->L2.St->Hp->Prop:=λi σ H'=>dB λ(v8:Option V) (kvs:List (Key×V))=>ma (σ=[some (.ref a.y),some (.ref st),some (.int t),some (.int wh),some (.ref rp),some (.ref fr),some (.int (((ts.take i).getLastD 0:Nat):Int)),some (.int ((((own::r.sects).getD i 0:Nat)):Int)),v8]) (ax H H') (H' fr=some (.dK kvs)) (kvs.length<=i) (∀j:Nat,cI kvs (Sum.inl (j:Int))=(Yn.cD (Z.take i) j).map λ(n:Nat)=>V.int n);refine oV (K:=K) (a:=rl) (xs:=aR r.sects) Z1 ⟨none,[],by rw[<-e0];rfl,s3,aA,aW _,λj=>rfl⟩ (λi σ H' _ q=>by obtain⟨_,_,_,sm,_⟩:=q;exact aB.of (sm _ _ yt)) ?_ ?_
   ·rintro i v σ H' hv ⟨v8,kvs,rfl,sm,FN,hkl,yu⟩
    rw[cb]at hv;obtain⟨x,hx,rfl⟩:=jq.mp hv;have gf:i<r.sects.length:=(dq.mp hx).1;have hxt:x<s.takes.length:=by rw[pre.aZ.good.pG];exact agf x (d_ hx)
    have rh:=pre.aZ.short r gb;refine⟨_,rfl,_,rfl,a.y,_,_,_,_,rfl,sm _ _ (aJ _ _ pre.aZ.obj),T.di,T.uP,yo a,_,rfl,_,_,_,_,rfl,rfl,aB.of (sm _ _ (aJ _ _ pre.aZ.times)),bE (FH hxt),_,_,rfl,rfl,?_⟩;refine⟨_,rfl,_,rfl,_,rfl,fr,_,rfl,jA.k (k:=Sum.inl (((own::r.sects).getD i 0:Nat):Int)) FN (by rw[bP];lia),?_⟩;have Pd:=O7 s.takes r.sects 0 i x hx;have A_:(own::r.sects.dropLast)[i]?=some ((own::r.sects).getD i 0):=by rw[agb gf,l_];rw[cp (show i<(own::r.sects).length by rw[bG];lia)];rfl
    have hZ:Z[i]?=some ((own::r.sects).getD i 0,(ts.take i).getLastD 0+s.takes.of x):=List.getElem?_zip_eq_some.mpr ⟨A_,Pd⟩;have eT:(ts.take (i+1)).getLastD 0=(ts.take i).getLastD 0+s.takes.of x:=by rw[dS Pd,List.getLastD_concat]
    refine⟨_,rfl,some (V.int (x:Int)),_,?_,λb o e=>?_,aA,?_,λj=>?_⟩
    ·rw[eT]
     have eb:(own::r.sects).getD (i+1) 0=x:=by rw[Cc,l_,hx];rfl
     rw[eb];rfl
    ·rw[ay (bz e Pc)];exact sm _ _ e
    ·exact cF (nG _ _ _) (by simp[*])
    rw[rj,dS hZ,Yn.Zk,yu];by_cases ej:(own::r.sects).getD i 0=j
    ·rw[aD (by rw[ej]),aD ej];rfl
    rw[az (by intro z;injection z with z;exact ej (by lia)),az ej]
   rintro σ H' ⟨v8,kvs,rfl,sm,FN,hkl,yu⟩;have hn:(aR r.sects).length=r.sects.length:=aT _;rw[hn]at yu⊢;rw[fq (by rw[List.length_zip,hts,bG];lia)]at yu;rw[fq (by simp[*])];have D_:(own::r.sects).getD r.sects.length 0=r.rests.1:=by rw[l_,aga age];rfl
   rw[D_];refine⟨_,rfl,_,rfl,_,rfl,_,rfl,_,rfl,_,rfl,rp,_,_,_,_,rfl,sm _ _ u5,T.lO,T.Nw,rfl,iq,λp1 eV=>?_⟩;have s4:=sm.trans (ax.new (o:=.tup (cV r.rests)) eV);refine⟨st,t,us,_,rfl,s4 _ _ (aJ _ _ hs),dE,by lia,λH5 rr s5 kO FG=>?_⟩;have s6:=s4.trans s5;refine⟨_,rfl,rp,_,_,_,_,rfl,s6 _ _ u5,T.lO,T.AR,rfl,_,rfl,_,rfl,?_⟩;intro x dx nx da lP;refine⟨x,dx,_,rfl,rfl,aA,rfl,?_⟩;rw[e8];have s7:=s6.trans (fI (o:=.ins A0.move dx (uZ t wh rr rl fr (ts.getLastD 0))) nx da);have FO:ax H5 _:=fI (o:=.ins A0.move dx (uZ t wh rr rl fr (ts.getLastD 0))) nx da;refine k _ _ s7 ?_;refine⟨x,dx,rr,rl,fr,rfl,?_,?_,?_,pre.aZ.short r gb,kvs,?_,yu⟩
   ·exact eE pre.a_ (s6.free nx) aA
   ·refine StandsAt.of (eE pre.a_ (s4.free kO) (FO _ _ FG)) ?_;refine Paired.set ?_ (Paired.cj pu λ_ _ q=>gc.mono q (bN s7));exact FA agg (eE pre.a_ (sm.free eV) (FO _ _ (s5 _ _ aA)))
   ·exact bN s7 _ _ r3
   exact eE pre.a_ Pc (FO _ _ (s5 _ _ (ax.new eV _ _ FN)))
  rw[b7 (show¬(pX s.plan r).start=Yh.spotOf c from λz=>b4 z.symm)];rw[az (λz=>b4 (Ak.mp z.1))]at k;exact bA (bA (k H .aQ (ax.refl _) rfl))
inductive Pe(A0:aL)(vs:List V)(H:Hp)(Q:VK):Prop
 |mk:∀(S:List Addr) (a:YA) (s:State) (st:Addr) (p:Places) (t wh:Nat),vs=[.ref a.y,.ref st,.int t,.int wh]->Pre A0 S H a s st p->(∀H' v,ax H H'->fi (f7 A0 (cut S H')) (cN s.plan s.routes s.takes p (t,wh)) v->Q v H')->Pe A0 vs H Q
def agk(A0:aL):Sp:=λvs H Q _=>Pe A0 vs H Q
def Pf(T:Txt w K mg A0):b9 P w K mg base "move_of" 4 ["yard","stands","train","what"] (agk A0):=by
 refine cg ["yard","stands","train","what"] T.adj ?_;rintro nD f aU A outer s H vs Q E hr ⟨S,a,s,st,p,t,wh,rfl,pre,k⟩;refine⟨_,(aF (bD (PW.pt (pw_or (bT zC (pv 2) (cR eU rfl T.eJ eI (aq (pv 1) aC))) (pw_or1 (bT qP (bj eQ (pv 1) (pv 2)) eF)))) (aH (aS eF)) bH) (aF (bD (bT e_ (pv 3) (cM T.EJ rfl)) (aH (aS (bB (af8 T) hr (aq (pv 0) (aq (pv 1) (aq (pv 2) aC)))))) bH) (aF (bD (bT e_ (pv 3) (cM T.EK rfl)) (aH (aS (bB (af9 T) hr (aq (pv 0) (aq (pv 1) (aq (pv 2) aC)))))) bH) (aH (aS (bB (agd T) hr (aq (pv 0) (aq (pv 1) (aq (pv 2) (aq (pv 3) aC)))))))))),?_⟩;try dsimp only[bc,Cx.bf]
 refine jL ?_;intro _ _ _;obtain⟨us,hs,pu⟩:=pre.stands.ex;have lu:=bZ pu;refine⟨_,rfl,_,rfl,_,_,rfl,.inr (aX.of (aJ _ _ hs)),_,_,rfl,rfl,_,rfl,?_⟩;show if decide ((us.length:Int)<=(t:Int))=true then _ else _;by_cases ht:t<p.length
 ·obtain⟨c,hc⟩:∃c,p[t]?=some c:=⟨_,cp ht⟩
  obtain⟨u,hu,ru⟩:=Paired.get pu hc;rw[b7 (by simp_all)];refine bg ⟨_,rfl,_,rfl,_,_,_,_,rfl,rfl,aX.of (aJ _ _ hs),bE hu,rfl,_,rfl,?_⟩;rw[yn ru];by_cases h0:c=0
  ·rw[cq h0];rw[O1 (by simp[*])]at k;exact bA (k H .aQ (ax.refl _) rfl)
  rw[b7 h0];refine bg ?_;refine⟨_,rfl,rfl,_,rfl,?_⟩;refine eC (λe=>?_) (λe=>?_)
  ·have e:wh=0:=by have:=Cb e;simp_all
   subst e;exact⟨_,rfl,_,rfl,_,rfl,S,a,s,st,p,t,c,rfl,pre,hc,h0,k⟩
  have e:wh≠0:=λz=>e (by simp[*]);refine⟨_,rfl,rfl,_,rfl,?_⟩;refine eC (λe=>?_) (λe2=>?_)
  ·have e:wh=1:=by have:=Cb e;injection this with this;lia
   subst e;exact⟨_,rfl,_,rfl,_,rfl,S,a,s,st,p,t,c,rfl,pre,hc,h0,k⟩
  have e2:wh≠1:=λz=>e2 (by simp[*]);exact⟨_,rfl,_,rfl,_,rfl,_,rfl,S,a,s,st,p,t,c,wh,rfl,pre,hc,h0,by lia,k⟩
 rw[cq (by simp_all)];rw[O1 (by simp_all)]at k;exact bA (bA (k H .aQ (ax.refl _) rfl))
open Yn (aN bM bX cZ)
def Pg(r:Nat)(h:List (Mv×Nat))(y:Mv×Nat)(m:Mv):bX r (h++[y]) m=if 0<bM y.1 m then max (bX r h m) (y.2+bM y.1 m)else bX r h m:=by unfold bX;simp[*]
def agl(q:Places)(h:List (Mv×Nat))(mv:Mv)(b:Nat)(at_:Places):(⟨at_,h++[(mv,b)]⟩:aN).done=max (⟨q,h⟩:aN).done (b+mv.bS):=by unfold aN.done cZ;rw[ft,Yn.LZ];show max _ (Yh.maxOf [b+mv.bS])=_;rw[Yn.uD,Yn.Au,Nat.max_zero]
inductive Ph(A0:aL)(vs:List V)(H:Hp)(Q:VK):Prop
 |mk:∀(e l:V) (me ml:Mv),vs=[e,l]->f7 A0 H me e->f7 A0 H ml l->(∀H',ax H H'->Q (.int ((bM me ml:Nat):Int)) H')->Ph A0 vs H Q
def agm(A0:aL):Sp:=λvs H Q _=>Ph A0 vs H Q
def Pj(T:Txt w K mg A0):b9 P w K mg base "wait_for" 1 ["earlier","later"] (agm A0):=by
 refine cg ["earlier","later","section"] T.adk ?_;rintro nD f aU A outer s H vs Q E hr ⟨e,l,me,ml,rfl,he,hl,k⟩;refine⟨_,(aF (bD (bT e_ (aV (pv 0) rfl) (aV (pv 1) rfl)) (aH (aS (aV (pv 0) rfl))) bH) (aH (aS (Ye rfl rfl T.xD xA (j_ (own:=[("section",2)]) rfl nD (g9 (aV (pv 1) rfl)) (i7 (by rfl)) (λ_ _ _ _ _=>(ck 2 nD)) (λ_ _ _ _ _=>j9) (λ_ _ _ _ _=>(Kc (gy hr) (Ba rfl (pv 0) rfl) (pv 2) aP ⟨rfl,rfl,rfl,rfl⟩))) aP)))),?_⟩;try dsimp only[bc,Cx.bf]
 refine pL ?_;intro _;obtain⟨ep,edx,OT,el,ed,rfl,E1⟩:=he;obtain⟨lp,ldx,lst,ll,ld,rfl,L1⟩:=hl;obtain⟨kvs,hd,hv⟩:=E1.frees;refine⟨_,rfl,ep,_,_,_,_,rfl,E1.obj,T.fT,T.xG,rfl,_,rfl,lp,_,_,_,_,rfl,L1.obj,T.fT,T.xG,rfl,rfl,_,rfl,?_⟩;by_cases ht:me.train=ml.train
 ·rw[cq (by rw[ht])];rw[Yn.rV ht]at k;exact bA ⟨_,rfl,ep,_,_,_,_,rfl,E1.obj,T.fT,T.xH,rfl,k H (ax.refl _)⟩
 rw[b7 (by intro z;injection z with z;lia)];rw[Yn.D5 ht]at k;refine bg ?_;refine⟨_,rfl,lp,_,_,_,_,rfl,L1.obj,T.fT,T.Nt,rfl,ll,rfl,⟨_,aB.of L1.through⟩,λD hD=>?_⟩;let g:Nat->Nat:=λi=>(Yn.cD me.frees i).getD 0;let Z1:Nat->Hp->Prop:=λi H'=>ax H H'/\H' D=some (.lst (aR ((ml.through.map g).take i)));refine nF Z1 ⟨ax.new hD,aA⟩ (λi H' _ q=>aB.of (q.1 _ _ L1.through)) ?_ ?_
 ·rintro i v H' ux ⟨sm,sV⟩
  rw[cb]at ux;obtain⟨x,hx,rfl⟩:=jq.mp ux;have hg:(ml.through.map g)[i]?=some (g x):=by rw[cb,hx];rfl
  have kH:=L1.short;refine⟨rfl,_,rfl,ep,_,_,_,_,rfl,sm _ _ E1.obj,T.fT,T.Nu,rfl,ed,rfl,.inl ⟨kvs,.inl (sm _ _ hd)⟩,_,rfl,_,fD.k (k:=Sum.inl (x:Int)) (sm _ _ hd),?_⟩;refine⟨_,sV,by rw[aT,dQ,aT,bP];lia,λb o e=>?_,?_⟩
  ·rw[ay (bz e hD)];exact sm _ _ e
  rw[aA,dS hg,hv];unfold aR;rw[ft];show _=some (HO.lst (_++[V.int ((g x:Nat):Int)]));have:(Option.map (λ(n:Nat)=>V.int (n:Int)) (Yn.cD me.frees x)).getD (V.int 0)=V.int ((g x:Nat):Int):=by show _=V.int ((((Yn.cD me.frees x).getD 0:Nat)):Int);cases Yn.cD me.frees x<;>rfl
  rw[this]
 rintro H' ⟨sm,sV⟩;rw[fq (by simp[*])]at sV;have ei:aR (ml.through.map g)=((ml.through.map g).map λ(n:Nat)=>(n:Int)).map V.int:=by unfold aR;rw[fz (l:=ml.through.map g)];rfl
 rw[ei]at sV;have k':=k H' sm;refine⟨D,_,rfl,aB.of sV,λz=>?_,λm hm agn=>?_⟩
 ·have:=Hk.mp z
  have e0:Yh.maxOf (ml.through.map λi=>(Yn.cD me.frees i).getD 0)=0:=by rw[this];rfl
  rw[e0]at k';exact k'
 obtain⟨n,hn,rfl⟩:=b_.mp hm;have e0:Yh.maxOf (ml.through.map λi=>(Yn.cD me.frees i).getD 0)=n:=by refine Nat.le_antisymm (Yn.Av.mpr λz hz=>?_) (Yn.nO hn);have:=agn (z:Int) (b_.mpr ⟨z,hz,rfl⟩);simp_all
 rw[e0]at k';exact k'
inductive Pk(A0:aL)(vs:List V)(H:Hp)(Q:VK):Prop
 |mk:∀(r:V) (x:aN) (i j:Nat) (a b:Mv×Nat),vs=[r,.int i,.int j]->dj A0 H x r->x.h[i]?=some a->x.h[j]?=some b->(∀H',ax H H'->Q (.int ((bM a.1 b.1:Nat):Int)) H')->Pk A0 vs H Q
def ago(A0:aL):Sp:=λvs H Q _=>Pk A0 vs H Q
def Pl(T:Txt w K mg A0):b9 P w K mg base "wait_in" 2 ["row","earlier","later"] (ago A0):=by
 refine cg ["row","earlier","later"] T.adl ?_;rintro nD f aU A outer s H vs Q E hr ⟨r,x,i,j,a,b,rfl,⟨rp,ia,gV,rm,rb,rfl,R1⟩,ha,hb,k⟩;refine⟨_,(aH (aS (bB (Pj T) hr (aq (bj cH (aV (pv 0) rfl) (pv 1)) (aq (bj cH (aV (pv 0) rfl) (pv 2)) aC))))),?_⟩;try dsimp only[bc,Cx.bf]
 obtain⟨us,hm,pu⟩:=R1.moves;obtain⟨u,hu,mu⟩:=Paired.get pu (i:=i) (x:=a.1) (by simp[*]);obtain⟨v,hv,mv⟩:=Paired.get pu (i:=j) (x:=b.1) (by simp[*]);exact⟨_,rfl,rp,_,_,_,_,rfl,R1.obj,T.dz,T.rw_moves,rfl,_,rfl,_,_,_,_,rfl,rfl,aB.of hm,bE hu,_,rfl,rp,_,_,_,_,rfl,R1.obj,T.dz,T.rw_moves,rfl,_,rfl,_,_,_,_,rfl,rfl,aB.of hm,bE hv,u,v,a.1,b.1,rfl,mu,mv,k⟩
inductive Pn(A0:aL)(vs:List V)(H:Hp)(Q:VK):Prop
 |mk:∀(r m:V) (x:aN) (mv:Mv) (rd:Nat),vs=[r,m,.int rd]->dj A0 H x r->f7 A0 H mv m->(∀H',ax H H'->Q (.int ((bX rd x.h mv:Nat):Int)) H')->Pn A0 vs H Q
def agp(A0:aL):Sp:=λvs H Q _=>Pn A0 vs H Q
def agq(T:Txt w K mg A0):b9 P w K mg base "begin_behind" 2 ["row","move","ready_time"] (agp A0):=by
 refine cg ["row","move","ready_time","time","earlier","begin","wait"] T.adm ?_;rintro nD f aU A outer s H vs Q E hr ⟨r,m,x,mv,rd,rfl,⟨rp,ia,gV,rm,rb,rfl,R1⟩,jc,k⟩;refine⟨_,(aF (bw 3 nD (pv 2)) (aF (fX fW rfl (zZ rfl T.xE (aq (aV (pv 0) rfl) (aq (aV (pv 0) rfl) aC))) (nr rfl (gw (ck 4 nD) (gw (ck 5 nD) mm))) (aF (bw 6 nD (bB (Pj T) hr (aq (pv 4) (aq (pv 1) aC)))) (aH (bD (bT jv (pv 6) aP) (aH (bw 3 nD (cR (CD rfl) rfl T.xD xA (aq (pv 3) (aq (dC lj (pv 5) (pv 6)) aC))))) bH)))) (aH (aS (pv 3))))),?_⟩;try dsimp only[bc,Cx.bf]
 refine iS ?_;intro _ _;obtain⟨us,hm,pu⟩:=R1.moves;have lu:=bZ pu;rw[aT]at lu;refine⟨_,rfl,?_⟩;refine⟨_,rfl,rp,_,_,_,_,rfl,R1.obj,T.dz,T.rw_moves,rfl,_,rfl,rp,_,_,_,_,rfl,R1.obj,T.dz,T.rw_begins,rfl,rm,rb,us,_,rfl,aB.of hm,aB.of R1.begins,?_⟩;let Z2:Nat->L2.St->Hp->Prop:=λi σ H'=>iY λv4 v5 v6=>σ=[some (.ref rp),some m,some (.int rd),some (.int ((bX rd (x.h.take i) mv:Nat):Int)),v4,v5,v6]/\ax H H';refine pU (n:=x.h.length) Z2 ⟨none,none,none,rfl,ax.refl _⟩ ?_ ?_ ?_ ?_
 ·rintro i σ H' hi ⟨v4,v5,v6,rfl,sm⟩;exact⟨us,_,us[i]'(by simp_all),_,aB.of (sm _ _ hm),aB.of (sm _ _ R1.begins),cp (by simp_all),cp (by simp_all)⟩
 ·rintro σ H' ⟨v4,v5,v6,rfl,sm⟩;exact⟨us,_,aB.of (sm _ _ hm),aB.of (sm _ _ R1.begins),.inl (by simp[*])⟩
 ·rintro i σ H' y H2 hi ⟨v4,v5,v6,rfl,sm⟩ ⟨Tt,x1,x2,rfl,hT,rfl,fj,dW⟩
  have fj:=fj us (aB.of (sm _ _ hm));have dW:=dW _ (aB.of (sm _ _ R1.begins));obtain⟨z,hz⟩:∃z,x.h[i]?=some z:=⟨_,cp hi⟩;rw[cb,cb,hz]at dW;obtain⟨u',wg,mu⟩:=Paired.get pu (i:=i) (x:=z.1) (by simp[*]);rw[wg]at fj;obtain rfl:=bC fj;obtain rfl:V.int (z.2:Int)=x2:=bC dW;have s2:=sm.trans (ax.new (o:=.tup [u',V.int (z.2:Int)]) hT);refine⟨_,_,rfl,aX.of aA,rfl,_,_,rfl,_,_,rfl,rfl,?_⟩;refine⟨_,rfl,_,rfl,u',m,z.1,mv,rfl,mu.mono s2,jc.mono s2,λH3 s3=>?_⟩;refine⟨_,rfl,_,_,rfl,rfl,_,rfl,?_⟩;by_cases hw:0<bM z.1 mv
  ·rw[cq (by simp[*])]
   refine bA ⟨_,rfl,_,rfl,_,rfl,_,_,rfl,rfl,_,_,rfl,?_⟩;refine⟨some u',some (.int (z.2:Int)),some (.int ((bM z.1 mv:Nat):Int)),?_,s2.trans s3⟩;rw[dS hz,Pg,aD hw];have e:(if((z.2:Int)+((bM z.1 mv:Nat):Int))>((bX rd (x.h.take i) mv:Nat):Int)then((z.2:Int)+((bM z.1 mv:Nat):Int))else((bX rd (x.h.take i) mv:Nat):Int))=((max (bX rd (x.h.take i) mv) (z.2+bM z.1 mv):Nat):Int):=by split<;>grind
   simp[*]
  rw[b7 (by simp[*])];refine bg ⟨some u',some (.int (z.2:Int)),some (.int ((bM z.1 mv:Nat):Int)),?_,s2.trans s3⟩;rw[dS hz,Pg,az hw];rfl
 rintro σ H' ⟨v4,v5,v6,rfl,sm⟩;rw[fq (aW _)];exact⟨_,rfl,k H' sm⟩
abbrev initRow(A0:aL):=uX A0.row ["stands","moves","begins","done"]
abbrev agr:List Str:=["self","stands","moves","begins","done"]
inductive Po(A0:aL)(vs:List V)(H:Hp)(Q:VK):Prop
 |mk:∀(S:List Addr) (st:Addr) (p:Places),vs=[.ref st]->cu S H->StandsAt (cut S H) p st->(∀H' v,ax H H'->dj A0 (cut S H') ⟨p,[]⟩ v->Q v H')->Po A0 vs H Q
def ags(A0:aL):Sp:=λvs H Q _=>Po A0 vs H Q
def Pp(T:Txt w K mg A0):mM P w K mg base "Row" A0.row 1 agr (initRow A0):=sh (af1 T) T.aci T.acj T.ach
def Pq(T:Txt w K mg A0):b9 P w K mg base "empty_row" 3 ["stands"] (ags A0):=by
 refine cg ["stands"] T.adn ?_;rintro nD f aU A outer s H vs Q E hr ⟨S,st,p,rfl,a_,hs,k⟩;refine⟨_,(aH (aS (pN (Pp T) hr (aq (pv 0) (aq (cf aC) (aq (cf aC) (aq aP aC))))))),?_⟩;try dsimp only[bc,Cx.bf]
 refine⟨_,rfl,bL _,λp1 eV=>?_⟩;refine⟨bL _,λp2 dI=>?_⟩;have s2:=(ax.new eV).trans (ax.new (o:=.lst []) dI);intro x dx nx da lP;refine⟨x,dx,_,rfl,rfl,aA,rfl,?_⟩;rw[e8];have s3:=s2.trans (fI (o:=.ins A0.row dx (FC st p1 p2 0)) nx da);refine k _ _ s3 ⟨x,dx,st,p1,p2,rfl,?_,hs.mono (bN s3),⟨[],?_,.nil⟩,?_⟩
 ·exact eE a_ (s2.free nx) aA
 ·exact eE a_ eV (fI nx da _ _ (ax.new dI _ _ aA))
 exact eE a_ ((ax.new eV).free dI) (fI nx da _ _ aA)
inductive Pr(A0:aL)(vs:List V)(H:Hp)(Q:VK):Prop
 |mk:∀(S:List Addr) (r m:V) (x:aN) (mv:Mv) (rd:Nat),vs=[r,m,.int rd]->cu S H->dj A0 (cut S H) x r->f7 A0 (cut S H) mv m->x.h.length<=100000->(∀H' v,ax H H'->dj A0 (cut S H') ⟨mv.to,x.h++[(mv,bX rd x.h mv)]⟩ v->Q v H')->Pr A0 vs H Q
def agt(A0:aL):Sp:=λvs H Q _=>Pr A0 vs H Q
def Pt(T:Txt w K mg A0):b9 P w K mg base "longer_row" 3 ["row","move","ready_time"] (agt A0):=by
 refine cg ["row","move","ready_time","begin"] T.ado ?_;rintro nD f aU A outer s H vs Q E hr ⟨S,r,m,x,mv,rd,rfl,a_,sW,xB,hlen,k⟩;refine⟨_,(aF (bw 3 nD (bB (agq T) hr (aq (pv 0) (aq (pv 1) (aq (pv 2) aC))))) (aH (aS (pN (Pp T) hr (aq (aV (pv 1) rfl) (aq (dC zQ (aV (pv 0) rfl) (cf (aq (pv 1) aC))) (aq (dC zQ (aV (pv 0) rfl) (cf (aq (pv 3) aC))) (aq (cR (CD rfl) rfl T.xD xA (aq (aV (pv 0) rfl) (aq (dC lj (pv 3) (aV (pv 1) rfl)) aC))) aC)))))))),?_⟩;try dsimp only[bc,Cx.bf]
 refine pL ?_;intro _;have agu:=sW.mono aJ;have agv:=xB.mono aJ;refine⟨_,rfl,_,rfl,_,rfl,r,m,x,mv,rd,rfl,agu,agv,λH1 s1=>?_⟩;obtain⟨rp,ia,gV,rm,rb,rfl,R1⟩:=sW;obtain⟨mp,u6,ib,ml,md,rfl,M1⟩:=id xB;obtain⟨us,hu,pu⟩:=R1.moves;have lu:=bZ pu;rw[aT]at lu;have c1:ax (cut S H) H1:=aJ.trans s1;refine⟨_,rfl,mp,_,_,_,_,rfl,c1 _ _ M1.obj,T.fT,T.uN,rfl,?_⟩;refine⟨_,rfl,rp,_,_,_,_,rfl,c1 _ _ R1.obj,T.dz,T.rw_moves,rfl,_,rfl,dM,λp1 eV=>?_⟩;have s2:=ax.new (o:=.lst [V.ref mp]) eV;refine⟨rm,p1,us,_,rfl,rfl,s2 _ _ (c1 _ _ hu),aA,by rw[bP];simp only[bG,dR];lia,λp2 dI=>?_⟩;have s3:=s2.trans (ax.new (o:=.lst (us++[V.ref mp])) dI);refine⟨_,rfl,rp,_,_,_,_,rfl,s3 _ _ (c1 _ _ R1.obj),T.dz,T.rw_begins,rfl,_,rfl,dM,λp3 cE=>?_⟩;have s4:=s3.trans (ax.new (o:=.lst [V.int ((bX rd x.h mv:Nat):Int)]) cE);refine⟨rb,p3,_,_,rfl,rfl,s4 _ _ (c1 _ _ R1.begins),aA,by rw[aT,aT,bP];simp only[bG,dR];lia,λp4 fh=>?_⟩;have e4:aR (x.h.map (·.2))++[V.int ((bX rd x.h mv:Nat):Int)]=aR ((x.h++[(mv,bX rd x.h mv)]).map (·.2)):=by unfold aR;simp[*]
 rw[e4];have s5:=s4.trans (ax.new (o:=.lst (aR ((x.h++[(mv,bX rd x.h mv)]).map (·.2)))) fh);refine⟨_,rfl,rp,_,_,_,_,rfl,s5 _ _ (c1 _ _ R1.obj),T.dz,T.rw_done,rfl,_,rfl,_,rfl,mp,_,_,_,_,rfl,s5 _ _ (c1 _ _ M1.obj),T.fT,T.xH,rfl,_,_,rfl,rfl,_,_,rfl,?_⟩;have ed:(if(((bX rd x.h mv:Nat):Int)+(mv.bS:Int))>((x.done:Nat):Int)then(((bX rd x.h mv:Nat):Int)+(mv.bS:Int))else((x.done:Nat):Int))=(((⟨mv.to,x.h++[(mv,bX rd x.h mv)]⟩:aN).done:Nat):Int):=by
  rw[agl x.at_];show(if _ then _ else _)=(((max x.done (bX rd x.h mv+mv.bS):Nat)):Int);by_cases Ag:x.done<bX rd x.h mv+mv.bS
  ·rw[aD (by exact iX.2 ‹_›),Nat.max_eq_right (by exact gN ‹_›)];rfl
  rw[az (by exact mt iX.1 ‹_›),Nat.max_eq_left (by simp_all)]
 have Bg:=s1.trans s5;intro xx dx nx da lP;refine⟨xx,dx,_,rfl,rfl,aA,rfl,?_⟩;rw[e8];rw[ed];have s6:=Bg.trans (fI (o:=.ins A0.row dx (FC ib p2 p4 (⟨mv.to,x.h++[(mv,bX rd x.h mv)]⟩:aN).done)) nx da);refine k _ _ s6 ⟨xx,dx,ib,p2,p4,rfl,?_,?_,⟨us++[V.ref mp],?_,?_⟩,?_⟩
 ·exact eE a_ (Bg.free nx) aA
 ·exact M1.stands.mono (bN s6)
 ·exact eE a_ (s1.free (s2.free dI)) (fI nx da _ _ (ax.new fh _ _ (ax.new cE _ _ aA)))
 ·have em:(x.h++[(mv,bX rd x.h mv)]).map (·.1)=x.h.map (·.1)++[mv]:=by rw[ft];rfl
  rw[em];exact kX (Paired.cj pu λ_ _ q=>q.mono (bN s6)) (xB.mono (bN s6))
 exact eE a_ (s1.free (s4.free fh)) (fI nx da _ _ aA)
inductive Pu(A0:aL)(vs:List V)(H:Hp)(Q:VK):Prop
 |mk:∀(r:V) (x:aN),vs=[r]->dj A0 H x r->x.h.length<=100000->(∀H' p,ax H H'->H p=none->H' p=some (.lst (aR (cZ x.h)))->Q (.ref p) H')->Pu A0 vs H Q
def agw(A0:aL):Sp:=λvs H Q _=>Pu A0 vs H Q
def Pw(T:Txt w K mg A0):b9 P w K mg base "ends_of" 1 ["row"] (agw A0):=by
 refine cg ["row","begin","move"] T.adp ?_;rintro nD f aU A outer s H vs Q E hr ⟨r,x,rfl,⟨rp,ia,gV,rm,rb,rfl,R1⟩,hlen,k⟩;refine⟨_,(aH (aS (j_ (own:=[("begin",1),("move",2)]) rfl nD (zZ rfl T.xE (aq (aV (pv 0) rfl) (aq (aV (pv 0) rfl) aC))) (i7 (by rfl)) (λ_ _ _ _ _=>(OX rfl rfl (gw (ck 1 nD) (gw (ck 2 nD) mm)))) (λ_ _ _ _ _=>j9) (λ_ _ _ _ _=>(dC lj (pv 1) (Ba rfl (pv 2) rfl)))))),?_⟩;try dsimp only[bc,Cx.bf]
 obtain⟨us,hm,pu⟩:=R1.moves;have lu:=bZ pu;rw[aT]at lu;refine⟨_,rfl,rp,_,_,_,_,rfl,R1.obj,T.dz,T.rw_begins,rfl,_,rfl,rp,_,_,_,_,rfl,R1.obj,T.dz,T.rw_moves,rfl,rb,rm,_,us,rfl,aB.of R1.begins,aB.of hm,λD hD=>?_⟩;let Z3:Nat->Hp->Prop:=λi H'=>ax H H'/\H' D=some (.lst (aR ((cZ x.h).take i)))
 refine Fs (n:=x.h.length) Z3 ⟨ax.new hD,aA⟩ ?_ ?_ ?_ ?_
 ·rintro i H' hi ⟨sm,hd⟩;exact⟨_,us,_,us[i]'(by simp_all),aB.of (sm _ _ R1.begins),aB.of (sm _ _ hm),cp (by simp_all),cp (by simp_all)⟩
 ·rintro H' ⟨sm,hd⟩;exact⟨_,us,aB.of (sm _ _ R1.begins),aB.of (sm _ _ hm),.inr (by simp[*])⟩
 ·rintro i H' y H2 hi ⟨sm,hd⟩ ⟨Tt,x2,x1,rfl,hT,rfl,dW,fj⟩
  have fj:=fj us (aB.of (sm _ _ hm));have dW:=dW _ (aB.of (sm _ _ R1.begins));obtain⟨z,hz⟩:∃z,x.h[i]?=some z:=⟨_,cp hi⟩;rw[cb,cb,hz]at dW;obtain⟨u',wg,mu⟩:=Paired.get pu (i:=i) (x:=z.1) (by simp[*]);rw[wg]at fj;obtain rfl:=bC fj;obtain rfl:V.int (z.2:Int)=x2:=bC dW;have s2:=sm.trans (ax.new (o:=.tup [V.int (z.2:Int),u']) hT);have mu:=mu.mono s2;obtain⟨mp,u6,ib,ml,md,rfl,M1⟩:=mu;have nT:D≠Tt:=λq=>by lia
  refine⟨_,_,rfl,aX.of aA,rfl,_,_,rfl,_,_,rfl,rfl,rfl,?_⟩;refine⟨_,rfl,_,rfl,mp,_,_,_,_,rfl,M1.obj,T.fT,T.xH,rfl,_,_,rfl,rfl,?_⟩;have he:(cZ x.h)[i]?=some (z.2+z.1.bS):=by unfold cZ;simp[*]
  refine⟨_,by rw[ay nT];exact hd,by rw[aT,dQ];unfold cZ;rw[aT,bP];grind,λb o e=>?_,?_⟩
  ·rw[ay (bz e hD)];exact s2 _ _ e
  rw[aA,dS he];simp[*]
 rintro H' ⟨sm,hd⟩;rw[fq (by unfold cZ;simp[*])]at hd;exact k H' D sm hD hd
open Yn (dJ iA bu)
theorem pairs_at:∀(i:Nat) (l:List Nat) (t k:Nat),l[2*i]?=some t->l[2*i+1]?=some k->(dJ l)[i]?=some (t,k)
 |i,[],_,_,h,_=>by cases h
 |i,[x],_,_,_,h=>by simp_all
 |0,x::y::r,t,k,h1,h2=>by have e1:x=t:=bC h1;have e2:y=k:=bC h2;rw[<-e1,<-e2];rfl
 |i+1,x::y::r,t,k,h1,h2=>by
  show(dJ r)[i]?=_;refine pairs_at i r t k ?_ ?_
  ·assumption
  assumption
def drop_cons{α:Type}{l:List α}{i:Nat}{x:α}(h:l[i]?=some x):l.drop i=x::l.drop (i+1):=by obtain⟨bq,rfl⟩:=dq.mp h;exact List.drop_eq_getElem_cons bq
inductive Px(A0:aL)(vs:List V)(H:Hp)(Q:VK):Prop
 |mk:∀(S:List Addr) (a:YA) (s:State) (tl:Addr) (l:List Nat),vs=[.ref a.y,.ref tl]->cu S H->dk A0 (cut S H) a s->H tl=some (.lst (aR l))->l.length<=40000->(∀H' v p,ax H H'->dj A0 (cut S H') ⟨p,bu s l⟩ v->Q v H')->Px A0 vs H Q
def agx(A0:aL):Sp:=λvs H Q _=>Px A0 vs H Q
def FP(T:Txt w K mg A0):
  b9 P w K mg base "row_of" 5 ["yard","told"] (agx A0):=by
 refine cg ["yard","told","row","train","what","move"] T.adq ?_;rintro nD f aU A outer s H vs Q E hr ⟨S,a,s,tl,l,rfl,a_,hY,dE,hlen,k⟩;refine⟨_,(aF (bw 2 nD (bB (Pq T) hr (aq (zH Jp rfl T.Nq M8 (aq (aV (pv 0) rfl) aC)) aC))) (aF (fX fW rfl (zZ rfl T.xE (aq (Ls (pv 1) mr (i6 aP)) (aq (Ls (pv 1) (i6 aP) (i6 aP)) aC))) (nr rfl (gw (ck 3 nD) (gw (ck 4 nD) mm))) (aF (bw 5 nD (bB (Pf T) hr (aq (pv 0) (aq (aV (pv 2) rfl) (aq (pv 3) (aq (pv 4) aC)))))) (aF (bD (bT qP (pv 5) eF) (aH (aS (pv 2))) bH) (aH (bw 2 nD (bB (Pt T) hr (aq (pv 2) (aq (pv 5) (aq (bj cH (aV (pv 0) rfl) (pv 3)) aC))))))))) (aH (aS (pv 2))))),?_⟩;try dsimp only[bc,Cx.bf]
 refine iS ?_;intro _ _;obtain⟨us,dU,jP⟩:=hY.stands;refine⟨_,rfl,a.y,_,_,_,_,rfl,aJ _ _ hY.obj,T.di,T.xM,Bf a,_,_,rfl,.inl ⟨aB.of (aJ _ _ dU),λst b4=>?_⟩⟩;have s1:=ax.new (o:=.tup us) b4;refine⟨S,st,s.at_,rfl,a_.same s1,StandsAt.of (eE a_ b4 aA) (Paired.cj jP λ_ _ q=>gc.mono (gc.mono q aJ) (bN s1)),λH1 Py s2 sW=>?_⟩;have u7:=s1.trans s2;refine⟨_,rfl,_,rfl,tl,_,2,rfl,aB.of (u7 _ _ dE),rfl,by decide,λp3 cE=>?_⟩;have s3:=u7.trans (ax.new (o:=.lst (fg (gg none 2 (aR l).length) (aR l))) cE);refine⟨_,rfl,_,rfl,_,rfl,tl,_,2,rfl,aB.of (s3 _ _ dE),rfl,by decide,λp4 fh=>?_⟩;have jl:=ax.new (o:=.lst (fg (gg (some 1) 2 (aR l).length) (aR l))) fh;refine⟨p3,p4,_,_,rfl,aB.of (jl _ _ aA),aB.of aA,?_⟩;obtain⟨le,he⟩:=X5 (aR l);obtain⟨lo,ho⟩:=X6 (aR l);have e3:=jl _ _ (aA (H:=H1) (a:=p3) (o:=.lst (fg (gg none 2 (aR l).length) (aR l))));have e4:=aA (H:=upd H1 p3 (.lst (fg (gg none 2 (aR l).length) (aR l)))) (a:=p4) (o:=.lst (fg (gg (some 1) 2 (aR l).length) (aR l)));have s4:=s3.trans jl;generalize upd (upd H1 p3 (.lst (fg (gg none 2 (aR l).length) (aR l)))) p4 (.lst (fg (gg (some 1) 2 (aR l).length) (aR l)))=H4 at e3 e4 s4 jl⊢;generalize fg (gg none 2 (aR l).length) (aR l)=xs at le he e3 s3 jl s4⊢;generalize fg (gg (some 1) 2 (aR l).length) (aR l)=ys at lo ho e4 s4 jl⊢;have hr4:dj A0 (cut S H4) ⟨s.at_,[]⟩ Py:=sW.mono (bN ((ax.new cE).trans jl));rw[aT]at le lo he ho;have eG:=Yn.pF l;let Z1:Nat->L2.St->Hp->Prop:=λi σ H'=>Cj λ(x:aN) (rv:V) (v3 v4 v5:Option V)=>tS (σ=[some (.ref a.y),some (.ref tl),some rv,v3,v4,v5]) (ax H4 H') (dj A0 (cut S H') x rv) (Yn.de s.plan.sects.length x.at_) (x.h.length=i) (bu s l=iA s.plan s.routes s.takes s.ready x.h x.at_ ((dJ l).drop i));refine pU (n:=l.length /2) Z1 ⟨⟨s.at_,[]⟩,Py,none,none,none,rfl,ax.refl _,hr4,hY.good.at_,rfl,rfl⟩ ?_ ?_ ?_ ?_
 ·rintro i σ H' hi ⟨x,rv,v3,v4,v5,rfl,sm,_⟩;exact⟨xs,ys,xs[i]'(by lia),ys[i]'(by simp[*]),aB.of (sm _ _ e3),aB.of (sm _ _ e4),cp _,cp _⟩
 ·rintro σ H' ⟨x,rv,v3,v4,v5,rfl,sm,_⟩;exact⟨xs,ys,aB.of (sm _ _ e3),aB.of (sm _ _ e4),.inr (by simp[*])⟩
 ·rintro i σ H' y H2 hi ⟨x,rv,v3,v4,v5,rfl,sm,eD,aK,hxl,heq⟩ ⟨Tt,x1,x2,rfl,hT,rfl,fj,dW⟩
  have fj:=fj xs (aB.of (sm _ _ e3));have dW:=dW ys (aB.of (sm _ _ e4));rw[he i (by lia)]at fj;rw[ho i (by omega)]at dW;rw[cb]at fj dW;obtain⟨t,ht,rfl⟩:=jq.mp fj;obtain⟨wh,hw,rfl⟩:=jq.mp dW;have hpi:=pairs_at i l t wh ht hw;rw[drop_cons hpi]at heq;have s5:=s4.trans (sm.trans (ax.new (o:=.tup [V.int (t:Int),V.int (wh:Int)]) hT));have sT:=ax.new (o:=.tup [V.int (t:Int),V.int (wh:Int)]) hT;refine⟨_,_,rfl,aX.of aA,rfl,_,_,rfl,_,_,rfl,rfl,?_⟩;have yw:=eD.mono (bN sT);obtain⟨rp,ia,gV,rm,rb,rfl,R1⟩:=id yw;refine⟨_,rfl,_,rfl,rp,_,_,_,_,rfl,aJ _ _ R1.obj,T.dz,T.rw_stands,rfl,_,rfl,_,rfl,S,a,s,gV,x.at_,t,wh,rfl,⟨a_.same s5,hY.mono (bN s5),R1.stands,aK⟩,λH6 v s6 hv=>?_⟩;refine⟨_,rfl,rfl,_,rfl,?_⟩;have pY:bu s l=match cN s.plan s.routes s.takes x.at_ (t,wh)with
   |none=>x.h
   |some mv=>iA s.plan s.routes s.takes s.ready (x.h++[(mv,bX (s.ready.getD t 0) x.h mv)]) mv.to ((dJ l).drop (i+1)):=heq
  cases qm:cN s.plan s.routes s.takes x.at_ (t,wh)with
  |none=>rw[qm]at hv pY;obtain rfl:v= .aQ:=hv;refine bA ?_;have pY:bu s l=x.h:=pY;rw[pY]at k;exact⟨_,rfl,k H6 _ x.at_ (s5.trans s6) (yw.mono (bN s6))⟩
  |some mv=>
   rw[qm]at hv pY;have hv:f7 A0 (cut S H6) mv v:=hv;have pY:bu s l=iA s.plan s.routes s.takes s.ready (x.h++[(mv,bX (s.ready.getD t 0) x.h mv)]) mv.to ((dJ l).drop (i+1)):=pY;obtain⟨q,hq,pD⟩:=Yn.rW qm;have FQ:t<3:=Yn.D0 hq aK.len;have hmt:mv.to=q:=by rw[pD]
   have htr:t<s.ready.length:=by rw[hY.good.mI];exact FQ
   have wY:decide (v= .aQ)=false:=by obtain⟨p,_,_,_,_,rfl,_⟩:=hv;simp[*]
   rw[wY];refine bg ?_;have FR:=s5.trans s6;refine⟨_,rfl,_,rfl,_,rfl,a.y,_,_,_,_,rfl,FR _ _ (aJ _ _ hY.obj),T.di,T.AU,FE a,_,rfl,_,_,_,_,rfl,rfl,aB.of (FR _ _ (aJ _ _ hY.ready)),bE (v:=V.int ((s.ready.getD t 0:Nat):Int)) (by simp[*]),?_⟩;refine⟨S,_,v,x,mv,s.ready.getD t 0,rfl,a_.same FR,yw.mono (bN s6),hv,by lia,λH7 v7 s7 hr7=>?_⟩;refine⟨_,v7,_,_,_,rfl,sm.trans (sT.trans (s6.trans s7)),hr7,?_,?_,pY⟩
   ·show Yn.de _ mv.to;rw[hmt];exact Yn.de.moved hY.good.land aK hq
   simp[*]
 rintro σ H' ⟨x,rv,v3,v4,v5,rfl,sm,eD,aK,hxl,heq⟩;rw[List.drop_eq_nil_of_le (by simp[*])]at heq;have heq:bu s l=x.h:=heq;rw[heq]at k;exact⟨_,rfl,k H' _ x.at_ (s4.trans sm) eD⟩
open Yn (kE pE)
theorem agD(h:ms[i]?=some m)(ht:ts[i]?=some m.bS):kE ms ts i (i+1):=by intro m' T h1 h2;rw[h]at h1;obtain rfl:=bC h1;rw[ht]at h2;obtain rfl:=bC h2;exact⟨aW _,λl' _ _ a b=>by grind,.inl rfl⟩
theorem agE(p:kE ms ts i l)(h:ms[i]?=some m)(h':ms[l]?=some m')(hw:¬0<bM m m'):kE ms ts i (l+1):=by
 intro m0 T h1 h2;obtain⟨a,b,c⟩:=p m0 T h1 h2;rw[h]at h1;obtain rfl:=bC h1;refine⟨a,λl' m2 T' x y q r z=>?_,?_⟩
 ·rcases Nat.lt_or_ge l' l with w|w
  ·exact b l' m2 T' x w q r z
  have:l'=l:=by lia
  simp_all
 rcases c with c|⟨l',m2,T',x,y,q,r,z,e⟩
 ·exact .inl c
 exact .inr ⟨l',m2,T',x,by lia,q,r,z,e⟩
theorem agF(p:kE ms ts i l)(gf:i<l)(h:ms[i]?=some m)(h':ms[l]?=some m')(ht:ts[i]?=some T)(Pz:ts[l]?=some T')(hw:0<bM m m'):kE ms (ts.set i (max T (bM m m'+T'))) i (l+1):=by
 intro m0 T0 h1 h2;obtain⟨a,b,c⟩:=p m T h ht;rw[h]at h1;obtain rfl:=bC h1;have hlen:=(dq.mp ht).1;rw[yU hlen]at h2;obtain rfl:=bC h2;have ne:∀l',i<l'->(ts.set i (max T (bM m m'+T')))[l']?=ts[l']?:=λl' hl=>jS (by exact dP ‹_›);refine⟨by lia,λl' m2 T2 x y q r z=>?_,?_⟩
 ·rw[ne l' x]at r
  rcases Nat.lt_or_ge l' l with w|w
  ·have:=b l' m2 T2 x w q r z;grind
  have:l'=l:=by lia
  subst this;rw[h']at q;obtain rfl:=bC q;rw[Pz]at r;obtain rfl:=bC r;lia
 by_cases hc:T<=bM m m'+T'
 ·exact .inr ⟨l,m',T',gf,by simp[*],h',by rw[ne l gf];exact Pz,hw,by simp[*]⟩
 rcases c with c|⟨l',m2,T2,x,y,q,r,z,e⟩
 ·exact .inl (by grind)
 exact .inr ⟨l',m2,T2,x,by lia,q,by rw[ne l' x];exact r,z,by grind⟩
theorem agG(hj:e<j)(p:kE ms ts j n):kE ms (ts.set e v) j n:=by
 have ne:∀l',j<=l'->(ts.set e v)[l']?=ts[l']?:=λl' hl=>jS (by lia);intro m T h1 h2;rw[ne j (aW _)]at h2;obtain⟨a,b,c⟩:=p m T h1 h2;refine⟨a,λl' m2 T2 x y q r z=>b l' m2 T2 x y q (by rw[<-ne l' (by exact gN ‹_›)];exact r) z,?_⟩;rcases c with c|⟨l',m2,T2,x,y,q,r,z,e'⟩
 ·exact .inl c
 exact .inr ⟨l',m2,T2,x,y,q,by rw[ne l' (by exact gN ‹_›)];exact r,z,e'⟩
def Bh(h:j<n):j7 n (j:Int)=some j:=by
 have:=bE (by rw[List.getElem?_range h]);unfold iu at this;rw[List.length_range]at this;cases q:j7 n (j:Int)with
 |none=>simp_all
 |some i=>rw[q]at this;have e:=this;obtain⟨hi,e⟩:=dq.mp e;simp_all
def ints_set(ts:List Nat)(j v:Nat):(aR ts).set j (V.int (v:Int))=aR (ts.set j v):=by simp[*]
def sX{ts:List Nat}{j v:Nat}(h:ts[j]?=some v):(aR ts)[j]?=some (V.int (v:Int)):=by simp[*]
inductive PB(A0:aL)(vs:List V)(H:Hp)(Q:VK):Prop
 |mk:∀(r:V) (x:aN),vs=[r]->dj A0 H x r->x.h.length<=100000->(∀H' p ts,ax H H'->H p=none->H' p=some (.lst (aR ts))->pE (x.h.map (·.1)) ts->Q (.ref p) H')->PB A0 vs H Q
def agH(A0:aL):Sp:=λvs H Q _=>PB A0 vs H Q
def agI(T:Txt w K mg A0):b9 P w K mg base "tails_of" 3 ["row"] (agH A0):=by
 refine cg ["row","tails","earlier","later","wait","move"] T.ads ?_;rintro nD f aU A outer s H vs Q E hr ⟨r,x,rfl,eD,hlen,k⟩;obtain⟨rp,ia,gV,rm,rb,rfl,R1⟩:=id eD;refine⟨_,(aF (JP (i:=1) (own:=[("move",5)]) rfl nD rfl rfl (JR rfl rfl rfl rfl) (g9 (aV (pv 0) rfl)) (i7 (by rfl)) (λ_ _ _ _ _=>(ck 5 nD)) (λ_ _ _ _ _=>j9) (λ_ _ _ _ _=>(Ba rfl (pv 5) rfl))) (aF (fX fW rfl (Dj rfl T.xF (aq (dC jY (cR eU rfl T.eJ eI (aq (pv 1) aC)) aP) (aq (eh eA aP) (aq (eh eA aP) aC)))) (ck 2 nD) (aH (fX fW rfl (Ud rfl T.xF (aq (dC lj (pv 2) aP) (aq (cR eU rfl T.eJ eI (aq (pv 1) aC)) aC))) (ck 3 nD) (aF (bw 4 nD (bB (Pl T) hr (aq (pv 0) (aq (pv 2) (aq (pv 3) aC))))) (aH (bD (bT jv (pv 4) aP) (aH (zq (cR (CD rfl) rfl T.xD xA (aq (bj cH (pv 1) (pv 2)) (aq (dC lj (pv 4) (bj cH (pv 1) (pv 3))) aC))) (zo (pv 1) (pv 2) set_list (λ_=>rfl)))) bH)))))) (aH (aS (pv 1))))),?_⟩;try dsimp only[bc,Cx.bf]
 refine iS ?_;intro _ _;obtain⟨us,hm,pu⟩:=R1.moves;have lu:=bZ pu;rw[aT]at lu;let ms:=x.h.map (·.1);have lms:ms.length=x.h.length:=aT _;refine⟨_,rfl,rp,_,_,_,_,rfl,R1.obj,T.dz,T.rw_moves,rfl,rm,rfl,⟨_,aB.of hm⟩,λD hD=>?_⟩;let Z1:Nat->Hp->Prop:=λi H'=>ax H H'/\H' D=some (.lst (aR ((ms.map (·.bS)).take i)));refine nF Z1 ⟨ax.new hD,aA⟩ (λi H' _ q=>aB.of (q.1 _ _ hm)) ?_ ?_
 ·rintro i v H' hx ⟨sm,sV⟩
  obtain⟨m,hmm,kP⟩:=Paired.get' pu hx;have kP:=kP.mono sm;obtain⟨mp,u6,ib,ml,md,rfl,M1⟩:=kP;have hg:(ms.map (·.bS))[i]?=some m.bS:=by rw[cb,hmm];rfl
  refine⟨rfl,_,rfl,mp,_,_,_,_,rfl,M1.obj,T.fT,T.xH,rfl,?_⟩;refine⟨_,sV,by rw[aT,dQ,aT,bP];lia,λb o e=>?_,?_⟩
  ·rw[ay (bz e hD)];exact sm _ _ e
  rw[aA,dS hg];simp[*]
 rintro H1 ⟨s1,FT⟩;rw[fq (by simp[*])]at FT;refine⟨_,rfl,_,_,rfl,.inl (aB.of FT),_,_,rfl,rfl,_,rfl,_,rfl,?_⟩;rw[aT,aT,lms];have yx:nH ((x.h.length:Int) - 1) (-1) (-1) x.h.length:=by have:=nH.neg (i:=(x.h.length:Int) - 1) (j:= -1) (by lia) (by lia) (by simp[*]) (by simp[*]);simp_all
 refine⟨_,_,_,_,rfl,yx,?_⟩;let Z2:Nat->L2.St->Hp->Prop:=λi σ H'=>k9 λ(v2 v3 v4:Option V) (ts:List Nat)=>tS (σ=[some (.ref rp),some (.ref D),v2,v3,v4,none]) (ax H H') (H' D=some (.lst (aR ts))) (ts.length=x.h.length) (∀j,x.h.length - i<=j->j<x.h.length->kE ms ts j x.h.length) (∀j,j<x.h.length - i->ts[j]?=(ms[j]?).map (·.bS));refine Dk Z2
  ⟨none,none,none,ms.map (·.bS),rfl,s1,FT,by simp[*],λj a b=>by lia,λj hj=>by simp[*]⟩ ?_ ?_
 ·rintro i σ H' hi ⟨v2,v3,v4,ts,rfl,sm,hd,hl,h1,h2⟩
  have ei:((x.h.length:Int) - 1+(i:Int)*(-1))=((x.h.length - 1 - i:Nat):Int):=by grind
  rw[ei];generalize he:x.h.length - 1 - i=e;have rF:e<x.h.length:=by lia
  obtain⟨z,hz⟩:∃z,x.h[e]?=some z:=⟨_,cp rF⟩;have ue:ms[e]?=some z.1:=by rw[cb,hz];rfl
  have hte:ts[e]?=some z.1.bS:=by rw[h2 e (by lia),ue];rfl
  refine⟨_,rfl,_,_,rfl,rfl,_,rfl,_,_,rfl,.inl (aB.of hd),?_⟩;refine⟨_,_,rfl,⟨by lia,by grind,by simp[*],by rw[aT];lia⟩,?_⟩;have en:((((aR ts).length:Nat):Int) -((e:Int)+1)).toNat=x.h.length -(e+1):=by rw[aT];grind
  rw[en];let Z3:Nat->L2.St->Hp->Prop:=λt σ H'=>iY λ(v3 v4:Option V) (ts:List Nat)=>vM (σ=[some (.ref rp),some (.ref D),some (.int (e:Int)),v3,v4,none]) (ax H H') (H' D=some (.lst (aR ts))) (ts.length=x.h.length) (kE ms ts e (e+1+t)) (∀j,e<j->j<x.h.length->kE ms ts j x.h.length) (∀j,j<e->ts[j]?=(ms[j]?).map (·.bS));refine Ih Z3
   ⟨v3,v4,ts,rfl,sm,hd,hl,agD ue hte,λj a b=>h1 j (by lia) b,λj a=>h2 j (by grind)⟩ ?_ ?_
  ·rintro t σ H' ht ⟨v3,v4,ts,rfl,sm,hd,hl,hp,h1,h2⟩
   have el:((e:Int)+1+(t:Int))=((e+1+t:Nat):Int):=by rfl
   rw[el];generalize hle:e+1+t=l;have hll:l<x.h.length:=by grind
   obtain⟨y,hy⟩:∃y,x.h[l]?=some y:=⟨_,cp hll⟩;have oZ:ms[l]?=some y.1:=by rw[cb,hy];rfl
   obtain⟨Te,PD⟩:∃v,ts[e]?=some v:=⟨_,cp (by simp_all)⟩;obtain⟨Tl,PF⟩:∃v,ts[l]?=some v:=⟨_,cp (by simp_all)⟩;refine⟨_,rfl,_,rfl,_,rfl,V.ref rp,x,e,l,z,y,rfl,eD.mono sm,hz,hy,λH3 s3=>?_⟩;refine⟨_,rfl,_,_,rfl,rfl,_,rfl,?_⟩;have gj:=s3 _ _ hd;by_cases hw:0<bM z.1 y.1
   ·rw[cq (by simp[*])]
    refine bA ⟨_,rfl,_,rfl,_,_,_,_,rfl,rfl,aB.of gj,bE (sX PD),_,rfl,_,rfl,_,rfl,_,_,_,_,rfl,rfl,aB.of gj,bE (sX PF),_,_,rfl,rfl,_,_,rfl,?_⟩;have ev:(if(((bM z.1 y.1:Nat):Int)+(Tl:Int))>(Te:Int)then(((bM z.1 y.1:Nat):Int)+(Tl:Int))else(Te:Int))=((max Te (bM z.1 y.1+Tl):Nat):Int):=by split<;>lia
    refine⟨_,rfl,_,rfl,D,_,_,e,rfl,rfl,gj,Bh (by rw[aT];simp_all),?_⟩;refine⟨_,_,ts.set e (max Te (bM z.1 y.1+Tl)),rfl,λb o q=>?_,?_,by simp[*],?_,λj a b=>agG a (h1 j a b),λj a=>?_⟩
    ·rw[ay (bz q hD)];exact s3 _ _ (sm _ _ q)
    ·rw[aA,<-ints_set,<-ev]
    ·rw[show e+1+(t+1)=l+1 from by lia];exact agF (by rw[<-hle];exact hp) (by omega) ue oZ PD PF hw
    rw[jS (by exact kS ‹_›)];exact h2 j a
   rw[b7 (by simp[*])];refine bg ⟨_,_,ts,rfl,sm.trans s3,gj,hl,?_,h1,h2⟩;rw[show e+1+(t+1)=l+1 from by lia];exact agE (by rw[<-hle];exact hp) ue oZ hw
  rintro σ H' ⟨v3,v4,ts,rfl,sm,hd,hl,hp,h1,h2⟩;rw[show e+1+(x.h.length -(e+1))=x.h.length from by grind]at hp;refine⟨_,v3,v4,ts,rfl,sm,hd,hl,λj a b=>?_,λj a=>h2 j (by lia)⟩;rcases Nat.lt_or_ge e j with c|c
  ·exact h1 j c b
  have:j=e:=by lia
  rw[this];exact hp
 rintro σ H' ⟨v2,v3,v4,ts,rfl,sm,hd,hl,h1,h2⟩;refine⟨_,rfl,k H' D ts sm hD hd ⟨by simp[*],λj=>?_⟩⟩;rw[aT];by_cases hj:j<x.h.length
 ·exact h1 j (by simp[*]) hj
 intro m T q _;simp_all
inductive PH(A0:aL)(vs:List V)(H:Hp)(Q:VK):Prop
 |mk:∀(r:V) (x:aN) (j:Nat),vs=[r,.int j]->dj A0 H x r->x.h.length<=100000->j<x.h.length->(∀H' ts,ax H H'->pE (x.h.map (·.1)) ts->Q (.int (((x.done:Nat):Int) -(((x.h.map (·.2)).getD j 0:Nat):Int) -((ts.getD j 0:Nat):Int))) H')->PH A0 vs H Q
def agN(A0:aL):Sp:=λvs H Q _=>PH A0 vs H Q
def agO(T:Txt w K mg A0):b9 P w K mg base "slack_of" 4 ["row","number"] (agN A0):=by
 refine cg ["row","number"] T.adt ?_;rintro nD f aU A outer s H vs Q E hr ⟨r,x,j,rfl,eD,hlen,hj,k⟩;obtain⟨rp,ia,gV,rm,rb,rfl,R1⟩:=id eD;refine⟨_,(aH (aS (dC jY (dC jY (aV (pv 0) rfl) (bj cH (aV (pv 0) rfl) (pv 1))) (bj cH (bB (agI T) hr (aq (pv 0) aC)) (pv 1))))),?_⟩;try dsimp only[bc,Cx.bf]
 have hb:(x.h.map (·.2))[j]?=some ((x.h.map (·.2)).getD j 0):=by simp[*]
 refine⟨_,rfl,rp,_,_,_,_,rfl,R1.obj,T.dz,T.rw_done,rfl,_,rfl,rp,_,_,_,_,rfl,R1.obj,T.dz,T.rw_begins,rfl,_,rfl,_,_,_,_,rfl,rfl,aB.of R1.begins,bE (sX hb),_,_,rfl,rfl,_,rfl,V.ref rp,x,rfl,eD,hlen,λH1 p ts s1 A9 hp ht=>?_⟩;have mJ:ts[j]?=some (ts.getD j 0):=by rw[l_,cp (by rw[ht.1,aT];exact hj)];rfl
 exact⟨_,rfl,_,_,_,_,rfl,rfl,aB.of hp,bE (sX mJ),_,_,rfl,rfl,k H1 ts s1 ht⟩
inductive PJ(A0:aL)(vs:List V)(H:Hp)(Q:VK):Prop
 |mk:∀(r:V) (x:aN) (i j:Nat),vs=[r,.int i,.int j]->dj A0 H x r->i<x.h.length->j<x.h.length->(∀H',ax H H'->Q (.bl (Yn.jI x.h i j)) H')->PJ A0 vs H Q
def agP(A0:aL):Sp:=λvs H Q _=>PJ A0 vs H Q
def agQ(T:Txt w K mg A0):b9 P w K mg base "is_bound" 3 ["row","earlier","later"] (agP A0):=by
 refine cg ["row","earlier","later","wait"] T.adu ?_;rintro nD f aU A outer s H vs Q E hr ⟨r,x,i,j,rfl,eD,hi,hj,k⟩;obtain⟨rp,ia,gV,rm,rb,rfl,R1⟩:=id eD;refine⟨_,(aF (bw 3 nD (bB (Pl T) hr (aq (pv 0) (aq (pv 1) (aq (pv 2) aC))))) (aH (aS (jW (hG jv (pv 3) aP (g_ _)) (iN (hG e_ (dC lj (bj cH (aV (pv 0) rfl) (pv 1)) (pv 3)) (bj cH (aV (pv 0) rfl) (pv 2)) (g_ _))))))),?_⟩;try dsimp only[bc,Cx.bf]
 refine pL ?_;intro _;obtain⟨a,ha⟩:∃a,x.h[i]?=some a:=⟨_,cp hi⟩;obtain⟨b,hb⟩:∃b,x.h[j]?=some b:=⟨_,cp hj⟩;refine⟨_,rfl,_,rfl,_,rfl,V.ref rp,x,i,j,a,b,rfl,eD,ha,hb,λH1 s1=>?_⟩;have ek:Yn.jI x.h i j=(decide (0<bM a.1 b.1)&&decide (a.2+bM a.1 b.1=b.2)):=by unfold Yn.jI;rw[ha,hb]
 rw[ek]at k;have hba:(x.h.map (·.2))[i]?=some a.2:=by rw[cb,ha];rfl
 have Dy:(x.h.map (·.2))[j]?=some b.2:=by rw[cb,hb];rfl
 refine⟨_,rfl,_,_,rfl,rfl,_,rfl,?_⟩;by_cases hw:0<bM a.1 b.1
 ·rw[cq (show(0:Int)<((bM a.1 b.1:Nat):Int) by simp[*])]
  rw[cq hw]at k;refine bA ⟨_,rfl,rp,_,_,_,_,rfl,s1 _ _ R1.obj,T.dz,T.rw_begins,rfl,_,rfl,_,_,_,_,rfl,rfl,aB.of (s1 _ _ R1.begins),bE (sX hba),_,rfl,_,_,rfl,rfl,_,rfl,rp,_,_,_,_,rfl,s1 _ _ R1.obj,T.dz,T.rw_begins,rfl,_,rfl,_,_,_,_,rfl,rfl,aB.of (s1 _ _ R1.begins),bE (sX Dy),rfl,?_⟩;have e:decide (V.int ((a.2:Int)+((bM a.1 b.1:Nat):Int))=V.int (b.2:Int))=(true&&decide (a.2+bM a.1 b.1=b.2)):=by rw[m_];exact tQ.mpr ⟨λz=>by injection z with z;lia,λz=>by rw[<-z];simp⟩
  rw[e];exact k H1 s1
 simp_all
def agS:PySem.isSubtype (.type "dict") (.type "dict")=pure true:=by rfl
def agT(hT:s.TypeIs (.ref r) "dict")(h:Q false s):wpAny (model prog w) A (Builtin.List.listLengthHint (.ref r)) Q E s:=by refine au (l8 hT F.slot_dict_len.lookup ?_);refine au (qC hT agS ?_);refine au (wpAny_typeOf hT ?_);exact aI h
def agU(hh:A.handled=none)(I d:Addr)(bO:d≠I)(fe:o.data= .dict es ep):
  Walks prog w A I [I,d] [I] es.size (λi v=>∃en,es[i]?=some en/\v=en.key) (λi h=>h.IsKeyIter I d i es.size ep/\h.get? d=some o)where
 sub:=by simp
 frame:=λi h h' ⟨a,b⟩ k=>⟨a.at λo e=>k I (by simp) o e,k d (by simp) _ b⟩
 item:=λi s Q E hi ⟨a,b⟩ h=>Wy a b fe rfl (G5 hi) λh' st sb=>h _ h' s.toks ⟨_,G5 hi,rfl⟩ ⟨st,(sb.2 d bO).trans b⟩ λb o hb e=>(sb.2 b (λz=>hb (by simp[*]))).trans e
 done:=λs Q E ⟨a,b⟩ h=>Wz hh a b fe rfl (aW _) λh' eb=>h h' s.toks λb o hb e=>eb b o (λz=>hb (by simp[*])) e
 self:=λi s Q E ⟨st,b⟩ h=>by refine G1 st.typeIs F.slot_dict_keyiterator_iter (gY F.slot_dict_keyiterator_iter st.typeIs F.entry_dict_keyiterator_iter ?_ (F.args_dict_keyiterator_iter_1 _));exact aI ⟨_,rfl,"dict_keyiterator",_,st.typeIs,yZ.lookup,h⟩
def agV(hs:(d==sysModules)=false)(hx:o.ExactDict)(fe:o.data= .dict es ep):
  PySem.W.KdlSrc prog w "dict" d d es.size (λi v=>∃en,es[i]?=some en/\v=en.key) (λh=>h.get? d=some o)where
 type:=λs ho=>⟨o,ho,hx.1⟩
 there:=λh ho=>⟨bK ho,bK ho⟩
 keep:=λh h' ho k=>k d (.inl rfl) _ ho
 notList:=by decide
 notTuple:=by decide
 hint:=λA E s Q ho h=>agT ⟨o,ho,hx.1⟩ h
 iter:=λA s hh ho=>by refine⟨{cls:=.type "dict_keyiterator",data:=.fields #[.ref d,.int 0 0,.int es.size 0,.int ep 0]},_,λE Q q=>Wx hs ho hx fe q,agU hh s.heap.objs.size d (dP (bK ho)) fe,⟨_,cv _ rfl,rfl,rfl⟩,bI _ ho⟩
def agW(hh:A.handled=none)(hs:(d==sysModules)=false)(hx:o.ExactDict)(fe:o.data= .dict es ep)(ho:s.heap.get? d=some o)(hn:es.size<=sizeLine)
  (ht:∀h':Heap,(∀b o,s.heap.get? b=some o->h'.get? b=some o)->TupsOf h' shape (es.toList.map (·.key)) fs/\∀v∈es.toList.map (·.key),∃l,G.tupKeyC h' shape v=some l)
  (h:∀(h1 h2:Heap) (tk:Nat) (out:List Keyed) (c:Nat) (hk:Heap),(∀b o,s.heap.get? b=some o->hk.get? b=some o)->(∀b o,s.heap.get? b=some o->h1.get? b=some o)->(∀b o,h1.get? b=some o->h2.get? b=some o)->h2.get? h1.objs.size=some {cls:=.type "list",data:=.seq (out.map (·.2)).toArray c}->
   out.Perm ((es.toList.map (·.key)).zip (es.toList.map (·.key)))->SortedToK (G.tupKindC hk shape) out.toArray out.length->Q (.ref h1.objs.size) {s with heap:=h2,toks:=tk}):
  wpAny (model prog w) A (call (.builtin "sorted") [.ref d]) Q E s:=by
 refine Lu kind_sorted plain_sorted entry_sorted (args_sorted1 _) ?_;show wpAny _ _ (collect (.ref d)>>=_) _ _ _;refine au (PySem.W.kdu_collect (agV hs hx fe) hh ho hn λh' tk acc keep hi=>?_);have ea:acc.toList=es.toList.map (·.key):=by
  refine List.ext_getElem? λi=>?_;obtain⟨hsz,hv⟩:=hi;by_cases bq:i<es.size
  ·obtain⟨en,rD,e⟩:=hv i acc[i] (by simp[hsz,bq])
   rw[cb];have:es.toList[i]?=some en:=by simpa using rD
   rw[this];simp[hsz,bq,e]
  simp[*]
 rw[ea];have hlen:(es.toList.map (·.key)).length<=sizeLine:=by simpa using hn
 refine au (wpAny_newList ?_ hlen);refine au ?_;try with_reducible refine jn ?_
 have kp:∀b o,h'.get? b=some o->(h'.push {cls:=.type "list",data:=.seq (es.toList.map (·.key)).toArray}).get? b=some o:=λb o e=>bI _ e;have hD:(h'.push {cls:=.type "list",data:=.seq (es.toList.map (·.key)).toArray}).get? h'.objs.size=some {cls:=.type "list",data:=.seq (es.toList.map (·.key)).toArray}:=cv _ rfl;obtain⟨t1,t2⟩:=ht (h'.push {cls:=.type "list",data:=.seq (es.toList.map (·.key)).toArray}) λb o e=>kp b o (keep b o e);refine gY PyProof.Rows.slot_list_sort ⟨_,hD,rfl⟩ PyProof.Rows.entry_list_sort (G.list_sort_tups hD t1 t2 hlen λfB p1 p2 p3=>⟨.none,rfl,?_⟩) (PyProof.Rows.args_list_sort _);obtain⟨ep2,he2⟩:=PyProof.Rows.sortedHeap_at (out:=(arrOf fB).map (·.2)) hD;refine aI ?_;refine h h' _ tk (arrOf fB).toList ep2 _ (λb o e=>kp b o (keep b o e)) keep (λb o q=>?_) ?_ ?_ ?_
 ·rw[PyProof.Rows.sortedHeap_old (dP (bK q)) (bK (kp b o q))];exact kp b o q
 ·rw[show(((arrOf fB).toList).map (·.2)).toArray=(arrOf fB).map (·.2) from by rw[<-Array.toList_map,Array.toArray_toList]];exact he2
 ·have:=p1.toList;simpa[pairsOf]using this
 have e:(pairsOf (es.toList.map (·.key))).size=(arrOf fB).toList.length:=by have:=p1.toList.length_eq;simp[*]
 rw[e]at p2;assumption
abbrev ow:Nat->Bool:=λ_=>false
def FU(h:Heap)(v:ao):Spot:=match G.tupKeyC h ow v with
 |some [Sum.inl a,Sum.inl b]=>(a.toNat,b.toNat)
 |_=>(0,0)
def PL{h:Heap}{q:Addr}{x:Spot}{t u:Tok}{o:Obj}{n:Nat}(e:h.get? q=some o)(hc:o.cls= .type "tuple")(hd:o.data= .seq #[.int (x.1:Int) t,.int (x.2:Int) u] n):G.tupKeyC h ow (.ref q)=some [Sum.inl (x.1:Int),Sum.inl (x.2:Int)]:=by
 unfold G.tupKeyC;have e1:G.isTupObj h (.ref q)=true:=by unfold G.isTupObj;simp only[e,hc];rfl
 rw[aD e1];unfold tupKey;simp only[e,hd];rfl
def agZ(x y:Spot):PyProof.Rows.lexLt itemOrd [Sum.inl (x.1:Int),Sum.inl (x.2:Int)] [Sum.inl (y.1:Int),Sum.inl (y.2:Int)]=Yh.spotBefore x y:=by rw[PyProof.Rows.lexLt.eq_4,PyProof.Rows.lexLt.eq_4,PyProof.Rows.lexLt.eq_1];show(decide ((x.1:Int)<(y.1:Int))||!decide ((y.1:Int)<(x.1:Int))&&(decide ((x.2:Int)<(y.2:Int))||!decide ((y.2:Int)<(x.2:Int))&&false))=_;unfold Yh.spotBefore;rw[oH];simp only[Bool.and_false,Bool.or_false,vC,fo,Bool.not_eq_true',iK,decide_eq_false_iff_not,tH];omega
inductive PM(vs:List V)(H:Hp)(Q:VK):Prop
 |mk:∀(d:Addr) (kvs:List (List Key×V)) (ss:List Spot),vs=[.ref d]->H d=some (.dT kvs)->kvs.map (·.1)=ss.map bR->(∀sY us p,sY.Perm ss->sY.Pairwise (λa b=>Yh.spotBefore b a=false)->H p=none->Paired (λx u=>∃b,u=V.ref b/\H b=some (.tup (cV x))) sY us->Q (.ref p) (upd H p (.lst us)))->PM vs H Q
def ag0:List V->Hp->VK->Prop:=λvs H Q=>PM vs H Q
theorem ag1(ag2:X.calm=true):i5 X (.builtin "sorted") ag0:=by
 intro pins s σ H vs oo Q I r h;obtain⟨d,kvs,ss,rfl,hd,hk,k⟩:=h;rw[aY.zR r];obtain⟨hz,hs,xs,pr,o,es,ep,ho,hx,fe,he,hnd⟩:=I.aK d _ hd;have hlen:es.size=ss.length:=by have l1:es.size=xs.length:=B8 he;have l2:=bZ pr;have l3:=gP List.length hk;grind
 have yy:es.toList.map (·.key)=xs.map λx=>Value.ref x.2.1:=by rw[he,fz];rfl
 have kD:Paired (λ(x:Spot) (q:Addr)=>H q=some (.tup (cV x))) ss (xs.map λx=>x.2.1):=by
  clear hd fe he yy hlen hnd k;induction pr generalizing ss with
  |nil=>
   cases ss with
   |nil=>exact .nil
   |cons=>cases hk
  |@cons p q kr xr h1 t ih=>
   cases ss with
   |nil=>cases hk
   |cons x sr=>rw[cA,cA]at hk;injection hk with hk1 hk2;refine .cons ?_ (ih sr hk2 (by simp only[bG]at hz;exact gN ‹_›));have:=h1.2.1;rw[hk1]at this;exact this
 have PN:∀(x:Spot) (q:Addr),H q=some (.tup (cV x))->k9 λ(o:Obj) (t u:Tok) (n:Nat)=>fN (s.heap.get? q=some o) (o.cls= .type "tuple") (o.data= .seq #[.int (x.1:Int) t,.int (x.2:Int) u] n):=by
  intro x q hq;obtain⟨_,its,rv,o,h1,h2,n,h3⟩:=I.aK q _ hq;cases rv with
  |cons r1 rr=>
   cases rr with
   |cons r2 rr=>cases rr;obtain⟨t,rfl⟩:=r1;obtain⟨u,rfl⟩:=r2;exact⟨o,t,u,n,h1,h2,h3⟩
 obtain⟨fs,jQ⟩:∃fs:List ao,∀h':Heap,(∀b o,s.heap.get? b=some o->h'.get? b=some o)->TupsOf h' ow (es.toList.map (·.key)) fs/\∀v∈es.toList.map (·.key),∃l,G.tupKeyC h' ow v=some l:=by
  rw[yy];have:(xs.map λx=>Value.ref x.2.1)=(xs.map λx=>x.2.1).map Value.ref:=by rw[fz];rfl
  rw[this];generalize(xs.map λx=>x.2.1)=qs at kD;clear hk hlen k;induction kD with
  |nil=>exact⟨[],λh' _=>⟨.nil,λv hv=>by simp_all⟩⟩
  |@cons x q sr qr hq t ih=>
   obtain⟨fs,jQ⟩:=ih;obtain⟨o,t1,u1,n,h1,h2,h3⟩:=PN x q hq;refine⟨.int (x.1:Int) t1::fs,λh' kp=>⟨.cons ⟨q,o,_,n,rfl,kp _ _ h1,h2,h3,rfl,λ_=>⟨_,_,rfl⟩,λz=>by simp_all⟩ (jQ h' kp).1,λv hv=>?_⟩⟩;rcases be.mp hv with rfl|hv
   ·exact⟨_,PL (kp _ _ h1) h2 h3⟩
   exact(jQ h' kp).2 v hv
 refine agW (I.ok.hd ag2) hs hx fe ho (by have:=bZ pr;have l1:es.size=xs.length:=B8 he;simp_all) jQ λh1 h2 tk out c dc ksk ks1 k12 hD perm r_=>?_;have I1:=I.kept (t':=s.toks) ks1;let f:=FU dc;let toV:ao->V:=λv=>match v with
  | .ref q=>V.ref q
  |_=>.aQ
 have hf:∀x q,H q=some (.tup (cV x))->G.tupKeyC dc ow (.ref q)=some [Sum.inl (x.1:Int),Sum.inl (x.2:Int)]/\f (.ref q)=x:=by intro x q hq;obtain⟨o,t,u,n,e1,e2,e3⟩:=PN x q hq;have e:=PL (ksk _ _ e1) e2 e3;refine⟨e,?_⟩;show FU dc (.ref q)=x;unfold FU;simp[*]
 have FV:es.toList.map (·.key)=(xs.map λx=>x.2.1).map Value.ref:=by rw[yy,fz];rfl
 rw[FV]at perm;have PQ:((xs.map λx=>x.2.1).map Value.ref).map f=ss:=by
  clear perm yy FV hk hlen k;generalize(xs.map λx=>x.2.1)=qs at kD;induction kD with
  |nil=>rfl
  |@cons x q sr qr hq t ih=>rw[cA,cA,ih,(hf x q hq).2]
 have gb:∀p∈out,dB λx q=>p=(Value.ref q,Value.ref q)/\H q=some (.tup (cV x)):=by
  intro p hp;have hp:=perm.mem_iff.mp hp;clear perm yy FV hk hlen k PQ;generalize(xs.map λx=>x.2.1)=qs at kD hp;induction kD with
  |nil=>cases hp
  |@cons x q sr qr hq t ih=>
   rw[cA,List.zip_cons_cons]at hp;rcases be.mp hp with rfl|hp
   ·exact⟨x,q,rfl,hq⟩
   exact ih hp
 have FW:(out.map λp=>f p.1).Perm ss:=by
  have e:=perm.map (λp=>f p.1);have e2:(((xs.map λx=>x.2.1).map Value.ref).zip ((xs.map λx=>x.2.1).map Value.ref)).map (λp=>f p.1)=ss:=by
   rw[<-PQ];generalize((xs.map λx=>x.2.1).map Value.ref)=l;induction l with
   |nil=>rfl
   |cons a l ih=>simp[*]
  rw[e2]at e;exact e
 have PR:Paired (λx u=>∃b,u=V.ref b/\H b=some (.tup (cV x))) (out.map λp=>f p.1) (out.map λp=>toV p.2)/\aY (out.map λp=>toV p.2) (out.map (·.2)):=by
  clear perm r_ FW hD;induction out with
  |nil=>exact⟨.nil,.nil⟩
  |cons p r ih=>
   obtain⟨i1,i2⟩:=ih λp hp=>gb p (bU _ hp)
   obtain⟨x,q,rfl,hq⟩:=gb p cT;rw[cA,cA,cA];refine⟨.cons ⟨q,rfl,?_⟩ i1,.cons rfl i2⟩;rw[(hf x q hq).2];exact hq
 have ag9:(out.map λp=>f p.1).Pairwise λa b=>Yh.spotBefore b a=false:=by
  rw[List.pairwise_iff_getElem];intro i j hi hj xb;rw[aT]at hi hj;have:=r_ i j (gN xb) hj;rw[List.getElem_map,List.getElem_map];obtain⟨xi,qi,ei,PU⟩:=gb out[i] (Hr hi);obtain⟨xj,qj,ej,PV⟩:=gb out[j] (Hr hj);have ki:KK (G.tupKindC dc ow) out.toArray i=[Sum.inl (xi.1:Int),Sum.inl (xi.2:Int)]:=by
   unfold KK;have:out.toArray[i]?=some out[i]:=by simp[hi]
   rw[this,ei];show(G.tupKeyC dc ow (.ref qi)).getD _=_;rw[(hf xi qi PU).1];rfl
  have kj:KK (G.tupKindC dc ow) out.toArray j=[Sum.inl (xj.1:Int),Sum.inl (xj.2:Int)]:=by
   unfold KK;have:out.toArray[j]?=some out[j]:=by simp[hj]
   rw[this,ej];show(G.tupKeyC dc ow (.ref qj)).getD _=_;rw[(hf xj qj PV).1];rfl
  rw[ki,kj]at this;have this:PyProof.Rows.lexLt itemOrd [Sum.inl (xj.1:Int),Sum.inl (xj.2:Int)] [Sum.inl (xi.1:Int),Sum.inl (xi.2:Int)]=false:=this;rw[agZ]at this;rw[ei,ej];rw[(hf xi qi PU).2,(hf xj qj PV).2];exact this
 have Xi:out.length<=sizeLine:=by have e:=FW.length_eq;rw[aT]at e;have l2:=bZ pr;have l1:es.size=xs.length:=B8 he;simp_all
 have new:cP X.prog X.w (upd H h1.objs.size (.lst (out.map λp=>toV p.2))) h2 h1.objs.size (.lst (out.map λp=>toV p.2)):=⟨by simp[*],out.map (·.2),c,PR.2,hD⟩;exact⟨.ref _,_,I1.laid (a:=h1.objs.size) (h':=h2) (t':=tk) k12 (aW _) new,rfl,k _ _ _ FW ag9 (I1.aK.fresh (aW _)) PR.1⟩
open Yn (xq iR iB walk jI)
theorem jM.cut(h:jM A0 S H r v):sG A0 (cut S H) r v:=by obtain⟨p,dx,a,l,e,h1,h2,h3,n1,n2,n3⟩:=h;exact⟨p,dx,a,l,e,by rw[b6 n1];exact h1,by rw[b6 n3];exact h2,by rw[b6 n2];exact h3⟩
def ag_(nd:ss.Nodup)(p:sY.Perm ss)(h:sY.Pairwise λa b=>Yh.spotBefore b a=false):sY=iR ss:=by
 obtain⟨p2,h2⟩:=Yn.M5 nd;refine Yn.M6 (p.trans p2.symm) ?_ h2;have Et:sY.Pairwise (·≠·):=p.nodup_iff.mpr nd;refine(h.and Et).imp λ{a b} ⟨q1,q2⟩=>?_
 rcases Yn.MY q1 with e|e
 ·exact absurd e.symm q2
 exact e
def iG(S:List Addr)(H:Hp):Prop:=∀b∈S,∃o,H b=some o/\∀xs,o≠ .tup xs
theorem iG.a_(d:iG S H):cu S H:=λb hb z=>by obtain⟨o,e,_⟩:=d b hb;lia
def iG.same(d:iG S H)(s:ax H H'):iG S H':=λb hb=>let⟨o,e,h⟩:=d b hb;⟨o,s _ _ e,h⟩
def iG.off(d:iG S H)(e:H b=some (.tup xs)):b∉S:=λhb=>by obtain⟨o,e',h⟩:=d b hb;simp_all
inductive PX(A0:aL)(vs:List V)(H:Hp)(Q:VK):Prop
 |mk:∀(S:List Addr) (a:PA) (R:Plan) (n:Nat),vs=[.ref a.p]->bJ A0 H a R->d9 R n->iG S H->(∀H' p us,ax H H'->H p=none->H' p=some (.lst us)->Paired (jM A0 S H') (xq R) us->us.length<=4000000->Q (.ref p) H')->PX A0 vs H Q
def aha(A0:aL):Sp:=λvs H Q _=>PX A0 vs H Q
def ahb(T:Txt w K mg A0):b9 P w K mg base "routes_of" 4 ["plan"] (aha A0):=by
 refine cg ["plan","routes","start"] T.adv ?_;rintro nD f aU A outer s H vs Q E hr ⟨S,a,R,n,rfl,hP,W,dn,k⟩;refine⟨_,(aF (bw 1 nD (cf aC)) (aF (fX fW rfl (g9 (cR (ag1 rfl) rfl T.acD abO (aq (aV (pv 0) rfl) aC))) (ck 2 nD) (aH (i3 (jy jT Cd Ce we (pv 1) (aq (bB (afJ T) hr (aq (pv 0) (aq (pv 2) aC))) aC))))) (aH (aS (pv 1))))),?_⟩;try dsimp only[bc,Cx.bf]
 refine iS ?_;intro _ _;refine⟨by simp[*],λD hD=>?_⟩;have s1:ax H (upd H D (.lst [])):=ax.new hD;have mP:=hP.mono s1;refine⟨_,rfl,a.p,_,_,_,_,rfl,mP.obj,T.c_,T.uO,xW a,a.g,_,R.signals,rfl,mP.signals,by rw[fz];rfl,λss us p perm r_ hp pair=>?_⟩;obtain rfl:=ag_ W.sy perm r_;refine⟨p,rfl,⟨us,aB.of aA⟩,?_⟩;have s2:=ax.new (o:=.lst us) hp;have npD:p≠D:=λz=>by rw[z,aA]at hp;cases hp
 have dI:(upd (upd H D (.lst [])) p (.lst us)) p=some (.lst us):=aA;have lR:(upd (upd H D (.lst [])) p (.lst us)) D=some (.lst []):=s2 _ _ aA;have FX:=Paired.cj pair λx u (q:∃b,u=V.ref b/\_)=>(let⟨b,e,h⟩:=q;⟨b,e,s2 _ _ h⟩:∃b,u=V.ref b/\(upd (upd H D (.lst [])) p (.lst us)) b=some (.tup (cV x)));have u7:=s1.trans s2;generalize upd (upd H D (.lst [])) p (.lst us)=H2 at dI lR FX u7⊢;have lss:(iR R.signals).length<=12:=by rw[perm.length_eq];exact W.xS
 let F:Spot->List nV:=λst=>(iQ R st).map λx=>⟨st,x.1,x.2⟩;have lus:=bZ FX;let Z1:Nat->L2.St->Hp->Prop:=λi σ H'=>dB λ(v2:Option V) (rs:List V)=>gR (σ=[some (.ref a.p),some (.ref D),v2]) (aG [D] H2 H') (H' D=some (.lst rs)) (Paired (jM A0 (D::S) H') (((iR R.signals).take i).flatMap F) rs);refine oV (K:=K) (a:=p) (xs:=us) Z1
  ⟨none,[],rfl,aG.of (ax.refl _),lR,.nil⟩ (λi σ H' _ q=>by obtain⟨_,_,_,fr,_⟩:=q;exact aB.of (fr _ _ dI (by simp[npD]))) ?_ ?_
 ·rintro i v σ H' hv ⟨v2,rs,rfl,fr,hd,pr⟩
  obtain⟨x,hx,b,rfl,hb⟩:=Paired.get' FX hv;have PY:b≠D:=e9 hb lR (by simp[*]);have fE:=fr _ _ hb (by simp[PY]);have sH:ax H H':=λc o e=>fr _ _ (u7 _ _ e) (by simp only[dA];exact bz e hD)
  have hxm:x∈R.signals:=perm.mem_iff.mp (d_ hx);have hxe:=(pR.mp (W.sC x hxm).1).1;have gf:i<(iR R.signals).length:=(dq.mp hx).1;refine⟨_,rfl,.inl ⟨rfl,_,aB.of hd⟩,_,rfl,_,rfl,D::S,a,R,n,b,x,rfl,hP.mono sH,W,fE,hxe,(λc hc=>by
   rcases be.mp hc with rfl|hc
   ·lia
   ·exact(dn.same sH).a_ c hc),(λz=>by
   rcases be.mp z with z|z
   ·exact PY z
   exact(dn.same sH).off fE z),λH3 p3 oq s3 afR cE yk=>?_⟩
  have l3:=bZ yk;rw[aT]at l3;have b3:=Yn.AF (P:=R) x;have lr:=bZ pr;have br:=Yn.lM F 262144 ((iR R.signals).take i) λy _=>by show((iQ R y).map _).length<=_;rw[aT];exact Yn.AF y
  rw[dQ]at br;have br2:min i (iR R.signals).length*262144<=12*262144:=Ht _ (by grind);refine⟨D,p3,rs,oq,rfl,rfl,s3 _ _ hd,cE,by rw[bP];omega,?_⟩;have b8:aG [D] H' (upd H3 D (.lst (rs++oq))):=(aG.of s3).trans (aG.upd (by simp));have gk:aG [D] H3 (upd H3 D (.lst (rs++oq))):=aG.upd (by simp);refine⟨_,rs++oq,rfl,fr.trans b8,aA,?_⟩;rw[dS hx,qE,f9,Cf,kU];exact Fv (Paired.cj pr λ_ _ q=>q.jj (b8.sub λc hc=>by simp_all)) (Paired.cj yk λ_ _ q=>q.jj (gk.sub λc hc=>by simp_all))
 rintro σ H' ⟨v2,rs,rfl,fr,hd,pr⟩;have sH:ax H H':=λc o e=>fr _ _ (u7 _ _ e) (by simp only[dA];exact bz e hD)
 rw[fq (by simp[*])]at pr;have lr:=bZ pr;have br:=Yn.lM F 262144 (iR R.signals) λy _=>by show((iQ R y).map _).length<=_;rw[aT];exact Yn.AF y
 have br2:(iR R.signals).length*262144<=12*262144:=Ht _ lss;exact⟨_,rfl,k H' D rs sH hD hd (Paired.cj pr λ_ _ q=>q.sub λc hc=>bU _ hc) (by omega)⟩
inductive PZ(A0:aL)(vs:List V)(H:Hp)(Q:VK):Prop
 |mk:∀(r:V) (x:aN),vs=[r]->dj A0 H x r->x.h.length<=100000->(∀H' p,ax H H'->H p=none->H' p=some (.lst (aR (iB x.h)))->Q (.ref p) H')->PZ A0 vs H Q
def ahh(A0:aL):Sp:=λvs H Q _=>PZ A0 vs H Q
def ahi(T:Txt w K mg A0):b9 P w K mg base "chain_of" 4 ["row"] (ahh A0):=by
 refine cg ["row","chain","earlier"] T.adw ?_;rintro nD f aU A outer s H vs Q E hr ⟨r,x,rfl,eD,hlen,k⟩;obtain⟨rp,ia,gV,rm,rb,rfl,R1⟩:=id eD;refine⟨_,(aF (bD (ni (IE (aV (pv 0) rfl) (λ_=>rfl))) (aH (aS (cf aC))) bH) (aF (bw 1 nD (cf (aq (jy jT PySem.F.slot_list_index PySem.F.type_list_index Vz (bB (Pw T) hr (aq (pv 0) aC)) (aq (aV (pv 0) rfl) aC)) aC))) (aF (fX fW rfl (Dj rfl T.xF (aq (dC jY (bj cH (pv 1) aP) aP) (aq (eh eA aP) (aq (eh eA aP) aC)))) (ck 2 nD) (aH (bD (gv (bB (agQ T) hr (aq (pv 0) (aq (pv 2) (aq (bj cH (pv 1) (eh eA aP)) aC))))) (aH (i3 (jy jT vI vJ rf (pv 1) (aq (pv 2) aC)))) bH))) (aH (aS (Y_ rfl rfl T.Nm rfl T.Nn (pv 1))))))),?_⟩;try dsimp only[bc,Cx.bf]
 refine jL ?_;intro _ _ _;obtain⟨us,hm,pu⟩:=R1.moves;have lu:=bZ pu;rw[aT]at lu;refine⟨_,rfl,rp,_,_,_,_,rfl,R1.obj,T.dz,T.rw_moves,rfl,_,.inl ⟨us,aB.of hm,rfl⟩,?_⟩;by_cases bO:x.h=[]
 ·have e:us=[]:=List.eq_nil_of_length_eq_zero (by simp_all);rw[e];refine bA ⟨by simp[*],λD hD=>?_⟩;refine k _ D (ax.new hD) hD ?_;rw[aA,bO];rfl
 have e:us.isEmpty=false:=by grind
 rw[e];refine bg ?_;have ahj:cZ x.h≠[]:=λz=>bO (Hk.mp z);have gb:=Yn.Mq ahj;obtain⟨i,hi⟩:∃i,(cZ x.h).findIdx? (λe=>e==Yh.maxOf (cZ x.h))=some i:=by
  cases q:(cZ x.h).findIdx? (λe=>e==Yh.maxOf (cZ x.h))with
  |some i=>exact⟨i,rfl⟩
  |none=>have:=List.findIdx?_eq_none_iff.mp q _ gb;simp at this
 obtain⟨gf,hie,hif⟩:=Hl.mp hi;have ahm:i<x.h.length:=by unfold cZ at gf;rw[aT]at gf;exact gf
 have ek:iB x.h=(i::walk x.h i i).reverse:=by unfold iB;rw[hi]
 rw[ek]at k;refine⟨_,rfl,V.ref rp,x,rfl,eD,hlen,λH1 p s1 A9 hp=>?_⟩;refine⟨.inl ⟨rfl,_,aB.of hp⟩,_,rfl,rp,_,_,_,_,rfl,s1 _ _ R1.obj,T.dz,T.rw_done,rfl,?_⟩;refine⟨p,_,_,i,V.int (((cZ x.h)[i]:Nat):Int),rfl,rfl,aB.of hp,rfl,?_,sX (cp gf),?_,?_,dM,λD hD=>?_⟩
 ·rw[vB];exact l7.mpr λ_ _=>rfl
 ·show((((cZ x.h)[i]:Nat):Int)==((x.done:Nat):Int))=true;have:(cZ x.h)[i]=Yh.maxOf (cZ x.h):=tH.mp hie;rw[this];exact beq_self_eq_true _
 ·intro m z' hmi hz
  rw[cb]at hz;obtain⟨v,hv,rfl⟩:=jq.mp hz;obtain⟨oZ,hv⟩:=dq.mp hv;have:=hif m hmi;rw[hv]at this;show((v:Int)==((x.done:Nat):Int))=false;rw[oK];intro z;have z:v=Yh.maxOf (cZ x.h):=by
   have:v=x.done:=by lia
   exact this
  lia
 have s2:=s1.trans (ax.new (o:=.lst [V.int (i:Int)]) hD);have nE:H D=none:=s1.free hD;refine⟨_,rfl,_,_,_,_,rfl,rfl,aB.of aA,bE (j:=0) rfl,_,_,rfl,rfl,_,rfl,_,rfl,?_⟩;have yx:nH ((i:Int) - 1) (-1) (-1) i:=by have:=nH.neg (i:=(i:Int) - 1) (j:= -1) (by lia) (by lia) (by simp[*]) (by simp[*]);simp_all
 refine⟨_,_,_,_,rfl,yx,?_⟩;let Z2:Nat->L2.St->Hp->Prop:=λt σ H'=>iY λ(v2:Option V) (cs:List Nat) (cur:Nat)=>tS (σ=[some (.ref rp),some (.ref D),v2]) (ax H H') (H' D=some (.lst (aR (cs++[cur])))) (cur<x.h.length) (cs.length<=t) (i::walk x.h i i=(cs++[cur])++walk x.h (i - t) cur);refine Dk (n:=i) Z2
  ⟨none,[],i,rfl,s2,aA,ahm,aW _,by simp[*]⟩ ?_ ?_
 ·rintro t σ H' ht ⟨v2,cs,cur,rfl,sm,hd,FY,jz,heq⟩
  have ei:((i:Int) - 1+(t:Int)*(-1))=((i - 1 - t:Nat):Int):=by grind
  rw[ei];obtain⟨e,he⟩:∃e,i - t=e+1:=⟨i - t - 1,by lia⟩;rw[show i - 1 - t=e from by grind];rw[he,Yn.Ek]at heq;have el:aR (cs++[cur])=aR cs++[V.int (cur:Int)]:=by unfold aR;simp[*]
  refine⟨_,rfl,_,rfl,_,rfl,_,rfl,_,_,_,_,rfl,rfl,aB.of hd,by rw[el];exact U_ _ _,V.ref rp,x,e,cur,rfl,eD.mono sm,by grind,FY,λH3 s3=>?_⟩;refine⟨_,rfl,?_⟩;refine eC (λhb=>?_) (λhb=>?_)
  ·rw[aD hb]at heq
   refine⟨_,rfl,.inl ⟨rfl,_,aB.of (s3 _ _ hd)⟩,_,rfl,D,_,_,rfl,rfl,s3 _ _ hd,by rw[aT,cX,bP];simp only[bG,dR];lia,?_⟩;refine⟨_,cs++[cur],e,rfl,λb o q=>?_,?_,by grind,by simp[*],?_⟩
   ·rw[ay (bz q nE)];exact s3 _ _ (sm _ _ q)
   ·rw[aA];simp[*]
   rw[heq,show i -(t+1)=e from by grind,tN _ [e]];rfl
  rw[az hb]at heq;refine⟨_,cs,cur,rfl,sm.trans s3,s3 _ _ hd,FY,by lia,?_⟩;rw[heq,show i -(t+1)=e from by grind]
 rintro σ H' ⟨v2,cs,cur,rfl,sm,hd,FY,jz,heq⟩;rw[Nat.sub_self]at heq;have heq:i::walk x.h i i=cs++[cur]:=by rw[heq];show _++[]=_;simp[*]
 rw[heq]at k;refine⟨_,rfl,D,_,rfl,aB.of hd,λl hl=>k _ l (sm.trans (ax.new hl)) (sm.free hl) ?_⟩;rw[aA];unfold aR;rw[List.map_reverse]
open Yh (Route)
open Yn (gh fS)
def lS:cut S (cut T H)=cut (S++T) H:=by
 funext b;by_cases h1:b∈S
 ·rw[lQ h1,lQ (BO _ h1)]
 rw[b6 h1];by_cases h2:b∈T
 ·rw[lQ h2,lQ (qo _ h2)]
 rw[b6 h2,b6 (by simp[*])]
def ic(h:a∉S):cut S (upd H a o)=upd (cut S H) a o:=by
 funext b;by_cases hb:b=a
 ·rw[hb,b6 h,aA,aA]
 rw[ay hb];by_cases hs:b∈S
 ·rw[lQ hs,lQ hs]
 rw[b6 hs,b6 hs,ay hb]
def mS(h:a∈S):cut S (upd H a o)=cut S H:=by
 funext b;by_cases hs:b∈S
 ·rw[lQ hs,lQ hs]
 rw[b6 hs,b6 hs,ay (λz=>hs (by rw[z];exact h))]
theorem cu.jj(d:cu S H)(f:aG M H H')(h:∀b∈S,b∉M):cu S H':=λb hb z=>by
 cases q:H b with
 |none=>exact d b hb q
 |some o=>rw[f b o q (h b hb)]at z;cases z
section
variable{P:af}{w:ah}{K:Type}[DecidableEq K]{ak:AK P w K}{H H':Hp}{a:Addr}{kvs:Ent K}{k:K}
theorem cC.keep(d:cC ak H a kvs)(h:H' a=H a)(t:∀b xs,H b=some (.tup xs)->H' b=some (.tup xs)):cC ak H' a kvs:=⟨by rw[h];exact d.at_,d.len,λp hp=>ak.dG (d.keys p hp) t⟩
def cC.mono(d:cC ak H a kvs)(s:ax H H'):cC ak H' a kvs:=⟨s _ _ d.at_,d.len,λp hp=>ak.dG (d.keys p hp) λb xs e=>s _ _ e⟩
theorem cC.u9(d:cC ak H a kvs)(hk:ak.rel H k b)(hl:kvs.length<sizeLine)(v:V):cC ak (upd H a (bQ ak.knd a (cY kvs k b v))) a (cY kvs k b v):=by
 have ht:∀c xs,H c=some (.tup xs)->upd H a (bQ ak.knd a (cY kvs k b v)) c=some (.tup xs):=λc xs e=>by rw[ay (e9 e d.at_ (by simp[*]))];exact e
 refine⟨aA,cF (LC _ _ _ _) hl,λp hp=>?_⟩;rcases LD hp with⟨e1,e2⟩|⟨q,hq,e1,e2⟩
 ·rw[e1,e2];exact ak.dG hk ht
 rw[e1,e2];exact ak.dG (d.keys q hq) ht
theorem P1(h:bW kvs k=some v):∃e∈kvs,e.1=k/\e.2.2=v:=by obtain⟨e,he,rfl⟩:=jq.mp h;exact⟨e,List.mem_of_find?_eq_some he,by have:=List.find?_some he;simpa using this,rfl⟩
theorem Bi:bW kvs k=none↔∀e∈kvs,e.1≠k:=by unfold bW;simp[*]
theorem P2(h:bW kvs k=none):cY kvs k b v=kvs++[(k,b,v)]:=by unfold cY;rw[wZ,h];rfl
end
structure SA where
 s:Addr
 dx:Addr
 y:YA
 wl:Addr
 og:Addr
 km:Addr
 kr:Addr
 rd:Addr
def SA.M(a:SA):List Addr:=[a.km,a.kr]
def jR(a:SA):List (Str×V):=[("yard",.ref a.y.y),("wanted",.ref a.wl),("origin",.ref a.og),("known_moves",.ref a.km),("known_reach",.ref a.kr),("rides",.ref a.rd)]
def P4(a:SA):(jR a).lookup ("yard":Str)=some (V.ref a.y.y):=rfl
def aho(a:SA):(jR a).lookup ("wanted":Str)=some (V.ref a.wl):=rfl
def P5(a:SA):(jR a).lookup ("origin":Str)=some (V.ref a.og):=rfl
def Bj(a:SA):(jR a).lookup ("known_moves":Str)=some (V.ref a.km):=rfl
def Bk(a:SA):(jR a).lookup ("known_reach":Str)=some (V.ref a.kr):=rfl
def P6(a:SA):(jR a).lookup ("rides":Str)=some (V.ref a.rd):=rfl
def ox(a:SA)(h:m∉(["yard","wanted","origin","known_moves","known_reach","rides"]:List Str)):(jR a).lookup m=none:=by simp only[be,fL,fM,not_or]at h;unfold jR;simp[*]
def isStart(P:Plan)(rs:List Route)(x:Spot)(i:Nat):Bool:=match rs[i]? with
 |some r=>decide (Yn.jf P r=x)
 |none=>false
def gB(P:Plan)(rs:List Route)(n:Nat)(x:Spot):List Nat:=((List.range n).filter (isStart P rs x)).map λn=>n+2
def P7(P:Plan)(rs:List Route)(c:Nat):Yn.jJ P rs c=if c=0 then []else gB P rs rs.length (Yh.spotOf c):=rfl
def Bl(P:af)(w:ah)(H:Hp)(rd:Addr)(f:Spot->List Nat):Prop:=∃kvs,cC (pz P w) H rd kvs/\∀x,(bW kvs (bR x)=none/\f x=[])\/∃l,bW kvs (bR x)=some (.ref l)/\H l=some (.lst (aR (f x)))
structure yz(P:af)(w:ah)(A0:aL)(H:Hp)(a:SA)(s:State)(g:List Nat):Prop where
 obj:H a.s=some (.ins A0.search a.dx (jR a))
 aZ:dk A0 H a.y s
 wanted:H a.wl=some (.lst (aR g))
 Bm:g.length=3
 origin:StandsAt H s.at_ a.og
 P8:Bl P w H a.rd (gB s.plan s.routes s.routes.length)
theorem Bl.mono(h:Bl P w H rd f)(s:ax H H'):Bl P w H' rd f:=by
 obtain⟨kvs,d,r⟩:=h;refine⟨kvs,d.mono s,λx=>?_⟩;rcases r x with q|⟨l,q1,q2⟩
 ·exact .inl q
 exact .inr ⟨l,q1,s _ _ q2⟩
theorem yz.mono(h:yz P w A0 H a s g)(e:ax H H'):yz P w A0 H' a s g:=⟨e _ _ h.obj,h.aZ.mono e,e _ _ h.wanted,h.Bm,h.origin.mono e,h.P8.mono e⟩
def gC(es:List (Places×Addr×Addr)):Ent (List SK):=es.map λe=>(e.1.map cy,e.2.1,V.ref e.2.2)
abbrev fJ(e:Places×Nat):List (Sum (List SK) Int):=[.inl (e.1.map cy),.inr (e.2:Int)]
def fU(s:State)(g:List Nat)(es:List ((Places×Nat)×Addr)):Ent (List (Sum (List SK) Int)):=es.map λe=>(fJ e.1,e.2,V.bl (fS s.plan s.routes s.takes g e.1.2 e.1.1))
abbrev gW(s:State)(p:Places):List Mv:=gh s.plan s.routes s.takes p
def FZ(P:af)(w:ah)(A0:aL)(H:Hp)(a:SA)(s:State):Prop:=∃es,cC (bY P w) H a.km (gC es)/\(es.map (·.1)).Nodup/\∀e∈es,Yn.de s.plan.sects.length e.1/\∃us,cut a.M H e.2.2=some (.lst us)/\Paired (f7 A0 (cut a.M H)) (gW s e.1) us
def F0(P:af)(w:ah)(H:Hp)(a:SA)(s:State)(g:List Nat):Prop:=∃es,cC (jb P w) H a.kr (fU s g es)/\(es.map (·.1)).Nodup/\∀e∈es,Yn.de s.plan.sects.length e.1.1/\e.1.2<=5
structure dm(P:af)(w:ah)(A0:aL)(H:Hp)(a:SA)(s:State)(g:List Nat):Prop where
 fix:yz P w A0 (cut a.M H) a s g
 km:FZ P w A0 H a s
 kr:F0 P w H a s g
 ne:a.km≠a.kr
theorem dm.mono(h:dm P w A0 H a s g)(e:ax H H'):dm P w A0 H' a s g where
 fix:=h.fix.mono (bN e)
 km:=let⟨es,h1,h2,h3⟩:=h.km;⟨es,h1.mono e,h2,λx hx=>let⟨q1,us,q2,q3⟩:=h3 x hx;⟨q1,us,bN e _ _ q2,Paired.cj q3 λ_ _ q=>q.mono (bN e)⟩⟩
 kr:=let⟨es,h1,h2⟩:=h.kr;⟨es,h1.mono e,h2⟩
 ne:=h.ne
def dm.i0(h:dm P w A0 H a s g):∀b xs,H b=some (.tup xs)->cut a.M H b=some (.tup xs):=by
 intro b xs e;obtain⟨es,h1,_⟩:=h.km;obtain⟨nW,h2,_⟩:=h.kr;refine(b6 ?_).trans e;intro z;unfold SA.M at z;simp only[be,fL,fM]at z;rcases z with rfl|rfl
 ·rw[h1.at_]at e;simp_all
 rw[h2.at_]at e;simp_all
def dm.ahp{P:af}{w:ah}{A0:aL}{H:Hp}{a:SA}{s:State}{g:List Nat}(h:dm P w A0 H a s g){p:Places}{st:Addr}(r:StandsAt H p st):StandsAt (cut a.M H) p st:=gz.dG r h.i0
def dm.off(h:dm P w A0 (cut S H) a s g):∀b∈S,b∉a.M:=by
 intro b hb z;obtain⟨es,h1,_⟩:=h.km;obtain⟨nW,h2,_⟩:=h.kr;unfold SA.M at z;simp only[be,fL,fM]at z;rcases z with rfl|rfl
 ·exact(cG h1.at_).1 hb
 exact(cG h2.at_).1 hb
def dm.a_(h:dm P w A0 (cut S H) a s g)(d:cu S H):cu (a.M++S) H:=by
 obtain⟨es,h1,_⟩:=h.km;obtain⟨nW,h2,_⟩:=h.kr;have e1:=aJ _ _ h1.at_;have e2:=aJ _ _ h2.at_;intro b hb;rcases gO.mp hb with hb|hb
 ·unfold SA.M at hb
  simp only[be,fL,fM]at hb;rcases hb with rfl|rfl
  ·simp[*]
  simp[*]
 exact d b hb
theorem FZ.add(h:dm P w A0 H a s g)(h1:cC (bY P w) H a.km (gC es))(h2:(es.map (·.1)).Nodup)
  (h3:∀e∈es,Yn.de s.plan.sects.length e.1/\∃us,cut a.M H e.2.2=some (.lst us)/\Paired (f7 A0 (cut a.M H)) (gW s e.1) us)(hp:p∉es.map (·.1))(ok:Yn.de s.plan.sects.length p)(hb:StandsAt H p b)(hl:cut a.M H l=some (.lst us))(hu:Paired (f7 A0 (cut a.M H)) (gW s p) us)(hsz:es.length<sizeLine):
  dm P w A0 (upd H a.km (bQ (bY P w).knd a.km (cY (gC es) (p.map cy) b (.ref l)))) a s g:=by
 have e0:bW (gC es) (p.map cy)=none:=by refine Bi.mpr λe he z=>?_;obtain⟨x,hx,rfl⟩:=b_.mp he;exact hp (b_.mpr ⟨x,hx,ou (λa b=>pW) z⟩)
 have ec:cut a.M (upd H a.km (bQ (bY P w).knd a.km (cY (gC es) (p.map cy) b (.ref l))))=cut a.M H:=mS (by simp[SA.M]);have ep:cY (gC es) (p.map cy) b (.ref l)=gC (es++[(p,b,l)]):=by rw[P2 e0];unfold gC;simp[*]
 refine⟨?_,⟨es++[(p,b,l)],?_,?_,?_⟩,?_,h.ne⟩
 ·rw[ec];exact h.fix
 ·rw[<-ep];have hk:=hb;exact cC.u9 h1 hk (by unfold gC;simp[*]) _
 ·rw[ft,oN];refine⟨h2,by simp,?_⟩;grind
 ·intro e he
  rw[ec];rcases gO.mp he with he|he
  ·exact h3 e he
  simp_all
 obtain⟨nW,q1,q2⟩:=h.kr;refine⟨nW,q1.keep (ay (aO h.ne)) λc xs e=>?_,q2⟩;rw[ay (e9 e h1.at_ (by simp[*]))];exact e
theorem F0.add(h:dm P w A0 H a s g)(h1:cC (jb P w) H a.kr (fU s g es))(h2:(es.map (·.1)).Nodup)
  (h3:∀e∈es,Yn.de s.plan.sects.length e.1.1/\e.1.2<=5)(hp:(p,n)∉es.map (·.1))(ok:Yn.de s.plan.sects.length p)(hn:n<=5)(hb:uB H (fJ (p,n)) b)(hsz:es.length<sizeLine):
  dm P w A0 (upd H a.kr (bQ (jb P w).knd a.kr (cY (fU s g es) (fJ (p,n)) b (.bl (fS s.plan s.routes s.takes g n p))))) a s g:=by
 have e0:bW (fU s g es) (fJ (p,n))=none:=by refine Bi.mpr λe he z=>?_;obtain⟨x,hx,rfl⟩:=b_.mp he;refine hp (b_.mpr ⟨x,hx,?_⟩);have z:=z;injection z with z1 z2;injection z2 with z2 _;injection z1 with z1;injection z2 with z2;exact tJ (ou (λa b=>pW) z1) (by simp only at z2⊢;lia)
 have ec:cut a.M (upd H a.kr (bQ (jb P w).knd a.kr (cY (fU s g es) (fJ (p,n)) b (.bl (fS s.plan s.routes s.takes g n p)))))=cut a.M H:=mS (by simp[SA.M]);have ep:cY (fU s g es) (fJ (p,n)) b (.bl (fS s.plan s.routes s.takes g n p))=fU s g (es++[((p,n),b)]):=by rw[P2 e0];unfold fU;simp[*]
 refine⟨?_,?_,⟨es++[((p,n),b)],?_,?_,?_⟩,h.ne⟩
 ·rw[ec];exact h.fix
 ·obtain⟨nW,q1,q2,q3⟩:=h.km;refine⟨nW,q1.keep (ay h.ne) λc xs e=>?_,q2,by rw[ec];exact q3⟩;rw[ay (e9 e h1.at_ (by simp[*]))];exact e
 ·rw[<-ep];have hk:=hb;exact cC.u9 h1 hk (by unfold fU;simp[*]) _
 ·rw[ft,oN];refine⟨h2,by simp,?_⟩;intro x hx y hy;grind
 intro e he;rcases gO.mp he with he|he
 ·exact h3 e he
 simp_all
def yA(x c:Nat):Bool:=x==0||(if x=1 then c==0 else c !=0&&(Yh.spotOf c).1==x - 2)
def ahq(g p:List Nat):Yh.meets g p=(g.zip p).all λx=>yA x.1 x.2:=rfl
section
variable{X:Cx}{KK:Type}[DecidableEq KK](ak:AK X.prog X.w KK){o e f:Expr}{apos dv:Pos}{td ty tx:TE}
inductive P9(ak:AK X.prog X.w KK)(ty:TE)(tx:TE)(σ:L2.St)(Q:VK)(x:V)(H1:Hp):Prop
 |mk:∀a,x= .ref a->(∃kvs,cC ak H1 a kvs)->(ty σ H1 λy H2=>tx σ H2 λz H3=>∃kvs v,cC ak H3 a kvs/\((y= .aQ/\v=z)\/∃b k,y= .ref b/\ak.rel H3 k b/\v=(bW kvs k).getD z)/\Q v H3)->P9 ak ty tx σ Q x H1
def ahr(ak:AK X.prog X.w KK)(td ty tx:TE):TE:=λσ H Q=>td σ H λx H1=>P9 ak ty tx σ Q x H1
theorem P_(hu:X.A.units+64<cLine)(ho:PE X o td)(he:PE X e ty)(hf:PE X f tx)(m:M2 X o "get" apos e f dv):PE X (.Call (.Attribute o "get" apos) [e,f] [] dv) (ahr ak td ty tx):=by
 intro pins s σ H Q I h;refine yY m.base m.dO m.line BY mY G0 (aM (ho pins s σ H _ I h) λu s1 h_=>?_);obtain⟨x,H1,I1,rx,a,ex,⟨kvs,d⟩,q1⟩:=h_;subst ex;obtain rfl:u=Value.ref a:=rx;obtain⟨t1,t2⟩:=DN I1 d;refine⟨t1,t2,?_⟩;rw[m.trees];refine tL rfl (vy (kT (aM (he pins s1 σ H1 _ I1 q1) λiv s2 ⟨y,H2,I2,ry,q2⟩=>kT (aM (hf pins s2 σ H2 _ I2 q2) λfv s3 ⟨z,H3,I3,rz,w8,v,d3,hv,q3⟩=>oJ ?_))));rcases hv with⟨ey,rfl⟩|⟨b,k,ey,hk,rfl⟩
 ·subst ey;obtain rfl:iv=Value.none:=ry;exact YC hu I3 d3 rz λs4 I4=>⟨v,H3,I4,rz,q3⟩
 subst ey;obtain rfl:iv=Value.ref b:=ry;exact YB hu I3 d3 hk rz λw' s4 I4 jx=>⟨_,H3,I4,jx,q3⟩
end
inductive Qa(vs:List V)(H:Hp)(Q:VK):Prop
 |mk:∀(v:V) (c x:Nat),vs=[v,.int x]->jO H c v->Q (.bl (yA x c)) H->Qa vs H Q
def ahs:Sp:=λvs H Q _=>Qa vs H Q
def aht(T:Txt w K mg A0):b9 P w K mg base "suits" 1 ["stand","want"] ahs:=by
 refine cg ["stand","want"] T.adx ?_;rintro nD f aU A outer s H vs Q E hr ⟨v,c,x,rfl,hv,k⟩;refine⟨_,(aF (bD (bT e_ (pv 1) (cM T.acF rfl)) (aH (aS oS)) bH) (aF (bD (bT e_ (pv 1) (cM T.acG rfl)) (aH (aS (hG qP (pv 0) eF (g_ _)))) bH) (aH (aS (jW (hG oX (pv 0) eF (g_ _)) (iN (hG e_ (bj eQ (pv 0) aP) (dC jY (pv 1) (cM T.acH rfl)) (g_ _)))))))),?_⟩;try dsimp only[bc,Cx.bf]
 refine iS ?_;intro _ _;refine⟨_,rfl,rfl,_,rfl,?_⟩;by_cases h0:x=0
 ·rw[cq (by rw[h0];rfl)];subst h0;assumption
 rw[b7 (by simp[*])];refine bg ⟨_,rfl,rfl,_,rfl,?_⟩;unfold yA at k;rw[oK.mpr h0,BW]at k;by_cases h1:x=1
 ·rw[cq (by rw[h1];rfl)];rw[aD h1]at k;refine bA ⟨_,rfl,rfl,?_⟩;rw[yn hv];assumption
 rw[b7 (by intro z;injection z with z;lia)];rw[az h1]at k;refine bg ⟨_,rfl,rfl,_,rfl,?_⟩;rw[yn hv];by_cases hc:c=0
 ·rw[cq hc];rw[hc]at k;exact k
 rw[b7 hc];obtain⟨b,rfl,hb⟩:=sP hv hc;refine⟨_,rfl,_,_,_,_,rfl,rfl,aX.of hb,bE rfl,_,rfl,_,_,rfl,rfl,rfl,?_⟩;have e:decide (V.int ((Yh.spotOf c).1:Int)=V.int ((x:Int) - 2))=(c !=0&&(Yh.spotOf c).1==x - 2):=by
  have e1:(c !=0)=true:=by simp[hc]
  rw[e1,m_,oH,iK,tH];exact⟨λz=>by injection z with z;omega,λz=>by rw[z,Int.ofNat_sub (by lia)];rfl⟩
 rw[e];exact k
inductive Qb(A0:aL)(vs:List V)(H:Hp)(Q:VK):Prop
 |mk:∀(a:SA) (st:Addr) (p g:List Nat),vs=[.ref a.s,.ref st]->H a.s=some (.ins A0.search a.dx (jR a))->H a.wl=some (.lst (aR g))->g.length=3->p.length=3->StandsAt H p st->(∀H',ax H H'->Q (.bl (Yh.meets g p)) H')->Qb A0 vs H Q
def F1(A0:aL):Sp:=λvs H Q _=>Qb A0 vs H Q
def Qc(T:Txt w K mg A0):cK P w K mg base A0.search "is_wanted" 2 ["self","stands"] (F1 A0):=by
 refine dY ["self","stands","stand","want"] T.ady T.eK ?_;rintro nD f aU A outer s H vs Q E hr ⟨a,st,p,g,rfl,ho,hw,hg,hp,hs,k⟩;refine⟨_,(aH (aS (cR (CW rfl) rfl T.EI EF (aq (j_ (own:=[("stand",2),("want",3)]) rfl nD (X1 rfl T.xE (aq (pv 1) (aq (aV (pv 0) rfl) aC))) (i7 (by rfl)) (λ_ _ _ _ _=>(OX rfl rfl (gw (ck 2 nD) (gw (ck 3 nD) mm)))) (λ_ _ _ _ _=>j9) (λ_ _ _ _ _=>(bB (aht T) hr (aq (pv 2) (aq (pv 3) aC))))) aC)))),?_⟩;try dsimp only[bc,Cx.bf]
 obtain⟨us,dU,pu⟩:=hs.ex;have lu:=bZ pu;refine⟨_,rfl,_,rfl,a.s,_,_,_,_,rfl,ho,T.eK,T.Nv,aho a,st,a.wl,us,_,rfl,aX.of dU,aB.of hw,λD hD=>?_⟩;let bs:=(g.zip p).map λx=>yA x.1 x.2
 have lz:(g.zip p).length=3:=by rw[List.length_zip,hg,hp];rfl
 refine Fs (n:=3) (λi H'=>ax H H'/\H' D=some (.lst ((bs.take i).map V.bl))) ⟨ax.new hD,aA⟩ ?_ ?_ ?_ ?_
 ·rintro i H' hi ⟨sm,hd⟩;exact⟨us,_,us[i]'(by simp_all),_,aX.of (sm _ _ dU),aB.of (sm _ _ hw),cp (by simp_all),cp (by simp[*])⟩
 ·rintro H' ⟨sm,hd⟩;exact⟨us,_,aX.of (sm _ _ dU),aB.of (sm _ _ hw),by simp_all⟩
 ·rintro i H' y H2 hi ⟨sm,hd⟩ ⟨Tt,x1,x2,rfl,hT,rfl,fj,dW⟩
  have fj:=fj us (aX.of (sm _ _ dU));have dW:=dW _ (aB.of (sm _ _ hw));obtain⟨c,hc,rc⟩:=Paired.get' pu fj;rw[cb]at dW;obtain⟨x,hx,rfl⟩:=jq.mp dW;have hz:(g.zip p)[i]?=some (x,c):=List.getElem?_zip_eq_some.mpr ⟨hx,hc⟩;have hb:bs[i]?=some (yA x c):=by rw[cb,hz];rfl
  have s2:=sm.trans (ax.new (o:=.tup [x1,V.int (x:Int)]) hT);have nT:D≠Tt:=λq=>by simp_all
  refine⟨_,_,rfl,aX.of aA,rfl,_,_,rfl,_,_,rfl,rfl,rfl,?_⟩;refine⟨_,rfl,_,rfl,x1,c,x,rfl,gc.mono rc s2,?_⟩;refine⟨_,by rw[ay nT];exact hd,by rw[aT,dQ,aT,lz,bP];grind,λb o e=>?_,?_⟩
  ·rw[ay (bz e hD)];exact s2 _ _ e
  rw[aA,dS hb,ft];rfl
 rintro H' ⟨sm,hd⟩;rw[fq (by rw[aT,lz];exact aW _)]at hd;refine⟨_,_,rfl,aB.of hd,?_⟩;have e:bs.all id=Yh.meets g p:=by rw[ahq,vB];rfl
 simp[*]
def kQ(s:State)(p:Places)(t:Nat):List (Option Mv):=([0,1]++Yn.jJ s.plan s.routes (p.getD t 0)).map λwh=>cN s.plan s.routes s.takes p (t,wh)
def lT(s:State)(p:Places)(n:Nat):List (Option Mv):=(List.range n).flatMap (kQ s p)
def Qe(G:Yn.uL s.plan s.routes)(hp:p.length=3):gW s p=(lT s p 3).filterMap id:=by
 show gh _ _ _ _=_;rw[Yn.aah G hp];unfold lT kQ;generalize(List.range 3)=l;induction l with
 |nil=>rfl
 |cons t r ih=>rw[f9,f9,B3 (l:=List.map _ _),GU,ih];rfl
theorem F2(Q:Plan)(rs:List Route)(c:Nat):(Yn.jJ Q rs c).length<=rs.length:=by
 rw[P7];split
 ·exact bL _
 unfold gB;grind
inductive Qg(P:af)(w:ah)(A0:aL)(vs:List V)(H:Hp)(Q:VK):Prop
 |mk:∀(S:List Addr) (a:SA) (s:State) (g:List Nat) (st:Addr) (p:Places),vs=[.ref a.s,.ref st]->cu S H->yz P w A0 (cut S H) a s g->StandsAt (cut S H) p st->Yn.de s.plan.sects.length p->(∀H' l us,ax H H'->H l=none->H' l=some (.lst us)->Paired (f7 A0 (cut S H')) (gW s p) us->Q (.ref l) H')->Qg P w A0 vs H Q
def ahu(P:af)(w:ah)(A0:aL):Sp:=λvs H Q _=>Qg P w A0 vs H Q
def ahv(T:Txt w K mg A0):cK P w K mg base A0.search "find_moves" 5 ["self","stands"] (ahu P w A0):=by
 refine dY ["self","stands","moves","train","stand","what","move"] T.adz T.eK ?_;rintro nD f aU A outer s H vs Q E hr ⟨S,a,s,g,st,p,rfl,a_,fx,hs,ok,k⟩;refine⟨_,(aF (bw 2 nD (cf aC)) (aF (fX fW rfl (Xr rfl T.AM (aq (pv 1) aC)) (nr rfl (gw (ck 3 nD) (gw (ck 4 nD) mm))) (aH (fX fW rfl (g9 (dC zQ (cf (aq (cM T.EJ rfl) (aq (cM T.EK rfl) aC))) (P_ (pz _ _) hr.units (aV (pv 0) rfl) (pv 4) (cf aC) ⟨rfl,rfl,rfl,rfl⟩))) (ck 5 nD) (aH (i3 (jy jT vI vJ rf (pv 2) (aq (bB (Pf T) hr (aq (aV (pv 0) rfl) (aq (pv 1) (aq (pv 3) (aq (pv 5) aC))))) aC))))))) (aH (aS (j_ (own:=[("move",6)]) rfl nD (g9 (pv 2)) (i7 (by rfl)) (λ_ _ _ _ _=>(ck 6 nD)) (λ_ _ _ _ _=>(JJ (bT oX (pv 6) eF))) (λ_ _ _ _ _=>(pv 6))))))),?_⟩;try dsimp only[bc,Cx.bf]
 refine iS ?_;intro _ _;obtain⟨us,dU,pu⟩:=hs.ex;have lu:=bZ pu;rw[ok.len]at lu;obtain⟨F3,mE,Bb⟩:=fx.P8;refine⟨bL _,λD hD=>?_⟩;have s1:=ax.new (o:=.lst []) hD;refine⟨_,rfl,st,us,rfl,aX.of (s1 _ _ (aJ _ _ dU)),?_⟩;have q_:=fx.aZ.dO;have Qh:∀t,(kQ s p t).length<=66:=λt=>by unfold kQ;rw[aT,cX];have:=F2 s.plan s.routes (p.getD t 0);simp only[bG,dR];lia
 have Qi:∀n,n<=3->(lT s p n).length<=198:=λn hn=>by have:=Yn.lM (kQ s p) 66 (List.range n) λt _=>Qh t;rw[List.length_range]at this;unfold lT;lia
 refine pU (n:=3) (λt σ H'=>∃(v3 v4 v5:Option V) (vs:List V),σ=[some (.ref a.s),some (.ref st),some (.ref D),v3,v4,v5,none]/\ax H H'/\H' D=some (.lst vs)/\Paired (fi (f7 A0 (cut (D::S) H'))) (lT s p t) vs)
  ⟨none,none,none,[],rfl,s1,aA,.nil⟩ ?_ ?_ ?_ ?_
 ·rintro t σ H' ht ⟨v3,v4,v5,vs,rfl,sm,hd,pr⟩;exact⟨us,us[t]'(by simp_all),aX.of (sm _ _ (aJ _ _ dU)),cp (by simp_all)⟩
 ·rintro σ H' ⟨v3,v4,v5,vs,rfl,sm,hd,pr⟩;exact⟨us,aX.of (sm _ _ (aJ _ _ dU)),by simp[*]⟩
 ·rintro t σ H' y H2 ht ⟨v3,v4,v5,vs,rfl,sm,hd,pr⟩ ⟨Tt,x,rfl,hT,rfl,hx⟩
  have hx:=hx us (aX.of (sm _ _ (aJ _ _ dU)));obtain⟨c,hc,rc⟩:=Paired.get' pu hx;have ec:p.getD t 0=c:=by rw[l_,hc];rfl
  have sT:=ax.new (o:=.tup [V.int (t:Int),x]) hT;have s2:=sm.trans sT;refine⟨_,_,rfl,aX.of aA,rfl,_,_,rfl,_,_,rfl,rfl,?_⟩;have hd2:=sT _ _ hd;have gD:=Paired.cj pr λ_ _ q=>fi.mono q λ_ r=>r.mono (bN sT);generalize upd H' Tt (.tup [V.int (t:Int),x])=H2 at s2 hd2 gD⊢;refine⟨by decide,λp1 eV=>?_⟩;have s3:=ax.new (o:=.lst [V.int 0,V.int 1]) eV;have Qj:=mE.mono (aJ.trans (s2.trans s3));refine⟨_,rfl,a.s,_,_,_,_,rfl,(s2.trans s3) _ _ (aJ _ _ fx.obj),T.eK,T.EO,P6 a,a.rd,rfl,⟨F3,Qj⟩,_,rfl,bL _,λp2 dI=>?_⟩;have s4:=ax.new (o:=.lst []) dI;obtain⟨rl,u_,ahw⟩:∃rl,(upd (upd H2 p1 (.lst [V.int 0,V.int 1])) p2 (.lst [])) rl=some (.lst (aR (Yn.jJ s.plan s.routes c)))/\((x= .aQ/\V.ref rl=V.ref p2)\/∃b k,x= .ref b/\(pz P w).rel (upd (upd H2 p1 (.lst [V.int 0,V.int 1])) p2 (.lst [])) k b/\V.ref rl=(bW F3 k).getD (.ref p2)):=by
   rw[P7];by_cases fQ:c=0
   ·rw[aD fQ];subst fQ;obtain rfl:x= .aQ:=rc;exact⟨p2,aA,.inl ⟨rfl,rfl⟩⟩
   rw[az fQ];obtain⟨b,rfl,hb⟩:=sP rc fQ;have Qk:=s4 _ _ (s3 _ _ (s2 _ _ (aJ _ _ hb)));rcases Bb (Yh.spotOf c)with⟨q1,q2⟩|⟨l,q1,q2⟩
   ·rw[q2];exact⟨p2,aA,.inr ⟨b,bR (Yh.spotOf c),rfl,Qk,by rw[q1];rfl⟩⟩
   exact⟨l,s4 _ _ (s3 _ _ (s2 _ _ (aJ _ _ q2))),.inr ⟨b,bR (Yh.spotOf c),rfl,Qk,by rw[q1];rfl⟩⟩
  refine⟨F3,V.ref rl,Qj.mono s4,ahw,?_⟩;have akL:=F2 s.plan s.routes c;refine⟨p1,rl,_,_,rfl,rfl,s4 _ _ aA,u_,by rw[aT,bP];simp only[bG,dR];lia,λp3 cE=>?_⟩;have s5:=ax.new (o:=.lst ([V.int 0,V.int 1]++aR (Yn.jJ s.plan s.routes c))) cE;have ew:[V.int 0,V.int 1]++aR (Yn.jJ s.plan s.routes c)=aR ([0,1]++Yn.jJ s.plan s.routes c):=rfl;refine⟨p3,rfl,⟨_,aB.of aA⟩,?_⟩;rw[ew]at s5⊢;have kN:=s3.trans (s4.trans s5);have Ql:(upd (upd (upd H2 p1 (.lst [V.int 0,V.int 1])) p2 (.lst [])) p3 (.lst (aR ([0,1]++Yn.jJ s.plan s.routes c)))) p3=some (.lst (aR ([0,1]++Yn.jJ s.plan s.routes c))):=aA;generalize upd (upd (upd H2 p1 (.lst [V.int 0,V.int 1])) p2 (.lst [])) p3 (.lst (aR ([0,1]++Yn.jJ s.plan s.routes c)))=H5 at kN Ql⊢;have F4:=kN _ _ hd2;have nD3:p3≠D:=λz=>by rw[z]at cE;rw[s4 _ _ (s3 _ _ hd2)]at cE;cases cE
  have Bg:=s2.trans kN;have lt:=Qi t (by exact gN ‹_›);have ltt:=Qh t;refine oV (λj σ H'=>∃(v5:Option V) (vs:List V),σ=[some (.ref a.s),some (.ref st),some (.ref D),some (.int (t:Int)),some x,v5,none]/\ax H H'/\H' p3=some (.lst (aR ([0,1]++Yn.jJ s.plan s.routes c)))/\H' D=some (.lst vs)/\Paired (fi (f7 A0 (cut (D::S) H'))) (lT s p t++(kQ s p t).take j) vs)
   ⟨v5,vs,rfl,Bg,Ql,F4,by rw[List.take_zero,kU];exact Paired.cj gD λ_ _ q=>fi.mono q λ_ r=>r.mono (bN kN)⟩ (λj σ H' _ q=>by obtain⟨_,_,_,_,h,_⟩:=q;exact aB.of h) ?_ ?_
  ·rintro j v σ H' hv ⟨v5,vs,rfl,sm,Qm,hd,pr⟩
   rw[cb]at hv;obtain⟨wh,hwh,rfl⟩:=jq.mp hv;have ho:(kQ s p t)[j]?=some (cN s.plan s.routes s.takes p (t,wh)):=by unfold kQ;rw[ec,cb,hwh];rfl
   have cm:ax (cut S H) (cut (D::S) H'):=sN hD sm;have lv:=bZ pr;rw[cX,dQ]at lv;refine⟨_,rfl,.inl ⟨rfl,_,aB.of hd⟩,_,rfl,a.s,_,_,_,_,rfl,sm _ _ (aJ _ _ fx.obj),T.eK,T.EM,P4 a,_,rfl,_,rfl,_,rfl,D::S,a.y,s,st,p,t,wh,rfl,⟨(a_.same sm).cons hd,fx.aZ.mono cm,hs.mono cm,ok⟩,λH6 v6 s6 hv6=>?_⟩;refine⟨D,_,_,rfl,rfl,s6 _ _ hd,by rw[bP];grind,?_⟩;have jg:cut (D::S) (upd H6 D (.lst (vs++[v6])))=cut (D::S) H6:=mS (by simp);refine⟨_,vs++[v6],rfl,λb o e=>?_,?_,aA,?_⟩
   ·rw[ay (bz e hD)];exact s6 _ _ (sm _ _ e)
   ·rw[ay nD3];exact s6 _ _ Qm
   rw[jg,dS ho,<-tN];exact kX (Paired.cj pr λ_ _ q=>fi.mono q λ_ r=>r.mono (bN s6)) hv6
  rintro σ H' ⟨v5,vs,rfl,sm,Qm,hd,pr⟩;refine⟨_,_,v5,vs,rfl,sm,hd,?_⟩;have e:lT s p (t+1)=lT s p t++kQ s p t:=by unfold lT;rw[List.range_succ,qE,f9,Cf,kU]
  rw[e];rw[fq (by unfold kQ;rw[ec,aT,aT];exact aW _)]at pr;exact pr
 rintro σ H' ⟨v3,v4,v5,vs,rfl,sm,hd,pr⟩;refine⟨_,rfl,D,rfl,⟨_,aB.of hd⟩,λD2 lR=>?_⟩;have lv:=bZ pr;have l3:=Qi 3 (aW _);have pr':=Paired.cj pr λ_ _ q=>fi.mono q λ_ r=>r.mono (ym λb hb=>bU _ hb)
 refine nF (λi H2=>ax H' H2/\∃us,H2 D2=some (.lst us)/\Paired (f7 A0 (cut S H')) (((lT s p 3).take i).filterMap id) us) ⟨ax.new lR,[],aA,.nil⟩ (λi H2 _ q=>aB.of (q.1 _ _ hd)) ?_ ?_
 ·rintro i v H2 hv ⟨s2,pZ,hd2,gD⟩
  obtain⟨o,ho,ro⟩:=Paired.get' pr' hv;refine⟨rfl,_,rfl,rfl,_,rfl,?_⟩;rw[dS ho,B3];cases o with
  |none=>obtain rfl:v= .aQ:=ro;simp_all
  |some m=>
   have ro:=ro;have bO:decide (v= .aQ)=false:=by obtain⟨p,_,_,_,_,rfl,_⟩:=ro;simp[*]
   rw[bO];refine bA ⟨_,rfl,pZ,hd2,?_,?_⟩
   ·have l2:=bZ gD;have:=List.length_filterMap_le id ((lT s p 3).take i);rw[dQ]at this;rw[bP];lia
   have s3:ax H' (upd H2 D2 (.lst (pZ++[v]))):=λb o e=>by rw[ay (bz e lR)];exact s2 _ _ e
   exact⟨s3,_,aA,kX gD ro⟩
 rintro H2 ⟨s2,pZ,hd2,gD⟩;rw[fq (by simp_all),<-Qe fx.aZ.sig ok.len]at gD;exact k H2 D2 pZ (sm.trans s2) (sm.free lR) hd2 (Paired.cj gD λ_ _ q=>q.mono (bN s2))
def Bn(G:Yn.Good s)(h:mv∈gW s p)(ok:Yn.de s.plan.sects.length p):Yn.de s.plan.sects.length mv.to/\mv.train<3:=by obtain⟨t,_,h⟩:=jr.mp h;obtain⟨wh,_,h⟩:=BQ.mp h;obtain⟨q,hq,e⟩:=Yn.rW h;rw[e];exact⟨Yn.de.moved G.land ok hq,Yn.D0 hq ok.len⟩
theorem ahB(G:Yn.uL s.plan s.routes)(hp:p.length=3)(hf:s.routes.length<=64):(gW s p).length<=198:=by
 rw[Qe G hp];refine cF (List.length_filterMap_le _ _) ?_;have:=Yn.lM (kQ s p) 66 (List.range 3) λt _=>by unfold kQ;rw[aT,cX];have:=F2 s.plan s.routes (p.getD t 0);simp only[bG,dR];lia
 assumption
def ahC(R:Bool->Hp->Prop)(hC:∀b H3,R b H3->C (.bl b) H3)(h:∀C':VK,(∀b H3,R b H3->C' (.bl b) H3)->Cu ta tb σ H C'):Cu ta tb σ H C:=h C hC
def Qn(f:aG M H H')(h:H D=none):ax (cut M (cut S H)) (cut M (cut (D::S) H')):=λb o e=>by obtain⟨n1,e⟩:=cG e;obtain⟨n2,e⟩:=cG e;rw[b6 n1,b6 (λz=>by simp_all)];exact f _ _ e n1
def p9(f:aG M H H'):ax (cut M (cut S H)) (cut M (cut S H')):=λb o e=>by obtain⟨n1,e⟩:=cG e;obtain⟨n2,e⟩:=cG e;rw[b6 n1,b6 n2];exact f _ _ e n1
section
variable{P:af}{w:ah}{A0:aL}{H:Hp}{a:SA}{s:State}{g:List Nat}
theorem ahD(h:bW (gC es) (p.map cy)=some v):∃e∈es,e.1=p/\v= .ref e.2.2:=by obtain⟨e,he,h1,h2⟩:=P1 h;obtain⟨x,hx,rfl⟩:=b_.mp he;exact⟨x,hx,ou (λa b=>pW) h1,h2.symm⟩
theorem ahE(h:bW (gC es) (p.map cy)=none):p∉es.map (·.1):=λz=>by obtain⟨x,hx,rfl⟩:=b_.mp z;exact Bi.mp h _ (b_.mpr ⟨x,hx,rfl⟩) rfl
theorem ahF(z:fJ x=fJ y):x=y:=by injection z with z1 z2;injection z2 with z2 _;injection z1 with z1;injection z2 with z2;exact tJ (ou (λa b=>pW) z1) (by lia)
theorem ahG{H:Hp}{a:Addr}{o:HO}(h:H a=some o):upd H a o=H:=by
 funext b;by_cases hb:b=a
 ·rw[hb,aA,h]
 rw[ay hb]
theorem ahH(h:bW (fU s g es) (fJ (p,n))=some v):cY (fU s g es) (fJ (p,n)) b (.bl (fS s.plan s.routes s.takes g n p))=fU s g es:=by
 unfold cY;rw[wZ,h];show(fU s g es).map _=_;rw[m9,List.map_id];intro q hq;by_cases e:q.1=fJ (p,n)
 ·rw[aD e];obtain⟨x,hx,rfl⟩:=b_.mp hq;have e1:=ahF e;simp[*]
 simp[*]
theorem ahI(h:bW (fU s g es) (fJ (p,n))=some v):v= .bl (fS s.plan s.routes s.takes g n p):=by obtain⟨e,he,h1,h2⟩:=P1 h;obtain⟨x,hx,rfl⟩:=b_.mp he;have z:=h1;injection z with z1 z2;injection z2 with z2 _;injection z1 with z1;injection z2 with z2;have e1:=tJ (ou (λa b=>pW) z1) (by simp only at z2⊢;lia);simp_all
theorem ahJ(h:bW (fU s g es) (fJ (p,n))=none):(p,n)∉es.map (·.1):=λz=>by obtain⟨x,hx,e⟩:=b_.mp z;refine Bi.mp h _ (b_.mpr ⟨x,hx,rfl⟩) ?_;simp[*]
theorem ahK{es:List (Places×Addr×Addr)}(hS:s.plan.sects.length<=16)(nd:(es.map (·.1)).Nodup)(h:∀e∈es,Yn.de s.plan.sects.length e.1):es.length<=35937:=by
 have:=Yn.MK (es.map (·.1)) nd λp hp=>by obtain⟨x,hx,rfl⟩:=b_.mp hp;exact(h x hx).pl hS
 simp_all
theorem ahL{es:List ((Places×Nat)×Addr)}(hS:s.plan.sects.length<=16)(nd:(es.map (·.1)).Nodup)(h:∀e∈es,Yn.de s.plan.sects.length e.1.1/\e.1.2<=5):es.length<=215622:=by
 have:=Yn.aag (es.map (·.1)) nd λp hp=>by obtain⟨x,hx,rfl⟩:=b_.mp hp;exact⟨(h x hx).1.pl hS,(h x hx).2⟩
 simp_all
end
inductive Qo(P:af)(w:ah)(A0:aL)(vs:List V)(H:Hp)(Q:VK):Prop
 |mk:∀(S:List Addr) (a:SA) (s:State) (g:List Nat) (st:Addr) (p:Places),vs=[.ref a.s,.ref st]->cu S H->dm P w A0 (cut S H) a s g->StandsAt (cut S H) p st->Yn.de s.plan.sects.length p->(∀H' l us,aG a.M H H'->dm P w A0 (cut S H') a s g->cut a.M (cut S H') l=some (.lst us)->Paired (f7 A0 (cut a.M (cut S H'))) (gW s p) us->Q (.ref l) H')->Qo P w A0 vs H Q
def F5(P:af)(w:ah)(A0:aL):Sp:=λvs H Q _=>Qo P w A0 vs H Q
def F6(T:Txt w K mg A0):cK P w K mg base A0.search "moves_from" 6 ["self","stands"] (F5 P w A0):=by
 refine dY ["self","stands"] T.adA T.eK ?_;rintro nD f aU A outer s H vs Q E hr ⟨S,a,s,g,st,p,rfl,a_,sa,hs,ok,k⟩;refine⟨_,(aF (bD (tW (LL (bY _ _) hr.units (pv 1) (aV (pv 0) rfl)) (by with_unfolding_all rfl)) (aH (DR (bY _ _) hr.units (aV (pv 0) rfl) (pv 1) (dg (ahv T) hr (pv 0) (aq (pv 1) aC)) rfl)) bH) (aH (aS (LJ (bY _ _) hr.units (aV (pv 0) rfl) (pv 1) (λ_ _=>rfl))))),?_⟩;try dsimp only[bc,Cx.bf]
 refine pL ?_;intro _;obtain⟨es,hd,nd,each⟩:=sa.km;have va:=(cG hd.at_).1;have iH:=(aJ.trans aJ) _ _ sa.fix.obj;have b4:=(hs.mono aJ:StandsAt H p st);refine⟨_,rfl,_,rfl,a.s,_,_,_,_,rfl,iH,T.eK,T.xI,Bj a,a.km,st,p.map cy,_,rfl,rfl,hd.mono aJ,b4,_,rfl,?_⟩;cases qv:bW (gC es) (p.map cy)with
 |none=>
  refine bA ?_;refine⟨_,rfl,a.s,_,_,rfl,iH,ox a (by decide +kernel),_,rfl,a.M++S,a,s,g,st,p,rfl,sa.a_ a_,by rw[<-lS];exact sa.fix,by rw[<-lS];exact sa.ahp hs,ok,λH1 l us s1 oy iw pr=>?_⟩;have eX:=sa.mono (bN s1);have Bo:=hd.mono (bN s1);have dO:=ahK sa.fix.aZ.sQ nd λe he=>(each e he).1;refine⟨_,rfl,a.s,_,_,_,_,rfl,s1 _ _ iH,T.eK,T.xI,Bj a,_,rfl,a.km,st,p.map cy,gC es,rfl,rfl,Bo.mono aJ,((hs.mono aJ:StandsAt H p st).mono s1),by unfold gC;rw[aT,bP];lia,?_⟩;have mB:cut a.M (cut S H1) l=some (.lst us):=by rw[lS];exact eE (sa.a_ a_) oy iw
  have gD:Paired (f7 A0 (cut a.M (cut S H1))) (gW s p) us:=by rw[lS];exact pr
  have ahM:∀e∈es,Yn.de s.plan.sects.length e.1/\∃us,cut a.M (cut S H1) e.2.2=some (.lst us)/\Paired (f7 A0 (cut a.M (cut S H1))) (gW s e.1) us:=λe he=>by obtain⟨q1,us,q2,q3⟩:=each e he;exact⟨q1,us,bN (bN s1) _ _ q2,Paired.cj q3 λ_ _ q=>q.mono (bN (bN s1))⟩
  have eY:=FZ.add eX Bo nd ahM (ahE qv) ok (hs.mono (bN s1)) mB gD (by rw[bP];lia);have jg:upd (cut S H1) a.km (bQ (bY P w).knd a.km (cY (gC es) (p.map cy) st (.ref l)))=cut S (upd H1 a.km (bQ (bY P w).knd a.km (cY (gC es) (p.map cy) st (.ref l)))):=(ic va).symm;rw[jg]at eY;have em:cut a.M (cut S (upd H1 a.km (bQ (bY P w).knd a.km (cY (gC es) (p.map cy) st (.ref l)))))=cut a.M (cut S H1):=by rw[<-jg];exact mS (by simp[SA.M])
  have fr:aG a.M H (upd H1 a.km (bQ (bY P w).knd a.km (cY (gC es) (p.map cy) st (.ref l)))):=(aG.of s1).trans (aG.upd (by simp[SA.M]));have hd2:=cC.u9 (Bo.mono aJ) (show(bY P w).rel H1 (p.map cy) st from((hs.mono aJ:StandsAt H p st).mono s1)) (by unfold gC;rw[aT,bP];lia) (.ref l);have ahN:=gz.dG (hs.mono aJ:StandsAt H p st) (H':=upd H1 a.km (bQ (bY P w).knd a.km (cY (gC es) (p.map cy) st (.ref l)))) λb xs e=>by rw[ay (e9 (s1 _ _ e) (Bo.mono aJ).at_ (by simp[*]))];exact s1 _ _ e
  have F7:=(aJ.trans aJ) _ _ eY.fix.obj;refine⟨_,rfl,a.s,_,_,_,_,rfl,F7,T.eK,T.xI,Bj a,_,rfl,a.km,st,p.map cy,_,V.ref l,rfl,rfl,hd2,ahN,by rw[Ao,aD rfl],?_⟩;simp[*]
 |some v=>refine bg ?_;obtain⟨e,he,rfl,rfl⟩:=ahD qv;obtain⟨_,us,h1,h2⟩:=each e he;refine⟨_,rfl,a.s,_,_,_,_,rfl,iH,T.eK,T.xI,Bj a,_,rfl,a.km,st,e.1.map cy,_,_,rfl,rfl,hd.mono aJ,b4,qv,?_⟩;exact k H _ us (aG.of (ax.refl _)) sa h1 h2
def F8(s:State)(g:List Nat):Nat->Places->Bool
 |0,_=>false
 |n+1,p=>(gW s p).any λmv=>fS s.plan s.routes s.takes g n mv.to
def Qp(s:State)(g:List Nat)(n:Nat)(p:Places):fS s.plan s.routes s.takes g n p=(Yh.meets g p||F8 s g n p):=by
 cases n with
 |zero=>show Yh.meets g p=_;show _=(_||false);simp[*]
 |succ n=>rfl
inductive Qq(P:af)(w:ah)(A0:aL)(m:Nat)(F:State->List Nat->Nat->Places->Bool)(vs:List V)(H:Hp)(Q:VK):Prop
 |mk:∀(S:List Addr) (a:SA) (s:State) (g:List Nat) (st:Addr) (p:Places) (n:Nat),vs=[.ref a.s,.ref st,.int n]->n<m->n<=5->cu S H->dm P w A0 (cut S H) a s g->StandsAt (cut S H) p st->Yn.de s.plan.sects.length p->(∀H',aG a.M H H'->dm P w A0 (cut S H') a s g->Q (.bl (F s g n p)) H')->Qq P w A0 m F vs H Q
def Qr(P:af)(w:ah)(A0:aL)(m:Nat)(F:State->List Nat->Nat->Places->Bool):Sp:=λvs H Q _=>Qq P w A0 m F vs H Q
abbrev Bp(P:af)(w:ah)(A0:aL)(m:Nat):Sp:=Qr P w A0 m λs g n p=>fS s.plan s.routes s.takes g n p
abbrev Qs(P:af)(w:ah)(A0:aL)(m:Nat):Sp:=Qr P w A0 m F8
def ahO(T:Txt w K mg A0)(X:df K A0.search "reaches" "Search.reaches" AI)(m:Nat)(ahP:cK P w K mg base A0.search "is_wanted" 2 ["self","stands"] (F1 A0))(ahQ:cK P w K mg base A0.search "reaches_onward" (9+2*m) ["self","stands","left"] (Qs P w A0 (m+1))):
  cK P w K mg base A0.search "reaches" (10+2*m) ["self","stands","left"] (Bp P w A0 (m+1)):=by
 rw[show 10+2*m=9+2*m+1 from by lia];refine dY ["self","stands","left","key"] X T.eK ?_;rintro nD f aU A outer s H vs Q E hr ⟨S,a,s,g,st,p,n,rfl,iy,F9,a_,sa,hs,ok,k⟩;refine⟨_,(aF (bw 3 nD (jZ (aq (pv 1) (aq (pv 2) aC)))) (aF (bD (tW (LL (jb _ _) hr.units (pv 3) (aV (pv 0) rfl)) (by with_unfolding_all rfl)) (aH (DR (jb _ _) hr.units (aV (pv 0) rfl) (pv 3) (vX (dg ahP hr (pv 0) (aq (pv 1) aC)) (iN (dg ahQ hr (pv 0) (aq (pv 1) (aq (pv 2) aC))))) rfl)) bH) (aH (aS (LJ (jb _ _) hr.units (aV (pv 0) rfl) (pv 3) (λ_ _=>rfl)))))),?_⟩;try dsimp only[bc,Cx.bf]
 refine iS ?_;intro _ _;refine⟨_,rfl,_,rfl,iq,λp1 eV=>?_⟩;have s1:=ax.new (o:=.tup [V.ref st,V.int (n:Int)]) eV;have Qt:cut S (upd H p1 (.tup [V.ref st,V.int (n:Int)])) p1=some (.tup [V.ref st,V.int (n:Int)]):=eE a_ eV aA;have eX:=sa.mono (bN s1);have p_:=a_.same s1;have eM:=hs.mono (bN s1);generalize upd H p1 (.tup [V.ref st,V.int (n:Int)])=H1 at s1 Qt eX p_ eM⊢;have ir:∀H',(∀b xs,cut S H1 b=some (.tup xs)->H' b=some (.tup xs))->uB H' (fJ (p,n)) p1:=λH' t=>⟨_,t _ _ Qt,.cons ⟨st,rfl,gz.dG eM t⟩ (.cons rfl .nil)⟩;obtain⟨es,hd,nd,each⟩:=eX.kr;have iH:=(aJ.trans aJ) _ _ eX.fix.obj;refine⟨_,rfl,_,rfl,a.s,_,_,_,_,rfl,iH,T.eK,T.xJ,Bk a,a.kr,p1,fJ (p,n),_,rfl,rfl,hd.mono aJ,ir H1 λb xs e=>aJ _ _ e,_,rfl,?_⟩;cases qv:bW (fU s g es) (fJ (p,n))with
 |none=>
  refine bA ?_;refine ahC (λb H3=>b=fS s.plan s.routes s.takes g n p/\aG a.M H1 H3/\dm P w A0 (cut S H3) a s g) ?_ (λC hC=>?_)
  ·rintro b H3 ⟨rfl,b8,ie⟩
   have Bq:=λb xs e=>aJ _ _ (p9 b8 _ _ (eX.i0 b xs e));obtain⟨yB,gj,Qu,oz⟩:=ie.kr;have yC:=(cG gj.at_).1;have F_:=(aJ.trans aJ) _ _ ie.fix.obj;have dO:=ahL sa.fix.aZ.sQ Qu oz;refine⟨_,rfl,a.s,_,_,_,_,rfl,F_,T.eK,T.xJ,Bk a,_,rfl,a.kr,p1,fJ (p,n),fU s g yB,rfl,rfl,gj.mono aJ,ir H3 λb xs e=>aJ _ _ (Bq b xs e),by unfold fU;rw[aT,bP];lia,?_⟩;have e4:cut S (upd H3 a.kr (bQ (jb P w).knd a.kr (cY (fU s g yB) (fJ (p,n)) p1 (.bl (fS s.plan s.routes s.takes g n p)))))=upd (cut S H3) a.kr (bQ (jb P w).knd a.kr (cY (fU s g yB) (fJ (p,n)) p1 (.bl (fS s.plan s.routes s.takes g n p)))):=ic yC;have gm:dm P w A0 (cut S (upd H3 a.kr (bQ (jb P w).knd a.kr (cY (fU s g yB) (fJ (p,n)) p1 (.bl (fS s.plan s.routes s.takes g n p)))))) a s g:=by
    rw[e4];cases Qv:bW (fU s g yB) (fJ (p,n))with
    |none=>exact F0.add ie gj Qu oz (ahJ Qv) ok F9 (ir _ Bq) (by rw[bP];lia)
    |some v=>rw[ahH Qv,ahG gj.at_];exact ie
   have lU:=cC.u9 (gj.mono aJ) (show(jb P w).rel H3 (fJ (p,n)) p1 from ir H3 λb xs e=>aJ _ _ (Bq b xs e)) (by unfold fU;rw[aT,bP];lia) (.bl (fS s.plan s.routes s.takes g n p));have yD:=(aJ.trans aJ) _ _ gm.fix.obj;refine⟨_,rfl,a.s,_,_,_,_,rfl,yD,T.eK,T.xJ,Bk a,_,rfl,a.kr,p1,fJ (p,n),_,_,rfl,rfl,lU,?_,by rw[Ao,aD rfl],?_⟩
   ·refine ir _ λb xs e=>?_;have e3:=aJ _ _ (Bq b xs e);rw[ay (e9 e3 (gj.mono aJ).at_ (by simp[*]))];exact e3
   exact k _ ((aG.of s1).trans (b8.trans (aG.upd (by simp[SA.M])))) gm
  refine⟨_,rfl,a.s,_,_,rfl,iH,ox a (by decide +kernel),_,rfl,a,st,p,g,rfl,iH,(aJ.trans aJ) _ _ eX.fix.wanted,eX.fix.Bm,ok.len,eM.mono aJ,λH2 s2=>⟨_,rfl,?_⟩⟩;have eY:=eX.mono (bN s2);refine eC (λhm=>?_) (λhm=>?_)
  ·exact hC true H2 ⟨by rw[Qp,hm,Bool.true_or],aG.of s2,eY⟩
  refine⟨_,rfl,a.s,_,_,rfl,s2 _ _ iH,ox a (by decide +kernel),_,rfl,_,rfl,S,a,s,g,st,p,n,rfl,iy,F9,p_.same s2,eY,eM.mono (bN s2),ok,λH3 b8 ie=>?_⟩;refine hC _ H3 ⟨?_,(aG.of s2).trans b8,ie⟩;rw[Qp];simp[*]
 |some v=>refine bg ?_;have ev:=ahI qv;subst ev;refine⟨_,rfl,a.s,_,_,_,_,rfl,iH,T.eK,T.xJ,Bk a,_,rfl,a.kr,p1,fJ (p,n),_,_,rfl,rfl,hd.mono aJ,ir H1 λb xs e=>aJ _ _ e,qv,?_⟩;exact k _ (aG.of s1) eX
def dm.inn(h:dm P w A0 H a s g):∀b∈a.M,H b≠none:=by
 obtain⟨es,h1,_⟩:=h.km;obtain⟨nW,h2,_⟩:=h.kr;intro b hb;unfold SA.M at hb;simp only[be,fL,fM]at hb;rcases hb with rfl|rfl
 ·rw[h1.at_];simp[*]
 rw[h2.at_];simp[*]
def ahR(T:Txt w K mg A0)(X:df K A0.search "reaches_onward" "Search.reaches_onward" EE)(m:Nat)(ahS:cK P w K mg base A0.search "moves_from" 6 ["self","stands"] (F5 P w A0))(ahT:cK P w K mg base A0.search "reaches" (8+2*m) ["self","stands","left"] (Bp P w A0 m)):
  cK P w K mg base A0.search "reaches_onward" (9+2*m) ["self","stands","left"] (Qs P w A0 (m+1)):=by
 rw[show 9+2*m=8+2*m+1 from by lia];refine dY ["self","stands","left","move"] X T.eK ?_;rintro nD f aU A outer s H vs Q E hr ⟨S,a,s,g,st,p,n,rfl,iy,F9,a_,sa,hs,ok,k⟩;refine⟨_,(aH (aS (jW (hG jv (pv 2) aP (g_ _)) (iN (cR (JD rfl) rfl T.Np M7 (aq (j_ (own:=[("move",3)]) rfl nD (g9 (dg ahS hr (pv 0) (aq (pv 1) aC))) (i7 (by rfl)) (λ_ _ _ _ _=>(ck 3 nD)) (λ_ _ _ _ _=>j9) (λ_ _ _ _ _=>(dg ahT hr (pv 0) (aq (Ba (K:=K) rfl (pv 3) rfl) (aq (dC jY (pv 2) aP) aC))))) aC)))))),?_⟩;try dsimp only[bc,Cx.bf]
 refine⟨_,rfl,_,_,rfl,rfl,_,rfl,?_⟩;show if decide ((0:Int)<(n:Int))=true then _ else _;cases n with
 |zero=>exact k H (aG.of (ax.refl _)) sa
 |succ n=>
  rw[cq (by simp[*])];have iH:=(aJ.trans aJ) _ _ sa.fix.obj;refine⟨_,rfl,a.s,_,_,rfl,iH,ox a (by decide +kernel),_,rfl,S,a,s,g,st,p,rfl,a_,sa,hs,ok,λH1 l us eN eX hl pr=>?_⟩;obtain⟨Ga,iw⟩:=cG hl;have iw:=aJ _ _ iw;refine⟨l,rfl,⟨us,aB.of iw⟩,λD hD=>?_⟩;have p_:cu S H1:=a_.jj eN sa.off;have sD:=ax.new (o:=.lst []) hD;have Br:D∉a.M:=λz=>by
   have:=eX.inn D z;exact this (by
    by_cases q:D∈S
    ·exact lQ q
    rw[b6 q];exact hD)
  have q_:=ahB (p:=p) sa.fix.aZ.sig ok.len sa.fix.aZ.dO;have lpr:=bZ pr;let f:Mv->Bool:=λmv=>fS s.plan s.routes s.takes g n mv.to;let Z1:Nat->Hp->Prop:=λi H'=>aG a.M H1 H'/\dm P w A0 (cut (D::S) H') a s g/\H' D=some (.lst ((((gW s p).map f).take i).map V.bl));refine nF (K:=K) (a:=l) (xs:=us) Z1
   ⟨aG.of sD,eX.mono (sN hD sD),aA⟩ (λi H' _ q=>aB.of (q.1 _ _ iw Ga)) ?_ ?_
  ·rintro i v H' hv ⟨fr,eY,hd⟩
   obtain⟨mv,jc,kP⟩:=Paired.get' pr hv;have ahU:=kP.mono (Qn (S:=S) fr hD);have Bs:=ahU.mono aJ;obtain⟨mp,u6,ib,ml,md,rfl,M1⟩:=Bs;obtain⟨tok,_⟩:=Bn sa.fix.aZ.good (d_ jc) ok;have hf:((gW s p).map f)[i]?=some (f mv):=by rw[cb,jc];rfl
   have F7:=(aJ.trans aJ) _ _ eY.fix.obj;have yE:cu (D::S) H':=(p_.jj fr sa.off).cons hd;refine⟨rfl,_,rfl,a.s,_,_,rfl,F7,ox a (by decide +kernel),_,rfl,mp,_,_,_,_,rfl,aJ _ _ M1.obj,T.fT,T.uN,rfl,_,rfl,_,_,rfl,rfl,D::S,a,s,g,ib,mv.to,n,?_,by simp_all,by exact gN ‹_›,yE,eY,M1.stands,tok,λH3 b8 ie=>?_⟩
   ·simp[*]
   have gj:=b8 _ _ hd Br;have jg:cut (D::S) (upd H3 D (.lst ((((gW s p).map f).take i).map V.bl++[V.bl (f mv)])))=cut (D::S) H3:=mS (by simp);refine⟨_,gj,by rw[aT,dQ,aT,bP];lia,?_,?_,?_⟩
   ·intro b o e hb;rw[ay (bz e hD)];exact b8 _ _ (fr _ _ e hb) hb
   ·lia
   rw[aA,dS hf,ft];rfl
  rintro H' ⟨fr,eY,hd⟩;rw[fq (by simp[*])]at hd;refine⟨_,_,rfl,aB.of hd,?_⟩;have e:((gW s p).map f).any id=F8 s g (n+1) p:=by rw[yW];rfl
  rw[e];exact k H' (eN.trans fr) (eY.mono (ym λb hb=>bU _ hb))
def ahV(T:Txt w K mg A0)(X:df K A0.search "reaches" "Search.reaches" AI):cK P w K mg base A0.search "reaches" 8 ["self","stands","left"] (Bp P w A0 0):=by refine dY ["self","stands","left","key"] X T.eK ?_;rintro nD f aU A outer s H vs Q E hr ⟨S,a,s,g,st,p,n,rfl,iy,_⟩;simp_all
theorem Qw(T:Txt w K mg A0)(X:df K A0.search "reaches" "Search.reaches" AI)(X2:df K A0.search "reaches_onward" "Search.reaches_onward" EE)(M1:cK P w K mg base A0.search "is_wanted" 2 ["self","stands"] (F1 A0))(M2:cK P w K mg base A0.search "moves_from" 6 ["self","stands"] (F5 P w A0)):
  ∀m,cK P w K mg base A0.search "reaches" (8+2*m) ["self","stands","left"] (Bp P w A0 m)
 |0=>ahV T X
 |m+1=>by rw[show 8+2*(m+1)=10+2*m from by lia];exact ahO T X m M1 (ahR T X2 m M2 (Qw T X X2 M1 M2 m))
open Yn (nR jd cS nS uK fR level dh)
def ahW(f:aG (D::M) H H'):ax (cut M (cut (D::S) H)) (cut M (cut (D::S) H')):=λb o e=>by obtain⟨n1,e⟩:=cG e;obtain⟨n2,e⟩:=cG e;rw[b6 n1,b6 n2];exact f _ _ e λz=>by simp_all
inductive Qx(A0:aL)(vs:List V)(H:Hp)(Q:VK):Prop
 |mk:∀(r b:V) (x:aN) (bo:Option aN),vs=[r,b]->dj A0 H x r->fi (dj A0 H) bo b->Q (.bl (nR bo x)) H->Qx A0 vs H Q
def ahX(A0:aL):Sp:=λvs H Q _=>Qx A0 vs H Q
def Qy(T:Txt w K mg A0):b9 P w K mg base "is_sooner" 1 ["row","best"] (ahX A0):=by
 refine cg ["row","best"] T.adD ?_;rintro nD f aU A outer s H vs Q E hr ⟨r,b,x,bo,rfl,⟨rp,ia,gV,rm,rb,rfl,R1⟩,hb,k⟩;refine⟨_,(aH (aS (vX (hG qP (pv 1) eF (g_ _)) (iN (hG zA (aV (pv 0) rfl) (aV (pv 1) rfl) (g_ _)))))),?_⟩;try dsimp only[bc,Cx.bf]
 refine⟨_,rfl,rfl,_,rfl,?_⟩;cases bo with
 |none=>obtain rfl:b= .aQ:=hb;assumption
 |some y=>
  obtain⟨bp,bdx,bst,bm,bb,rfl,B1⟩:=(hb:dj A0 H y b);refine bg ⟨_,rfl,rp,_,_,_,_,rfl,R1.obj,T.dz,T.rw_done,rfl,_,rfl,bp,_,_,_,_,rfl,B1.obj,T.dz,T.rw_done,rfl,_,_,rfl,rfl,?_⟩;have e:decide (((x.done:Nat):Int)<((y.done:Nat):Int))=nR (some y) x:=by exact tQ.mpr (by simp[*])
  simp_all
inductive Qz(A0:aL)(vs:List V)(H:Hp)(Q:VK):Prop
 |mk:∀(Hv:Hp) (a:SA) (g:List Nat) (l:Addr) (b:V) (us:List V) (xs:List aN) (bo:Option aN),vs=[.ref a.s,.ref l,b]->ax Hv H->H a.s=some (.ins A0.search a.dx (jR a))->H a.wl=some (.lst (aR g))->g.length=3->H l=some (.lst us)->Paired (dj A0 Hv) xs us->(∀x∈xs,x.at_.length=3)->fi (dj A0 Hv) bo b->(∀H' v,ax H H'->fi (dj A0 Hv) (cS g bo xs) v->Q v H')->Qz A0 vs H Q
def ahY(A0:aL):Sp:=λvs H Q _=>Qz A0 vs H Q
def QA(T:Txt w K mg A0):b9 P w K mg base "soonest" 3 ["search","rows","best"] (ahY A0):=by
 refine cg ["search","rows","best","row"] T.adE ?_;rintro nD f aU A outer s H vs Q E hr ⟨Hv,a,g,l,b,us,xs,bo,rfl,sv,ho,hw,hg,hl,pr,h3,hb,k⟩;refine⟨_,(aF (fX fW rfl (g9 (pv 1)) (ck 3 nD) (aH (bD (PW.pt (pw_and (gv (dg (Qc T) hr (pv 0) (aq (aV (pv 3) rfl) aC))) (pw_and1 (gv (bB (Qy T) hr (aq (pv 3) (aq (pv 2) aC))))))) (aH (bw 2 nD (pv 3))) bH))) (aH (aS (pv 2)))),?_⟩;try dsimp only[bc,Cx.bf]
 refine pL ?_;intro _;refine⟨_,rfl,l,rfl,⟨us,aB.of hl⟩,?_⟩;have lu:=bZ pr;refine oV (λi σ H'=>dB λ(v:V) (v3:Option V)=>fN (σ=[some (.ref a.s),some (.ref l),some v,v3]) (ax H H') (fi (dj A0 Hv) (cS g bo (xs.take i)) v)) ⟨b,none,rfl,ax.refl _,hb⟩ (λi σ H' _ q=>by obtain⟨_,_,_,sm,_⟩:=q;exact aB.of (sm _ _ hl)) ?_ ?_
 ·rintro i r σ H' pC ⟨v,v3,rfl,sm,ov⟩
  obtain⟨x,hx,rx⟩:=Paired.get' pr pC;have es:cS g bo (xs.take (i+1))=jd g (cS g bo (xs.take i)) x:=by rw[dS hx];unfold cS;simp[*]
  obtain⟨rp,ia,gV,rm,rb,rfl,R1⟩:=id rx;refine⟨_,rfl,a.s,_,_,rfl,sm _ _ ho,ox a (by decide +kernel),_,rfl,rp,_,_,_,_,rfl,(sv.trans sm) _ _ R1.obj,T.dz,T.rw_stands,rfl,a,gV,x.at_,g,rfl,sm _ _ ho,sm _ _ hw,hg,h3 x (d_ hx),R1.stands.mono (sv.trans sm),λH2 s2=>?_⟩;refine⟨_,rfl,?_⟩;have s3:=sv.trans (sm.trans s2);unfold jd at es;cases hm:Yh.meets g x.at_ with
  |false=>rw[hm]at es;refine bg (bg ⟨v,_,rfl,sm.trans s2,?_⟩);rw[es];exact ov
  |true=>
   rw[hm,m_]at es;refine bA ⟨_,rfl,_,rfl,_,v,x,cS g bo (xs.take i),rfl,rx.mono s3,fi.mono ov λ_ q=>q.mono s3,_,rfl,?_⟩;refine eC (λhs=>?_) (λhs=>?_)
   ·rw[aD hs]at es;refine⟨_,rfl,_,_,rfl,sm.trans s2,?_⟩;rw[es];exact rx
   rw[az hs]at es;refine⟨v,_,rfl,sm.trans s2,?_⟩;rw[es];exact ov
 rintro σ H' ⟨v,v3,rfl,sm,ov⟩;rw[fq (by simp[*])]at ov;exact⟨_,rfl,k H' v sm ov⟩
inductive QB(P:af)(w:ah)(A0:aL)(vs:List V)(H:Hp)(Q:VK):Prop
 |mk:∀(S:List Addr) (a:SA) (s:State) (g:List Nat) (l:Addr) (b:V) (us:List V) (xs:List aN) (bo:Option aN) (n:Nat),vs=[.ref a.s,.ref l,.int n,b]->n<=5->cu S H->dm P w A0 (cut S H) a s g->cut a.M (cut S H) l=some (.lst us)->Paired (dj A0 (cut a.M (cut S H))) xs us->(∀x∈xs,Yn.de s.plan.sects.length x.at_/\x.h.length<=10)->(xs.flatMap (fR s.plan s.routes s.takes s.ready)).length<=20000->fi (dj A0 (cut a.M (cut S H))) bo b->(∀H' l' QC,aG a.M H H'->dm P w A0 (cut S H') a s g->cut a.M (cut S H') l'=some (.lst QC)->Paired (dj A0 (cut a.M (cut S H'))) (nS s.plan s.routes s.takes s.ready g n bo xs) QC->Q (.ref l') H')->QB P w A0 vs H Q
def ahZ(P:af)(w:ah)(A0:aL):Sp:=λvs H Q _=>QB P w A0 vs H Q
def ah0(T:Txt w K mg A0):
  b9 P w K mg base "longer_rows" 21 ["search","rows","left","best"] (ahZ P w A0):=by
 refine cg ["search","rows","left","best","longer","row","move"] T.adF ?_;rintro nD f aU A outer s H vs Q E hr ⟨S,a,s,g,l,b,us,xs,bo,n,rfl,hn,a_,sa,hl,pr,hx,vc,hb,k⟩;refine⟨_,(aF (bw 4 nD (cf aC)) (aF (fX fW rfl (g9 (pv 1)) (ck 5 nD) (aH (fX fW rfl (g9 (dg (F6 T) hr (pv 0) (aq (aV (pv 5) rfl) aC))) (ck 6 nD) (aH (bD (gv (dg (Qw T T.adB T.adC (Qc T) (F6 T) 6) hr (pv 0) (aq (aV (pv 6) rfl) (aq (pv 2) aC)))) (aH (i3 (jy jT vI vJ rf (pv 4) (aq (bB (Pt T) hr (aq (pv 5) (aq (pv 6) (aq (bj cH (aV (aV (pv 0) rfl) rfl) (aV (pv 6) rfl)) aC)))) aC)))) bH))))) (aH (aS (j_ (own:=[("row",5)]) rfl nD (g9 (pv 4)) (i7 (by rfl)) (λ_ _ _ _ _=>(ck 5 nD)) (λ_ _ _ _ _=>(JJ (gv (bB (Qy T) hr (aq (pv 5) (aq (pv 3) aC)))))) (λ_ _ _ _ _=>(pv 5))))))),?_⟩;try dsimp only[bc,Cx.bf]
 refine iS ?_;intro _ _;let NX:=fR s.plan s.routes s.takes s.ready;let rB:aN->Bool:=λy=>fS s.plan s.routes s.takes g n y.at_;obtain⟨Ga,iw⟩:=cG hl;have iw:=aJ _ _ iw;have lu:=bZ pr;refine⟨bL _,λD hD=>?_⟩;have sD:=ax.new (o:=.lst []) hD;have Br:=λz=>sa.inn D z (by
  by_cases q:D∈S
  ·exact lQ q
  rw[b6 q];exact hD)
 refine⟨_,rfl,l,rfl,⟨us,aB.of (sD _ _ iw)⟩,?_⟩;refine oV (λi σ H'=>iY λ(v5 v6:Option V) (vs:List V)=>ma (σ=[some (.ref a.s),some (.ref l),some (.int (n:Int)),some b,some (.ref D),v5,v6]) (aG a.M H H') (dm P w A0 (cut (D::S) H') a s g) (H' D=some (.lst vs)) (Paired (dj A0 (cut a.M (cut (D::S) H'))) (((xs.take i).flatMap NX).filter rB) vs))
  ⟨none,none,[],rfl,aG.of sD,sa.mono (sN hD sD),aA,.nil⟩ (λi σ H' _ q=>by obtain⟨_,_,_,_,fr,_⟩:=q;exact aB.of (fr _ _ iw Ga)) ?_ ?_
 ·rintro i rv σ H' FL ⟨v5,v6,vs,rfl,fr,eX,hd,om⟩
  obtain⟨x,xm,rx⟩:=Paired.get' pr FL;obtain⟨QD,akQ⟩:=hx x (d_ xm);have QE:=rx.mono (Qn fr hD);obtain⟨rp,ia,gV,rm,rb,rfl,R1⟩:=id QE;have ah1:=(aJ.trans aJ) _ _ eX.fix.obj;have p_:=(a_.jj fr sa.off).cons hd;refine⟨_,rfl,a.s,_,_,rfl,ah1,ox a (by decide +kernel),_,rfl,rp,_,_,_,_,rfl,(aJ.trans aJ) _ _ R1.obj,T.dz,T.rw_stands,rfl,D::S,a,s,g,gV,x.at_,rfl,p_,eX,R1.stands.mono aJ,QD,λH2 ml vd bF eY oZ yF=>?_⟩;obtain⟨ah2,oA⟩:=cG oZ;obtain⟨QF,oA⟩:=cG oA;have QF:ml∉D::a.M:=λz=>by simp_all
  refine⟨ml,rfl,⟨vd,aB.of oA⟩,?_⟩;have hd2:=bF _ _ hd Br;have Bt:ax (cut a.M (cut (D::S) H')) (cut a.M (cut (D::S) H2)):=p9 bF;have rx2:=QE.mono Bt;have akR:=Paired.cj om λ_ _ q=>q.mono Bt;have QG:=bZ yF;have enx:NX x=(gW s x.at_).map (x.longer s.ready):=rfl;have rL:(((xs.take i).flatMap NX).length+(NX x).length)<=20000:=by
   refine cF ?_ vc;have e:xs=xs.take i++x::xs.drop (i+1):=by rw[<-drop_cons xm,List.take_append_drop]
   have e2:(xs.flatMap NX).length=((xs.take i).flatMap NX).length+((NX x).length+((xs.drop (i+1)).flatMap NX).length):=by rw[e,qE,cX,f9,cX,<-e]
   show _<=(xs.flatMap NX).length;omega
  refine oV (λj σ H3=>dB λ(v6:Option V) (vs:List V)=>ma (σ=[some (.ref a.s),some (.ref l),some (.int (n:Int)),some b,some (.ref D),some (.ref rp),v6]) (aG (D::a.M) H2 H3) (dm P w A0 (cut (D::S) H3) a s g) (H3 D=some (.lst vs)) (Paired (dj A0 (cut a.M (cut (D::S) H3))) (((xs.take i).flatMap NX).filter rB++((NX x).take j).filter rB) vs))
   ⟨v6,vs,rfl,aG.of (ax.refl _),eY,hd2,by simp[*]⟩ (λj σ H3 _ q=>by obtain⟨_,_,_,fr,_⟩:=q;exact aB.of (fr _ _ oA QF)) ?_ ?_
  ·rintro j QH σ H3 jc ⟨v6,vs,rfl,b8,ie,gj,Bu⟩
   obtain⟨mv,sZ,kP⟩:=Paired.get' yF jc;have ve:ax (cut a.M (cut (D::S) H2)) (cut a.M (cut (D::S) H3)):=ahW b8;have Bs:=kP.mono ve;have rx3:=rx2.mono ve;obtain⟨mp,u6,ib,mll,md,rfl,M1⟩:=id Bs;obtain⟨tok,FQ⟩:=Bn sa.fix.aZ.good (d_ sZ) QD;have hnx:(NX x)[j]?=some (x.longer s.ready mv):=by rw[enx,cb,sZ];rfl
   have F_:=(aJ.trans aJ) _ _ ie.fix.obj;have yG:cu (D::S) H3:=λc hc z=>by
    rcases be.mp hc with rfl|hc
    ·lia
    cases q:H2 c with
    |none=>have:=p_.jj bF eX.off c (bU _ hc);exact this q
    |some o=>
     rw[b8 c o q (λz2=>by
      rcases be.mp z2 with z2|z2
      ·simp_all
      exact sa.off c hc z2)]at z
     cases z
   refine⟨_,rfl,a.s,_,_,rfl,F_,ox a (by decide +kernel),_,rfl,mp,_,_,_,_,rfl,(aJ.trans aJ) _ _ M1.obj,T.fT,T.uN,rfl,_,rfl,D::S,a,s,g,ib,mv.to,n,rfl,by lia,hn,yG,ie,M1.stands.mono aJ,tok,λH4 gk gm=>?_⟩;refine⟨_,rfl,?_⟩;have lU:=gk _ _ gj Br;have Gb:ax (cut a.M (cut (D::S) H3)) (cut a.M (cut (D::S) H4)):=p9 gk;have QI:=b8.trans (gk.sub λc hc=>bU _ hc);have Gc:=Paired.cj Bu λ_ _ q=>q.mono Gb;have u4:((NX x).take (j+1)).filter rB=((NX x).take j).filter rB++(if fS s.plan s.routes s.takes g n mv.to=true then [x.longer s.ready mv]else []):=by rw[dS hnx,y_];congr 1;rw[Hm,List.filter_nil];rfl
   refine eC (λGd=>?_) (λGd=>?_)
   ·rw[aD Gd]at u4
    have QJ:=Bs.mono Gb;have rx4:=rx3.mono Gb;obtain⟨_,_,_,_,_,em,M4⟩:=id QJ;cases em;have Ge:=gm.fix;have yD:=(aJ.trans aJ) _ _ Ge.obj;have nB:mv.train<s.ready.length:=by rw[sa.fix.aZ.good.mI];exact FQ
    have vf:=yG.jj gk ie.off;refine⟨_,rfl,.inl ⟨rfl,_,aB.of lU⟩,_,rfl,_,rfl,_,rfl,a.s,_,_,_,_,rfl,yD,T.eK,T.EM,P4 a,a.y.y,_,_,_,_,rfl,(aJ.trans aJ) _ _ Ge.aZ.obj,T.di,T.AU,FE a.y,_,rfl,mp,_,_,_,_,rfl,(aJ.trans aJ) _ _ M4.obj,T.fT,T.xG,rfl,_,_,_,_,rfl,rfl,aB.of ((aJ.trans aJ) _ _ Ge.aZ.ready),bE (v:=V.int ((s.ready.getD mv.train 0:Nat):Int)) (by simp[*]),?_⟩;refine⟨a.M++(D::S),_,_,x,mv,s.ready.getD mv.train 0,rfl,gm.a_ vf,by rw[<-lS];exact rx4,by rw[<-lS];exact QJ,by lia,λH5 Gf s5 ah9=>?_⟩;have F4:=s5 _ _ lU;have jg:cut (D::S) (upd H5 D (.lst (vs++[Gf])))=cut (D::S) H5:=mS (by simp);have lv:=bZ Gc;have b1:(((xs.take i).flatMap NX).filter rB).length<=((xs.take i).flatMap NX).length:=Cg _ _;have b2:(((NX x).take j).filter rB).length<=((NX x).take j).length:=Cg _ _;have b3:((NX x).take j).length<=(NX x).length:=by rw[dQ];exact GR _ _
    rw[cX]at lv;refine⟨D,vs,Gf,rfl,rfl,F4,by rw[bP];lia,?_⟩;have s_:ax (cut a.M (cut (D::S) H4)) (cut a.M (cut (D::S) H5)):=p9 (aG.of s5);refine⟨_,vs++[Gf],rfl,QI.trans ((aG.of s5).trans (aG.upd (by simp))),?_,aA,?_⟩
    ·rw[jg];exact gm.mono (bN s5)
    rw[u4,jg,<-tN];refine kX (Paired.cj Gc λ_ _ q=>q.mono s_) ?_;rw[lS];exact ah9
   rw[az Gd,kU]at u4;refine⟨_,vs,rfl,QI,gm,lU,?_⟩;rw[u4];exact Gc
  rintro σ H3 ⟨v6,vs,rfl,b8,ie,gj,Bu⟩;rw[fq (l:=NX x) (by simp[*])]at Bu;refine⟨_,_,vs,rfl,λc o e hc=>?_,ie,gj,?_⟩
  ·exact b8 _ _ (bF _ _ (fr _ _ e hc) hc) λz=>by simp_all
  rw[dS xm,qE,y_,f9,Cf,kU];exact Bu
 rintro σ H' ⟨v5,v6,vs,rfl,fr,eX,hd,om⟩;rw[fq (by simp[*])]at om;have QK:=eX.mono (ym λc hc=>bU _ hc);have vw:ax (cut a.M (cut (D::S) H')) (cut a.M (cut S H')):=bN (ym λc hc=>bU _ hc);have QL:=Paired.cj om λ_ _ q=>q.mono vw
 have fE:=fi.mono hb λ_ q=>q.mono (p9 fr);have lv:=bZ QL;have b1:((xs.flatMap NX).filter rB).length<=(xs.flatMap NX).length:=Cg _ _;refine⟨_,rfl,D,rfl,⟨_,aB.of hd⟩,λD2 lR=>?_⟩;refine nF (λi H2=>ax H' H2/\∃us,H2 D2=some (.lst us)/\Paired (dj A0 (cut a.M (cut S H'))) ((((xs.flatMap NX).filter rB).take i).filter (nR bo)) us) ⟨ax.new lR,[],aA,.nil⟩ (λi H2 _ q=>aB.of (q.1 _ _ hd)) ?_ ?_
 ·rintro i v H2 hv ⟨s2,pZ,hd2,gD⟩
  obtain⟨y,hy,ry⟩:=Paired.get' QL hv;have c2:ax (cut a.M (cut S H')) H2:=(aJ.trans aJ).trans s2;refine⟨rfl,_,rfl,_,rfl,v,b,y,bo,rfl,ry.mono c2,fi.mono fE λ_ q=>q.mono c2,_,rfl,?_⟩;rw[dS hy,y_];refine eC (λhs=>?_) (λhs=>?_)
  ·refine⟨_,rfl,pZ,hd2,?_,λc o e=>?_,_,aA,?_⟩
   ·have l2:=bZ gD;have:=Cg (nR bo) (((xs.flatMap NX).filter rB).take i);rw[dQ]at this;rw[bP];have hb2:(xs.flatMap NX).length<=20000:=vc;lia
   ·rw[ay (bz e lR)];exact s2 _ _ e
   have e1:List.filter (nR bo) [y]=[y]:=by simp[hs]
   rw[e1];exact kX gD ry
  simp[*]
 rintro H2 ⟨s2,pZ,hd2,gD⟩;rw[fq (by simp[*])]at gD;have ah_:=a_.jj fr sa.off;have eY:=QK.mono (bN s2);refine k H2 D2 pZ (fr.trans (aG.of s2)) eY ?_ (Paired.cj gD λ_ _ q=>q.mono (p9 (aG.of s2)));rw[lS];exact eE (QK.a_ ah_) lR hd2
abbrev qd(s:State)(i:Nat):List aN:=level s.plan s.routes s.takes s.ready i ⟨s.at_,[]⟩
abbrev eO(s:State)(i:Nat):List aN:=dh s.plan s.routes s.takes s.ready i ⟨s.at_,[]⟩
theorem Gg(G:Yn.Good s):∀(i:Nat) {y:aN},y∈qd s i->Yn.de s.plan.sects.length y.at_
 |0,y,h=>by rw[dA.mp h];exact G.at_
 |i+1,y,h=>by obtain⟨x,hx,hy⟩:=jr.mp h;obtain⟨mv,jc,rfl⟩:=b_.mp hy;exact(Bn G jc (Gg G i hx)).1
def Gh(h:y∈qd s i):y.h.length=i:=by have:=Yn.r9 i h;simp[*]
theorem QM(s:State)(i:Nat):(qd s (i+1)).length+(eO s i).length=(eO s (i+1)).length:=by show _=(eO s i++qd s (i+1)).length;rw[cX];lia
theorem Gi{α β:Type}(F:α->List β):∀{a b:List α},a.Sublist b->(a.flatMap F).Sublist (b.flatMap F)
 |_,_,.slnil=>.refl _
 |_,_,.cons x h=>by rw[f9];exact(Gi F h).trans (List.sublist_append_right _ _)
 |_,_,.cons₂ x h=>by rw[f9,f9];exact(List.Sublist.refl _).append (Gi F h)
inductive QN(P:af)(w:ah)(A0:aL)(vs:List V)(H:Hp)(Q:VK):Prop
 |mk:∀(S:List Addr) (a:SA) (s:State) (g:List Nat) (n:Nat),vs=[.ref a.s,.int n]->n<=5->cu S H->dm P w A0 (cut S H) a s g->(eO s n).length<=20000->(∀H' v,aG a.M H H'->fi (dj A0 (cut a.M (cut S H'))) (cS g none (eO s n)) v->Q v H')->QN P w A0 vs H Q
def aia(P:af)(w:ah)(A0:aL):Sp:=λvs H Q _=>QN P w A0 vs H Q
def aib(T:Txt w K mg A0):
  b9 P w K mg base "best_row" 22 ["search","most"] (aia P w A0):=by
 refine cg ["search","most","rows","best","left"] T.adG ?_;rintro nD f aU A outer s H vs Q E hr ⟨S,a,s,g,n,rfl,hn,a_,sa,vc,k⟩;refine⟨_,(aF (bw 2 nD (cf (aq (bB (Pq T) hr (aq (aV (pv 0) rfl) aC)) aC))) (aF (bw 3 nD (bB (QA T) hr (aq (pv 0) (aq (pv 2) (aq eF aC))))) (aF (fX fW rfl (Dj rfl T.xF (aq (dC jY (pv 1) aP) (aq (eh eA aP) (aq (eh eA aP) aC)))) (ck 4 nD) (aF (bw 2 nD (bB (ah0 T) hr (aq (pv 0) (aq (pv 2) (aq (pv 4) (aq (pv 3) aC)))))) (aH (bw 3 nD (bB (QA T) hr (aq (pv 0) (aq (pv 2) (aq (pv 3) aC)))))))) (aH (aS (pv 3)))))),?_⟩;try dsimp only[bc,Cx.bf]
 refine jL ?_;intro _ _ _;have iH:=(aJ.trans aJ) _ _ sa.fix.obj;refine⟨_,rfl,a.s,_,_,_,_,rfl,iH,T.eK,T.EN,P5 a,a.M++S,a.og,s.at_,rfl,sa.a_ a_,by rw[<-lS];exact sa.fix.origin,λH1 rv s1 eD=>⟨dM,λl0 oy=>?_⟩⟩;rw[<-lS]at eD;have s2:=s1.trans (ax.new (o:=.lst [rv]) oy);have mB:cut a.M (cut S (upd H1 l0 (.lst [rv]))) l0=some (.lst [rv]):=by rw[lS];exact eE (sa.a_ a_) (s1.free oy) aA
 have Bt:ax (cut a.M (cut S H1)) (cut a.M (cut S (upd H1 l0 (.lst [rv])))):=bN (bN (ax.new oy));have gD:Paired (dj A0 (cut a.M (cut S (upd H1 l0 (.lst [rv]))))) [(⟨s.at_,[]⟩:aN)] [rv]:=.cons (eD.mono Bt) .nil;generalize upd H1 l0 (.lst [rv])=H2 at s2 mB gD⊢;have c2:ax (cut a.M (cut S H2)) H2:=aJ.trans aJ;have eY:=sa.mono (bN (S:=S) s2);refine⟨_,rfl,_,rfl,cut a.M (cut S H2),a,g,l0,.aQ,[rv],[⟨s.at_,[]⟩],none,rfl,c2,c2 _ _ eY.fix.obj,c2 _ _ eY.fix.wanted,eY.fix.Bm,c2 _ _ mB,gD,(λx hx=>by rw[dA.mp hx];exact sa.fix.aZ.good.at_.len),rfl,λH3 v s3 hv=>?_⟩;have ve:ax (cut a.M (cut S H2)) (cut a.M (cut S H3)):=bN (bN s3);refine⟨_,rfl,_,_,rfl,rfl,_,rfl,_,rfl,?_⟩;have yx:nH ((n:Int) - 1) (-1) (-1) n:=by have:=nH.neg (i:=(n:Int) - 1) (j:= -1) (by lia) (by lia) (by simp[*]) (by simp[*]);simp_all
 refine⟨_,_,_,_,rfl,yx,?_⟩;let Z1:Nat->L2.St->Hp->Prop:=λi σ H'=>HB λ(l:Addr) (v:V) (v4:Option V) (us:List V) (xs:List aN) (bo:Option aN)=>zc (σ=[some (.ref a.s),some (.int (n:Int)),some (.ref l),some v,v4]) (aG a.M H H') (dm P w A0 (cut S H') a s g) (cut a.M (cut S H') l=some (.lst us)) (Paired (dj A0 (cut a.M (cut S H'))) xs us) (fi (dj A0 (cut a.M (cut S H'))) bo v) (xs.Sublist (qd s i)) (uK s.plan s.routes s.takes s.ready g (n - i) xs bo=cS g none (eO s n));refine Dk (n:=n) Z1
  ⟨l0,v,none,[rv],[⟨s.at_,[]⟩],_,rfl,aG.of (s2.trans s3),eY.mono (bN s3),ve _ _ mB,Paired.cj gD λ_ _ q=>q.mono ve,fi.mono hv λ_ q=>q.mono ve,.refl _,by rw[Nat.sub_zero];exact Yn.Z6 _ n⟩ ?_ ?_
 ·rintro i σ H' hi ⟨l,v,v4,us,xs,bo,rfl,fr,eX,hl,pr,hv,rL,heq⟩
  have ei:((n:Int) - 1+(i:Int)*(-1))=((n - 1 - i:Nat):Int):=by grind
  rw[ei];have QO:=Gi (fR s.plan s.routes s.takes s.ready) rL;have b1:(xs.flatMap (fR s.plan s.routes s.takes s.ready)).length<=(qd s (i+1)).length:=QO.length_le;have b2:=QM s i;have b3:(eO s (i+1)).length<=(eO s n).length:=Yn.MJ (by assumption);refine⟨_,rfl,_,rfl,_,rfl,_,rfl,S,a,s,g,l,v,us,xs,bo,n - 1 - i,rfl,by lia,a_.jj fr sa.off,eX,hl,pr,λx hx=>⟨Gg sa.fix.aZ.good i (rL.subset hx),by rw[Gh (rL.subset hx)];lia⟩,by lia,hv,λH4 l4 QP gk gm Bd QQ=>?_⟩;have c4:ax (cut a.M (cut S H4)) H4:=aJ.trans aJ;have QR:(nS s.plan s.routes s.takes s.ready g (n - 1 - i) bo xs).Sublist (qd s (i+1)):=(Hn.trans Hn).trans QO;refine⟨_,rfl,_,rfl,_,rfl,cut a.M (cut S H4),a,g,l4,v,QP,nS s.plan s.routes s.takes s.ready g (n - 1 - i) bo xs,bo,rfl,c4,c4 _ _ gm.fix.obj,c4 _ _ gm.fix.wanted,gm.fix.Bm,c4 _ _ Bd,QQ,(λx hx=>(Gg sa.fix.aZ.good (i+1) (QR.subset hx)).len),fi.mono hv λ_ q=>q.mono (p9 gk),λH5 v5 s5 hv5=>?_⟩;have s_:ax (cut a.M (cut S H4)) (cut a.M (cut S H5)):=bN (bN s5);refine⟨l4,v5,_,QP,_,_,rfl,fr.trans (gk.trans (aG.of s5)),gm.mono (bN s5),s_ _ _ Bd,Paired.cj QQ λ_ _ q=>q.mono s_,fi.mono hv5 λ_ q=>q.mono s_,QR,?_⟩;rw[<-heq,show n - i=(n - 1 - i)+1 from by lia,show n -(i+1)=n - 1 - i from by lia];rfl
 rintro σ H' ⟨l,v,v4,us,xs,bo,rfl,fr,eX,hl,pr,hv,rL,heq⟩;rw[Nat.sub_self]at heq;have heq:bo=cS g none (eO s n):=heq;rw[heq]at hv;exact⟨_,rfl,k H' v fr hv⟩
open Yn (je nU pI lL spread pJ W)
abbrev CE:=Places×Addr×Nat
def cW(es:List CE):Ent (List SK):=es.map λe=>(e.1.map cy,e.2.1,V.int (e.2.2:Int))
def cz(es:List CE):Yn.Cs:=es.map λe=>(e.1,e.2.2)
def aid(es:List CE):(cz es).map (·.1)=es.map (·.1):=by unfold cz;rw[fz];rfl
def aie(es:List CE)(q:Places):bW (cW es) (q.map cy)=(je (cz es) q).map λ(n:Nat)=>V.int (n:Int):=by
 induction es with
 |nil=>rfl
 |cons e r ih=>
  show bW ((e.1.map cy,e.2.1,V.int (e.2.2:Int))::cW r) _=_;rw[kz,ih];unfold je;show _=((((e.1,e.2.2)::cz r).find? λx=>decide (x.1=q)).map (·.2)).map _;by_cases h:e.1=q
  ·simp[*]
  rw[az (λz=>h (ou (λa b=>pW) z)),List.find?_cons_of_neg (by simpa using h)]
def aif(es:List CE)(q:Places):((cW es).any λp=>decide (p.1=q.map cy))=((cz es).any λx=>decide (x.1=q)):=by unfold cW cz;rw[yW,yW];congr 1;funext e;show decide (e.1.map cy=q.map cy)=decide (e.1=q);exact tQ.mpr ⟨λz=>ou (λa b=>pW) z,λz=>by rw[z]⟩
theorem aih(es:List CE)(q:Places)(b:Addr)(v:Nat):∃jV,fN (cY (cW es) (q.map cy) b (.int (v:Int))=cW jV) (cz jV=nU (cz es) q v) (∀e∈jV,(e.1=q/\e.2.1=b)\/∃e0∈es,e.1=e0.1/\e.2.1=e0.2.1):=by
 unfold cY nU;rw[aif];by_cases h:((cz es).any λx=>decide (x.1=q))=true
 ·rw[aD h,aD h]
  refine⟨es.map λe=>if e.1=q then(e.1,e.2.1,v)else e,?_,?_,λe he=>?_⟩
  ·unfold cW
   rw[fz,fz];refine m9 λe _=>?_;show(if e.1.map cy=q.map cy then _ else _)=_;by_cases z:e.1=q
   ·simp[*]
   rw[az (λy=>z (ou (λa b=>pW) y))];simp[*]
  ·unfold cz;rw[fz,fz];refine m9 λe _=>?_;lia
  obtain⟨e0,h0,rfl⟩:=b_.mp he;refine .inr ⟨e0,h0,?_⟩;lia
 rw[az h,az h];refine⟨es++[(q,b,v)],by unfold cW;simp[*],by unfold cz;simp[*],λe he=>?_⟩;grind
def aii(cs:Yn.Cs)(x:Places×Nat)(f:Places->Nat):W (cs++[x]) f=W cs f+x.2*f x.1:=by unfold W;rw[Yn.AD,Yn.kF,Yn.xn,B9]
abbrev QS(s:State)(l:Yn.Cs):Yn.Cs:=spread s.plan s.routes s.takes l []
def aij{s:State}{es:List CE}(hS:s.plan.sects.length<=16)(nd:((cz es).map (·.1)).Nodup)(h:∀p∈(cz es).map (·.1),Yn.de s.plan.sects.length p):es.length<=35937:=by have:=Yn.MK ((cz es).map (·.1)) nd λp hp=>(h p hp).pl hS;unfold cz at this;simp_all
inductive QT(P:af)(w:ah)(A0:aL)(vs:List V)(H:Hp)(Q:VK):Prop
 |mk:∀(S:List Addr) (a:SA) (s:State) (g:List Nat) (n:Nat),vs=[.ref a.s,.int n]->n<=5->cu S H->dm P w A0 (cut S H) a s g->(∀H',aG a.M H H'->dm P w A0 (cut S H') a s g->Q (.bl (decide (20000<(eO s n).length))) H')->QT P w A0 vs H Q
def aik(P:af)(w:ah)(A0:aL):Sp:=λvs H Q _=>QT P w A0 vs H Q
def ail(T:Txt w K mg A0):b9 P w K mg base "has_too_many_rows" 7 ["search","most"] (aik P w A0):=by
 refine cg ["search","most","counts","total","made","further","stands","count","move"] T.adH ?_;rintro nD f aU A outer s H vs Q E hr ⟨S,a,s,g,n,rfl,hn,a_,sa,k⟩;refine⟨_,(aF (bw 2 nD (YZ (bY _ _) hr.units (aV (pv 0) rfl) aP)) (aF (bw 3 nD aP) (aF (fX fW rfl (Uc rfl T.xF (aq (pv 1) aC)) (ck 4 nD) (aF (bw 5 nD (Ap (bY _ _))) (aF (Wq (fX fW rfl (YM (bY _ _).knd (pv 2)) (nr rfl (gw (ck 6 nD) (gw (ck 7 nD) mm))) (aF (fX fW rfl (g9 (dg (F6 T) hr (pv 0) (aq (pv 6) aC))) (ck 8 nD) (aF (DR (bY _ _) hr.units (pv 5) (aV (pv 8) rfl) (dC lj (P_ (bY _ _) hr.units (pv 5) (aV (pv 8) rfl) aP ⟨rfl,rfl,rfl,rfl⟩) (pv 7)) rfl) (aH (HX (i:=3) nD rfl (by first|exact Or.inl rfl|exact Or.inr rfl) (pv 7) HZ)))) (aH (bD (bT jv (pv 3) (cM T.acE rfl)) (aH (aS oS)) bH))))) (aH (bw 2 nD (pv 5)))))) (aH (aS oS))))),?_⟩;refine jL ?_;intro _ _ _;have iH:=(aJ.trans aJ) _ _ sa.fix.obj;let CN:Nat->Yn.Cs->Prop:=pJ s.plan s.routes s.takes s.ready ⟨s.at_,[]⟩;intro pc mT;have sp:=ax.new (o:=bQ (bY P w).knd pc []) mT;have lV:StandsAt H s.at_ a.og:=sa.fix.origin.mono (aJ.trans aJ);refine⟨_,rfl,a.s,_,_,_,_,rfl,sp _ _ iH,T.eK,T.EN,P5 a,a.og,s.at_.map cy,rfl,⟨aA,bL _,λq hq=>by simp_all⟩,lV.mono sp,?_⟩;rw[e8];have Bv:=ax.new (o:=bQ (bY P w).knd pc (cW [(s.at_,a.og,1)])) mT;have aim:cC (bY P w) (upd H pc (bQ (bY P w).knd pc (cW [(s.at_,a.og,1)]))) pc (cW [(s.at_,a.og,1)]):=⟨aA,by rw[bP];show 1<=_;decide,λq hq=>by rw[dA.mp hq];exact lV.mono Bv⟩
 refine⟨_,rfl,(n:Int),rfl,by simp[*],by lia,?_⟩;rw[show((n:Int)).toNat=n from by rfl];let Z1:Nat->L2.St->Hp->Prop:=λi σ H'=>tR λ(d:Addr) (v4 v5 v6 v7 v8:Option V) (es:List CE)=>zc (σ=[some (.ref a.s),some (.int (n:Int)),some (.ref d),some (.int ((eO s i).length:Nat)),v4,v5,v6,v7,v8]) (aG a.M H H') (H d=none) (dm P w A0 (cut (d::S) H') a s g) (cC (bY P w) H' d (cW es)) (CN i (cz es)) (∀e∈es,Yn.de s.plan.sects.length e.1/\StandsAt (cut (d::S) H') e.1 e.2.1) ((eO s i).length<=20000);refine Ih (n:=n) Z1
  ⟨pc,none,none,none,none,none,[(s.at_,a.og,1)],rfl,aG.of Bv,mT,sa.mono (sN mT Bv),aim,Yn.aaf,(λe he=>by rw[dA.mp he];exact⟨sa.fix.aZ.good.at_,(sa.fix.origin.mono aJ).mono (sN mT Bv)⟩),by show 1<=20000;decide⟩ ?_ ?_
 ·rintro i σ H' hi ⟨d,v4,v5,v6,v7,v8,es,rfl,fr,kC,eX,dat,cn,aK,hle⟩
  intro pf yH;have sf:=ax.new (o:=bQ (bY P w).knd pf []) yH;have rg:d≠pf:=λz=>by rw[<-z,dat.at_]at yH;cases yH
  have QU:cu S H':=a_.jj fr sa.off;have p_:cu (d::S) H':=QU.cons dat.at_;refine⟨d,bQ (bY P w).knd d (cW es),sf _ _ dat.at_,True.intro,λod=>?_⟩;refine⟨_,rfl,d,od,cW es,rfl,aA,?_⟩;have hd2:(upd (upd H' pf (bQ (bY P w).knd pf [])) d (.cB od (bQ (bY P w).knd d (cW es)))) d=some (.cB od (bQ (bY P w).knd d (cW es))):=aA;have qf:cC (bY P w) (upd (upd H' pf (bQ (bY P w).knd pf [])) d (.cB od (bQ (bY P w).knd d (cW es)))) pf (cW []):=⟨by rw[ay (aO rg)];exact aA,bL _,λq hq=>by cases hq⟩;have bF:aG [d] H' (upd (upd H' pf (bQ (bY P w).knd pf [])) d (.cB od (bQ (bY P w).knd d (cW es)))):=(aG.of sf).trans (aG.upd (by simp));have vw:ax (cut (d::S) H') (cut (pf::d::S) (upd (upd H' pf (bQ (bY P w).knd pf [])) d (.cB od (bQ (bY P w).knd d (cW es))))):=λc o e=>by
   obtain⟨n1,e⟩:=cG e;have yI:c≠pf:=bz e yH;have lW:c≠d:=λz=>n1 (by simp[*])
   rw[b6 (λz=>by simp_all),ay lW,ay yI];exact e
  have eY:=eX.mono vw;have QV:∀e∈es,StandsAt (cut (pf::d::S) (upd (upd H' pf (bQ (bY P w).knd pf [])) d (.cB od (bQ (bY P w).knd d (cW es))))) e.1 e.2.1:=λe he=>(aK e he).2.mono vw;have yE:cu (pf::d::S) (upd (upd H' pf (bQ (bY P w).knd pf [])) d (.cB od (bQ (bY P w).knd d (cW es)))):=by
   refine cu.cons (cu.cons (λc hc z=>?_) hd2) qf.at_;by_cases q:c=d
   ·simp_all
   rw[ay q]at z;exact QU c hc (sf.free z)
  generalize Bw:upd (upd H' pf (bQ (bY P w).knd pf [])) d (.cB od (bQ (bY P w).knd d (cW es)))=Hb at hd2 qf bF eY QV yE;have Bx:d∉a.M:=eY.off d (by simp);have QW:pf∉a.M:=eY.off pf (by simp);have QX:H pf=none:=by
   cases q:H pf with
   |none=>rfl
   |some o=>rw[fr _ _ q QW]at yH;assumption
  let iV:Places->Nat:=λp=>(gW s p).length;let B:=(eO s i).length;have lc:(cW es).length=es.length:=by unfold cW;rw[aT]
  have lcs:(cz es).length=es.length:=by unfold cz;rw[aT]
  have ain:B+W (cz es) iV=(eO s (i+1)).length:=by have e1:W (cz es) (λp=>(gh s.plan s.routes s.takes p).length)=(qd s (i+1)).length:=cn.size;have e2:=QM s i;show(eO s i).length+W (cz es) (λp=>(gh s.plan s.routes s.takes p).length)=_;rw[e1];lia
  have akU:(eO s (i+1)).length<=(eO s n).length:=Yn.MJ (by assumption);let Z2:Nat->L2.St->Hp->Prop:=λt σ H2=>k9 λ(v6 v7 v8:Option V) (fs:List CE)=>zc (σ=[some (.ref a.s),some (.int (n:Int)),some (.ref d),some (.int ((B+W ((cz es).take t) iV:Nat):Int)),some (.int ((0:Int)+(i:Int))),some (.ref pf),v6,v7,v8]) (aG (pf::a.M) Hb H2) (dm P w A0 (cut (pf::d::S) H2) a s g) (cu (pf::d::S) H2) (cC (bY P w) H2 pf (cW fs)) (cz fs=QS s ((cz es).take t)) (∀e∈fs,Yn.de s.plan.sects.length e.1/\StandsAt (cut (pf::d::S) H2) e.1 e.2.1) (B+W ((cz es).take t) iV<=20000);refine pU (n:=es.length) Z2
   ⟨v6,v7,v8,[],by rw[List.take_zero];rfl,by rw[<-Bw];exact aG.of (ax.refl _),by rw[<-Bw]at eY;exact eY,by rw[<-Bw]at yE;exact yE,by rw[<-Bw]at qf;exact qf,by rw[List.take_zero];rfl,(λe he=>by simp_all),by assumption⟩ ?_ ?_ ?_ ?_
  ·rintro t σ H2 ht ⟨v6,v7,v8,fs,rfl,b8,_⟩;exact⟨b8 _ _ hd2 (by simp[rg,Bx]),by rw[lc];exact ht⟩
  ·rintro σ H2 ⟨v6,v7,v8,fs,rfl,b8,_⟩;exact⟨b8 _ _ hd2 (by simp[rg,Bx]),by simp[*]⟩
  ·rintro t σ H2 x H3 ht ⟨v6,v7,v8,fs,rfl,b8,ie,yG,Gj,gH,jQ,QY⟩ ⟨Tt,k0,q0,w0,QZ,rfl,hT,rfl⟩
   obtain⟨e,he⟩:∃e,es[t]?=some e:=⟨_,cp ht⟩;have aio:(cW es)[t]?=some (e.1.map cy,e.2.1,V.int (e.2.2:Int)):=by unfold cW;rw[cb,he];rfl
   rw[aio]at QZ;cases QZ;have Gk:e∈es:=d_ he;have Q0:(cz es)[t]?=some (e.1,e.2.2):=by unfold cz;rw[cb,he];rfl
   have sT:=ax.new (o:=.tup [V.ref e.2.1,V.int (e.2.2:Int)]) hT;have gm:=ie.mono (bN (S:=pf::d::S) sT);have vf:=yG.same sT;have By:=Gj.mono sT;have aip:StandsAt (cut (pf::d::S) H2) e.1 e.2.1:=gz.dG (QV e Gk) λb xs q=>by obtain⟨n1,q1⟩:=cG q;have q2:=eY.i0 b xs q;obtain⟨n2,_⟩:=cG q2;rw[b6 n1];exact b8 _ _ q1 (λz=>by grind)
   have Q1:=aip.mono (bN sT);have Gm:∀x∈fs,Yn.de s.plan.sects.length x.1/\StandsAt (cut (pf::d::S) (upd H2 Tt (.tup [V.ref e.2.1,V.int (e.2.2:Int)]))) x.1 x.2.1:=λx hx=>⟨(jQ x hx).1,(jQ x hx).2.mono (bN sT)⟩;have gk:aG (pf::a.M) Hb (upd H2 Tt (.tup [V.ref e.2.1,V.int (e.2.2:Int)])):=b8.trans (aG.of sT);refine⟨_,_,rfl,aX.of aA,rfl,_,_,rfl,_,_,rfl,rfl,?_⟩;generalize upd H2 Tt (.tup [V.ref e.2.1,V.int (e.2.2:Int)])=H4 at gm vf By Q1 Gm gk⊢;have yD:=(aJ.trans aJ) _ _ gm.fix.obj;refine⟨_,rfl,a.s,_,_,rfl,yD,ox a (by decide +kernel),_,rfl,pf::d::S,a,s,g,e.2.1,e.1,rfl,vf,gm,Q1,(aK e Gk).1,λH5 ml vd fP sa5 oZ yF=>?_⟩;obtain⟨ah2,oA⟩:=cG oZ;obtain⟨air,oA⟩:=cG oA;have ais:ml≠pf:=λz=>air (by simp[*]);refine⟨ml,rfl,⟨vd,aB.of oA⟩,?_⟩;have QG:=bZ yF;have ait:cC (bY P w) H5 pf (cW fs):=By.keep (by
    rw[By.at_];exact fP _ _ By.at_ QW) λb xs q=>fP _ _ q λz=>by
     have:=gm.a_ vf;obtain⟨es1,h1,_⟩:=gm.km;obtain⟨nW,h2,_⟩:=gm.kr;unfold SA.M at z;simp only[be,fL,fM]at z;rcases z with rfl|rfl
     ·rw[aJ _ _ h1.at_]at q;cases q
     rw[aJ _ _ h2.at_]at q;cases q
   have s_:∀b xs,cut (pf::d::S) H4 b=some (.tup xs)->cut (pf::d::S) H5 b=some (.tup xs):=λb xs q=>aJ _ _ (p9 fP _ _ (gm.i0 b xs q));have aiu:cu (pf::d::S) H5:=vf.jj fP gm.off;let C0:=QS s ((cz es).take t);have nd0:(C0.map (·.1)).Nodup:=(Yn.Es (P:=s.plan) (rs:=s.routes) (k:=s.takes) ((cz es).take t) [] (by simp)).1;let Z3:Nat->L2.St->Hp->Prop:=λj σ H6=>dB λ(v8:Option V) (fs:List CE)=>ma (σ=[some (.ref a.s),some (.int (n:Int)),some (.ref d),some (.int ((B+W ((cz es).take t) iV+e.2.2*j:Nat):Int)),some (.int ((0:Int)+(i:Int))),some (.ref pf),some (.ref e.2.1),some (.int (e.2.2:Int)),v8]) (aG [pf] H5 H6) (cC (bY P w) H6 pf (cW fs)) (cz fs=lL e.2.2 C0 ((gW s e.1).take j)) (∀x∈fs,Yn.de s.plan.sects.length x.1/\StandsAt (cut (pf::d::S) H5) x.1 x.2.1);refine oV (K:=K) (a:=ml) (xs:=vd) Z3
    ⟨v8,fs,by simp[*],aG.of (ax.refl _),ait,by assumption,λx hx=>⟨(Gm x hx).1,gz.dG (Gm x hx).2 s_⟩⟩ (λj σ H6 _ q=>by obtain⟨_,_,_,fr,_⟩:=q;exact aB.of (fr _ _ oA (by simp[ais]))) ?_ ?_
   ·rintro j QH σ H6 jc ⟨v8,fs,rfl,vg,tq,yJ,Bz⟩
    obtain⟨mv,sZ,kP⟩:=Paired.get' yF jc;have yK:ax (cut (pf::d::S) H5) (cut (pf::d::S) H6):=(vg.sub (S':=pf::d::S) λb hb=>by rw[dA.mp hb];exact cT).cut;have aiw:=(kP.mono aJ).mono yK;obtain⟨mp,u6,ib,mll,md,rfl,M1⟩:=aiw;obtain⟨tok,_⟩:=Bn sa.fix.aZ.good (d_ sZ) (aK e Gk).1;have Gn:StandsAt H6 mv.to ib:=M1.stands.mono aJ;have nd6:((cz fs).map (·.1)).Nodup:=by rw[yJ];exact(Yn.Er _ _ _ nd0).1
    have dO:=aij sa.fix.aZ.sQ nd6 λp hp=>by rw[aid]at hp;obtain⟨x,hx,rfl⟩:=b_.mp hp;simp[*]
    have yL:=aJ _ _ M1.obj;let old:=(je (cz fs) mv.to).getD 0;have aiy:V.int ((old:Nat):Int)=(bW (cW fs) (mv.to.map cy)).getD (V.int 0):=by rw[aie];show V.int ((((je (cz fs) mv.to).getD 0:Nat)):Int)=_;cases je (cz fs) mv.to<;>rfl
    refine⟨_,rfl,pf,rfl,⟨_,tq⟩,_,rfl,mp,_,_,_,_,rfl,yL,T.fT,T.uN,rfl,cW fs,V.int ((old:Nat):Int),tq,.inr ⟨ib,mv.to.map cy,rfl,Gn,aiy⟩,_,rfl,_,_,rfl,rfl,_,rfl,_,rfl,mp,_,_,_,_,rfl,yL,T.fT,T.uN,rfl,pf,ib,mv.to.map cy,cW fs,rfl,rfl,tq,Gn,by unfold cW;rw[aT,bP];lia,?_⟩;obtain⟨Q2,Q3,yh,hf3⟩:=aih fs mv.to ib (old+e.2.2);have ev:V.int (((old:Nat):Int)+(e.2.2:Int))=V.int ((old+e.2.2:Nat):Int):=rfl;have Q4:=cC.u9 tq (k:=mv.to.map cy) (b:=ib) (show(bY P w).rel H6 (mv.to.map cy) ib from Gn) (by unfold cW;rw[aT,bP];lia) (V.int ((old+e.2.2:Nat):Int));rw[Q3]at Q4;refine⟨_,rfl,_,rfl,_,_,rfl,rfl,?_⟩;refine⟨some (V.ref mp),Q2,?_,?_,?_,?_,?_⟩
    ·have en:((B+W ((cz es).take t) iV+e.2.2*(j+1):Nat):Int)=((B+W ((cz es).take t) iV+e.2.2*j:Nat):Int)+(e.2.2:Int):=by rw[Nat.mul_succ];lia
     simp[*]
    ·exact vg.trans (aG.upd (by simp))
    ·show cC (bY P w) (upd H6 pf (bQ (bY P w).knd pf (cY (cW fs) (mv.to.map cy) ib (V.int ((old+e.2.2:Nat):Int))))) pf (cW Q2);rw[Q3];exact Q4
    ·rw[yh,dS sZ,Yn.aac,<-yJ];rfl
    intro x hx;rcases hf3 x hx with⟨h1,h2⟩|⟨x0,ux,h1,h2⟩
    ·rw[h1,h2];obtain⟨_,_,_,_,_,em,M0⟩:=kP.mono aJ;have M0s:=M0.stands;cases em;refine⟨tok,?_⟩;have eo:=yK _ _ M0.obj;rw[M1.obj]at eo;cases eo;exact M0s
    rw[h1,h2];exact Bz x0 ux
   rintro σ H6 ⟨v8,fs,rfl,vg,tq,yJ,Bz⟩;have yK:ax (cut (pf::d::S) H5) (cut (pf::d::S) H6):=(vg.sub (S':=pf::d::S) λb hb=>by rw[dA.mp hb];exact cT).cut;have Q5:=sa5.mono yK;have aiB:cu (pf::d::S) H6:=by
    intro c hc z;by_cases q:c=pf
    ·rw[q,tq.at_]at z;cases z
    cases q5:H5 c with
    |none=>exact aiu c hc q5
    |some o=>rw[vg _ _ q5 (by simp[q])]at z;cases z
   have Gp:aG (pf::a.M) Hb H6:=gk.trans ((fP.sub λb hb=>bU _ hb).trans (vg.sub λb hb=>by rw[dA.mp hb];exact cT));have em:e.2.2*vd.length=e.2.2*iV e.1:=by rw[<-QG]
   have eW:B+W ((cz es).take (t+1)) iV=B+W ((cz es).take t) iV+e.2.2*vd.length:=by rw[dS Q0,aii,em];show B+(W ((cz es).take t) iV+e.2.2*iV e.1)=_+e.2.2*iV e.1;lia
   rw[fq (by simp[*])]at yJ;rw[<-eW];refine⟨_,rfl,_,_,rfl,rfl,_,rfl,?_⟩;show if decide ((20000:Int)<((B+W ((cz es).take (t+1)) iV:Nat):Int))=true then _ else _;by_cases akW:20000<B+W ((cz es).take (t+1)) iV
   ·rw[cq (by exact iX.2 ‹_›)]
    have hWt:=Yn.aae (cz es) iV (t+1);have ek:decide (20000<(eO s n).length)=true:=cq (by lia);rw[ek]at k;refine bA ⟨Gp _ _ hd2 (by simp[rg,Bx]),k _ ?_ ?_⟩
    ·intro c o q hc
     have lW:c≠d:=λz=>by rw[z,kC]at q;cases q
     have yI:c≠pf:=λz=>by rw[z,QX]at q;cases q
     rw[ay lW];exact Gp _ _ (bF _ _ (fr _ _ q hc) (by simp[lW])) (by simp[yI,hc])
    refine Q5.mono λc o q=>?_;obtain⟨n1,q⟩:=cG q;have lW:c≠d:=λz=>n1 (by rw[z];simp);rw[b6 (λz=>n1 (bU _ (bU _ z))),ay lW];exact q
   rw[b7 (by exact mt iX.1 ‹_›)];refine bg ⟨_,_,_,fs,rfl,Gp,Q5,aiB,tq,?_,λx hx=>⟨(Bz x hx).1,(Bz x hx).2.mono yK⟩,by simp_all⟩;rw[yJ,dS Q0];exact(Yn.aad (P:=s.plan) (rs:=s.routes) (k:=s.takes) ((cz es).take t) [] (e.1,e.2.2)).symm
  rintro σ H2 ⟨v6,v7,v8,fs,rfl,b8,ie,yG,Gj,gH,jQ,QY⟩;have gj:=b8 _ _ hd2 (by simp[rg,Bx]);rw[fq (by simp[*])]at gH QY;refine⟨gj,_,rfl,?_⟩;have Q6:ax (cut (pf::d::S) H2) (cut (pf::S) (upd H2 d (bQ (bY P w).knd d (cW es)))):=λc o q=>by
   obtain⟨n1,q⟩:=cG q;have lW:c≠d:=λz=>n1 (by rw[z];simp)
   rw[b6 (λz=>n1 (by simp_all)),ay lW];exact q
  refine⟨pf,some (.int ((0:Int)+(i:Int))),some (.ref pf),v6,v7,v8,fs,?_,?_,QX,ie.mono Q6,?_,?_,λx hx=>⟨(jQ x hx).1,(jQ x hx).2.mono Q6⟩,by simp_all⟩
  ·rw[fq (by simp[*]),ain];rfl
  ·intro c o q hc
   have lW:c≠d:=λz=>by simp_all
   have yI:c≠pf:=λz=>by simp_all
   rw[ay lW];exact b8 _ _ (bF _ _ (fr _ _ q hc) (by simp[lW])) (by simp[yI,hc])
  ·exact Gj.keep (ay (aO rg)) λb xs q=>by rw[ay (λz=>by simp_all)];exact q
  rw[gH];exact cn.next
 rintro σ H' ⟨d,v4,v5,v6,v7,v8,es,rfl,fr,kC,eX,dat,cn,aK,hle⟩;have e:decide (20000<(eO s n).length)=false:=b7 (by simp[*]);rw[e]at k;exact k H' fr (eX.mono (ym λc hc=>bU _ hc))
theorem BA(Q:Plan)(rs:List Route)(i:Nat)(x:Spot)(h:rs[i]?=some r):gB Q rs (i+1) x=gB Q rs i x++(if Yn.jf Q r=x then [i+2]else []):=by
 unfold gB;rw[List.range_succ,y_,ft];congr 1;have e:isStart Q rs x i=decide (Yn.jf Q r=x):=by unfold isStart;rw[h]
 grind
structure aiC(P:af)(w:ah)(A0:aL)(S:List Addr)(H0 H:Hp)(rd:Addr)(kvs:Ent (List Key))(f:Spot->List Nat)(n:Nat):Prop where
 dat:cC (pz P w) H rd kvs
 len:kvs.length<=n
 keys:∀e∈kvs,cut S H0 e.2.1=some (.tup (e.1.map kV))
 each:∀x,(bW kvs (bR x)=none/\f x=[])\/∃l,bW kvs (bR x)=some (.ref l)/\H l=some (.lst (aR (f x)))/\H0 l=none
 inj:∀x y l,bW kvs (bR x)=some (.ref l)->bW kvs (bR y)=some (.ref l)->x=y
inductive Q7(P:af)(w:ah)(A0:aL)(vs:List V)(H:Hp)(Q:VK):Prop
 |mk:∀(S:List Addr) (H0:Hp) (p dx:Addr) (y:YA) (s:State) (wl:Addr) (g:List Nat),vs=[.ref p,.ref y.y,.ref wl]->H0 p=none->H0 dx=none->dx≠p->H=upd (upd H0 dx (.own p)) p (.ins A0.search dx [])->cu S H0->dk A0 (cut S H0) y s->cut S H0 wl=some (.lst (aR g))->g.length=3->(∀H' a,a.s=p->a.y=y->(∀b∈a.M,H0 b=none)->ax H0 H'->dm P w A0 (cut S H') a s g->Q .aQ H')->Q7 P w A0 vs H Q
def Q8(P:af)(w:ah)(A0:aL):Sp:=λvs H Q _=>Q7 P w A0 vs H Q
def aiD(T:Txt w K mg A0):cK P w K mg base A0.search "__init__" 1 ["self","yard","wanted"] (Q8 P w A0):=by
 refine dY ["self","yard","wanted","number","route"] T.adI T.eK ?_;rintro nD f aU A outer s H vs Q E hr ⟨S,H0,p,dx,y,s,wl,g,rfl,np,nd,ned,rfl,a_,hY,hw,hg,k⟩;refine⟨_,(aF (dH (pv 0) (pv 1) rfl) (aF (dH (pv 0) (pv 2) rfl) (aF (dH (pv 0) (zH Jp rfl T.Nq M8 (aq (aV (pv 1) rfl) aC)) rfl) (aF (dH (pv 0) (Ap (bY _ _)) rfl) (aF (dH (pv 0) (Ap (jb _ _)) rfl) (aF (dH (pv 0) (Ap (pz _ _)) rfl) (aH (fX fW rfl (Dm rfl T.AM (aq (aV (pv 1) rfl) aC)) (nr rfl (gw (ck 3 nD) (gw (ck 4 nD) mm))) (aH (i3 (jy jT vI vJ rf (YX (pz _ _) hr.units (aV (pv 0) rfl) (aV (pv 4) rfl) (cf aC) ⟨rfl,rfl,rfl,rfl⟩) (aq (dC lj (pv 3) (cM T.EL rfl)) aC)))))))))))),?_⟩;try dsimp only[bc,Cx.bf]
 refine lR6 ?_;intro _ _ _ _ _ _;obtain⟨us,dU,jP⟩:=hY.stands;obtain⟨sS,FJ,yr⟩:=hY.routes;have sU:=aJ _ _ (aJ _ _ FJ);have FK:=bZ yr;rw[aT]at FK;refine⟨_,rfl,_,rfl,p,_,dx,_,rfl,aA,T.eK,T.EM,by simp[*],?_⟩;refine⟨_,rfl,_,rfl,p,_,dx,_,rfl,aA,T.eK,T.Nv,by show 1<1000;decide,?_⟩;rw[e8,e8];generalize Gq:upd (upd H0 dx (.own p)) p (.ins A0.search dx (bV "wanted" (V.ref wl) (bV "yard" (V.ref y.y) [])))=H1;have m1:ax H0 H1:=by rw[<-Gq];exact fI np nd
 have p1:H1 p=some (.ins A0.search dx [("yard",V.ref y.y),("wanted",V.ref wl)]):=by rw[<-Gq];exact aA
 refine⟨_,rfl,y.y,_,_,_,_,rfl,m1 _ _ (aJ _ _ hY.obj),T.di,T.xM,Bf y,_,_,rfl,.inl ⟨aB.of (m1 _ _ (aJ _ _ dU)),λog lV=>?_⟩⟩;have sg:=ax.new (o:=.tup us) lV;refine⟨_,rfl,p,_,dx,_,rfl,sg _ _ p1,T.eK,T.EN,by show 2<1000;decide,?_⟩;generalize kJ:upd (upd H1 og (.tup us)) p (.ins A0.search dx (bV "origin" (V.ref og) [("yard",V.ref y.y),("wanted",V.ref wl)]))=H2;have BB:og≠p:=λz=>by simp_all
 have m2:ax H0 H2:=λc o e=>by rw[<-kJ,ay (bz e np)];exact sg _ _ (m1 _ _ e)
 have p2:H2 p=some (.ins A0.search dx [("yard",V.ref y.y),("wanted",V.ref wl),("origin",V.ref og)]):=by rw[<-kJ];exact aA
 have Q9:H2 og=some (.tup us):=by rw[<-kJ,ay BB];exact aA
 have og0:H0 og=none:=m1.free lV;intro km oB;refine⟨_,rfl,p,_,dx,_,rfl,ax.new oB _ _ p2,T.eK,T.xI,by show 3<1000;decide,?_⟩;generalize wx:upd (upd H2 km _) p (.ins A0.search dx (bV "known_moves" (V.ref km) [("yard",V.ref y.y),("wanted",V.ref wl),("origin",V.ref og)]))=H3;have va:km≠p:=λz=>by simp_all
 have k3:∀c o,H2 c=some o->c≠p->H3 c=some o:=λc o e hc=>by rw[<-wx,ay hc];exact ax.new oB _ _ e
 have p3:H3 p=some (.ins A0.search dx [("yard",V.ref y.y),("wanted",V.ref wl),("origin",V.ref og),("known_moves",V.ref km)]):=by rw[<-wx];exact aA
 have Q_:H3 km=some (bQ (bY P w).knd km []):=by rw[<-wx,ay va];exact aA
 have m3:ax H0 H3:=λc o e=>k3 _ _ (m2 _ _ e) (bz e np);have Ra:=k3 _ _ Q9 BB;have Gr:H0 km=none:=m2.free oB;intro kr oC;refine⟨_,rfl,p,_,dx,_,rfl,ax.new oC _ _ p3,T.eK,T.xJ,by show 4<1000;decide,?_⟩;generalize jk:upd (upd H3 kr _) p (.ins A0.search dx (bV "known_reach" (V.ref kr) [("yard",V.ref y.y),("wanted",V.ref wl),("origin",V.ref og),("known_moves",V.ref km)]))=H4;have yC:kr≠p:=λz=>by simp_all
 have nkk:km≠kr:=λz=>by simp_all
 have k4:∀c o,H3 c=some o->c≠p->H4 c=some o:=λc o e hc=>by rw[<-jk,ay hc];exact ax.new oC _ _ e
 have p4:H4 p=some (.ins A0.search dx [("yard",V.ref y.y),("wanted",V.ref wl),("origin",V.ref og),("known_moves",V.ref km),("known_reach",V.ref kr)]):=by rw[<-jk];exact aA
 have Rb:H4 kr=some (bQ (jb P w).knd kr []):=by rw[<-jk,ay yC];exact aA
 have Gs:=k4 _ _ Q_ va;have m4:ax H0 H4:=λc o e=>k4 _ _ (m3 _ _ e) (bz e np);have Rc:=k4 _ _ Ra BB;have Gu:H0 kr=none:=m3.free oC;intro rd mE;refine⟨_,rfl,p,_,dx,_,rfl,ax.new mE _ _ p4,T.eK,T.EO,by show 5<1000;decide,?_⟩;generalize sL:upd (upd H4 rd _) p (.ins A0.search dx (bV "rides" (V.ref rd) [("yard",V.ref y.y),("wanted",V.ref wl),("origin",V.ref og),("known_moves",V.ref km),("known_reach",V.ref kr)]))=H5;have Rf:rd≠km:=λz=>by rw[z,Gs]at mE;cases mE
 have Rg:rd≠kr:=λz=>by simp_all
 have Rh:rd≠p:=λz=>by simp_all
 have k5:∀c o,H4 c=some o->c≠p->H5 c=some o:=λc o e hc=>by rw[<-sL,ay hc];exact ax.new mE _ _ e
 let a:SA:=⟨p,dx,y,wl,og,km,kr,rd⟩;have p5:H5 p=some (.ins A0.search dx (jR a)):=by rw[<-sL];exact aA
 have rd5:H5 rd=some (bQ (pz P w).knd rd []):=by rw[<-sL,ay Rh];exact aA
 have km5:=k5 _ _ Gs va;have kr5:=k5 _ _ Rb yC;have m5:ax H0 H5:=λc o e=>k5 _ _ (m4 _ _ e) (bz e np);have og5:=k5 _ _ Rc BB;have Rj:H0 rd=none:=m4.free mE;clear Gq kJ wx jk sL p1 p2 p3 p4 Q9 Ra Rc Q_ Gs Rb k3 k4 k5 sg;refine⟨_,rfl,y.y,_,_,_,_,rfl,m5 _ _ (aJ _ _ hY.obj),T.di,T.AS,FD y,y.r,_,rfl,aB.of (m5 _ _ sU),?_⟩;have vh:∀{c d:Addr} {H:Hp} {xs:List V} {o:HO},H c=some (.lst xs)->H d=some o->(∀ys,o≠ .lst ys)->c≠d:=λh1 h2 h3 z=>by simp_all
 let Z1:Nat->L2.St->Hp->Prop:=λi σ H'=>iY λ(v3 v4:Option V) (kvs:Ent (List Key))=>vM (σ=[some (.ref p),some (.ref y.y),some (.ref wl),v3,v4]) (ax H0 H') (H' p=some (.ins A0.search dx (jR a))) (H' og=some (.tup us)) (H' km=some (bQ (bY P w).knd km [])) (H' kr=some (bQ (jb P w).knd kr [])) (aiC P w A0 S H0 H' rd kvs (gB s.plan s.routes i) i);refine pU (n:=s.routes.length) Z1
  ⟨none,none,[],rfl,m5,p5,og5,km5,kr5,⟨rd5,bL _,λe he=>by cases he⟩,bL _,(λe he=>by cases he),(λx=>.inl ⟨rfl,rfl⟩),λx y l h=>by cases h⟩ ?_ ?_ ?_ ?_
 ·rintro i σ H' hi ⟨v3,v4,kvs,rfl,sm,_⟩;exact⟨sS,sS[i]'(by simp_all),aB.of (sm _ _ sU),cp (by simp_all)⟩
 ·rintro σ H' ⟨v3,v4,kvs,rfl,sm,_⟩;exact⟨sS,aB.of (sm _ _ sU),by simp[*]⟩
 ·rintro i σ H' x H2 hi ⟨v3,v4,kvs,rfl,sm,hp,lV,oB,oC,R⟩ ⟨Tt,v,rfl,hT,rfl,hv⟩
  have hv:=hv sS (aB.of (sm _ _ sU));obtain⟨r,sW,kM⟩:=Paired.get' yr hv;rw[cb]at sW;obtain⟨r0,kO,rfl⟩:=jq.mp sW;obtain⟨rp,ia,ra,rl,rfl,r1,r2,r3⟩:=kM.mono aJ;let x0:=Yn.jf s.plan r0;have r2:=r2;have sT:=ax.new (o:=.tup [V.int (i:Int),V.ref rp]) hT;refine⟨_,_,rfl,aX.of aA,rfl,_,_,rfl,_,_,rfl,rfl,?_⟩;have iF:=sm.trans sT;have dI:=sT _ _ hp;have Rk:=sT _ _ lV;have Rl:=sT _ _ oB;have Rm:=sT _ _ oC;have qf:=R.dat.mono sT;have Rn:∀x,(bW kvs (bR x)=none/\gB s.plan s.routes i x=[])\/∃l,fN (bW kvs (bR x)=some (.ref l)) ((upd H' Tt (.tup [V.int (i:Int),V.ref rp])) l=some (.lst (aR (gB s.plan s.routes i x)))) (H0 l=none):=λx=>by
   rcases R.each x with q|⟨l,q1,q2,q3⟩
   ·exact .inl q
   exact .inr ⟨l,q1,sT _ _ q2,q3⟩
  generalize upd H' Tt (.tup [V.int (i:Int),V.ref rp])=H2 at iF dI Rk Rl Rm qf Rn⊢;refine⟨_,rfl,p,_,_,_,_,rfl,dI,T.eK,T.EO,P6 a,rd,rfl,⟨kvs,qf⟩,_,rfl,rp,_,_,_,_,rfl,iF _ _ (aJ _ _ r1),T.lO,T.AQ,rfl,bL _,λl0 oy=>?_⟩;have s3:=ax.new (o:=.lst []) oy;have pT:=iF.trans s3;have cE:=s3 _ _ dI;have vi:=s3 _ _ Rk;have yM:=s3 _ _ Rl;have yN:=s3 _ _ Rm;have qg:=qf.mono s3;have jN:(upd H2 l0 (.lst [])) l0=some (.lst []):=aA;have Ro:H0 l0=none:=iF.free oy;have oz:∀x,(bW kvs (bR x)=none/\gB s.plan s.routes i x=[])\/∃l,gR (bW kvs (bR x)=some (.ref l)) ((upd H2 l0 (.lst [])) l=some (.lst (aR (gB s.plan s.routes i x)))) (H0 l=none) (l≠l0):=λx=>by
   rcases Rn x with q|⟨l,q1,q2,q3⟩
   ·exact .inl q
   exact .inr ⟨l,q1,s3 _ _ q2,q3,bz q2 oy⟩
  have Gv:=pT _ _ (aJ _ _ r2);generalize upd H2 l0 (.lst [])=H3 at pT cE vi yM yN qg jN oz Gv⊢;have q_:=hY.dO;have hlen:kvs.length<sizeLine:=by have:=R.len;rw[bP];lia
  have sJ:∀x,(gB s.plan s.routes i x).length<=i:=λx=>by unfold gB;rw[aT];have:=Cg (isStart s.plan s.routes x) (List.range i);rw[List.length_range]at this;exact this
  refine⟨kvs,ra,bR x0,qg,rfl,Gv,hlen,λv hv=>?_,λhn=>?_⟩
  ·rcases oz x0 with⟨q1,_⟩|⟨l,q1,q2,q3,q4⟩
   ·rw[q1]at hv;cases hv
   rw[q1]at hv;cases hv;refine⟨.inl ⟨rfl,_,aB.of q2⟩,_,rfl,_,_,rfl,rfl,l,_,_,rfl,rfl,q2,by rw[aT,bP];have:=sJ x0;lia,?_⟩;have e2:aR (gB s.plan s.routes i x0)++[V.int ((i:Int)+2)]=aR (gB s.plan s.routes (i+1) x0):=by rw[BA s.plan s.routes i x0 kO,aD rfl];simp[*]
   have ne1:∀{c:Addr} {o:HO},H3 c=some o->(∀ys,o≠ .lst ys)->c≠l:=λh1 h2=>aO (vh q2 h1 h2);refine⟨_,_,kvs,rfl,λc o e=>?_,?_,?_,?_,?_,⟨?_,by have:=R.len;lia,R.keys,λx=>?_,R.inj⟩⟩
   ·rw[ay (bz e q3)];exact pT _ _ e
   ·rw[ay (ne1 cE (by intro ys z;cases z))];exact cE
   ·rw[ay (ne1 vi (by intro ys z;cases z))];exact vi
   ·rw[ay (ne1 yM (by simp[*]))];exact yM
   ·rw[ay (ne1 yN (by simp[*]))];exact yN
   ·exact qg.keep (ay (ne1 qg.at_ (by simp[*]))) λb xs e=>by rw[ay (ne1 e (by intro ys z;cases z))];exact e
   by_cases hx:x=x0
   ·subst hx;refine .inr ⟨l,q1,?_,q3⟩;rw[aA,<-e2]
   have er:gB s.plan s.routes (i+1) x=gB s.plan s.routes i x:=by rw[BA s.plan s.routes i x kO,az (λz=>hx z.symm),kU]
   rw[er];rcases oz x with q|⟨l',vj,jm,Gw,BC⟩
   ·exact .inl q
   refine .inr ⟨l',vj,?_,Gw⟩;rw[ay (λz=>hx (R.inj x x0 l (by rw[<-z];exact vj) q1))];exact jm
  rcases oz x0 with⟨_,qe⟩|⟨l,q1,_⟩
  ·have BD:l0≠rd:=vh jN qg.at_ (by simp[*])
   refine⟨.inl ⟨rfl,[],aB.of (by rw[ay BD];exact jN)⟩,_,rfl,_,_,rfl,rfl,l0,_,_,rfl,rfl,by rw[ay BD];exact jN,by show 0<sizeLine;decide,?_⟩;have e2:([]:List V)++[V.int ((i:Int)+2)]=aR (gB s.plan s.routes (i+1) x0):=by rw[BA s.plan s.routes i x0 kO,aD rfl,qe];rfl
   have ne1:∀{c:Addr} {o:HO},H3 c=some o->(∀ys,o≠ .lst ys)->c≠l0:=λh1 h2=>aO (vh jN h1 h2);have aiL:=cC.u9 qg (k:=bR x0) (b:=ra) (show(pz P w).rel H3 (bR x0) ra from Gv) hlen (.ref l0);have aiM:kr≠rd:=aO Rg;have aiN:km≠rd:=aO Rf;refine⟨_,_,cY kvs (bR x0) ra (.ref l0),rfl,λc o e=>?_,?_,?_,?_,?_,⟨?_,cF (LC _ _ _ _) (by have:=R.len;simp[*]),λe he=>?_,λx=>?_,λx y l h1 h2=>?_⟩⟩
   ·rw[ay (bz e Ro),ay (bz e Rj)];exact pT _ _ e
   ·rw[ay (ne1 cE (by intro ys z;cases z)),ay (aO Rh)];exact cE
   ·rw[ay (ne1 vi (by intro ys z;cases z)),ay (e9 vi qg.at_ (by simp[*]))];exact vi
   ·rw[ay (ne1 yM (by simp[*])),ay aiN];exact yM
   ·rw[ay (ne1 yN (by simp[*])),ay aiM];exact yN
   ·exact aiL.keep (ay (aO BD)) λb xs e=>by rw[ay (λz=>by rw[z,ay BD,jN]at e;cases e)];exact e
   ·rcases LD he with⟨h1,h2⟩|⟨q,hq,h1,h2⟩
    ·rw[h1,h2];exact r2
    rw[h1,h2];exact R.keys q hq
   ·rw[Ao]
    by_cases hx:x=x0
    ·subst hx;rw[aD rfl];refine .inr ⟨l0,rfl,?_,Ro⟩;rw[aA,<-e2]
    rw[az (λz=>hx (pP.mp z))];have er:gB s.plan s.routes (i+1) x=gB s.plan s.routes i x:=by rw[BA s.plan s.routes i x kO,az (λz=>hx z.symm),kU]
    rw[er];rcases oz x with q|⟨l',vj,jm,Gw,BC⟩
    ·exact .inl q
    refine .inr ⟨l',vj,?_,Gw⟩;rw[ay BC,ay (vh jm qg.at_ (by simp[*]))];exact jm
   rw[Ao]at h1 h2;have ex:∀x,(if bR x=bR x0 then some (V.ref l0)else bW kvs (bR x))=some (.ref l)->(x=x0/\l=l0)\/(x≠x0/\bW kvs (bR x)=some (.ref l)/\l≠l0):=λx h=>by
    by_cases hx:x=x0
    ·rw[aD (by rw[hx])]at h;cases h;exact .inl ⟨hx,rfl⟩
    rw[az (λz=>hx (pP.mp z))]at h;refine .inr ⟨hx,h,?_⟩;rcases oz x with⟨q,_⟩|⟨l',vj,_,_,BC⟩
    ·rw[q]at h;cases h
    rw[vj]at h;cases h;exact BC
   rcases ex x h1 with⟨e1,e2⟩|⟨e1,e2,e3⟩
   ·rcases ex y h2 with⟨f1,f2⟩|⟨f1,f2,f3⟩
    ·rw[e1,f1]
    exact absurd e2 f3
   rcases ex y h2 with⟨f1,f2⟩|⟨f1,f2,f3⟩
   ·exact absurd f2 e3
   exact R.inj x y l e2 f2
  rw[q1]at hn;cases hn
 rintro σ H' ⟨v3,v4,kvs,rfl,sm,hp,lV,oB,oC,R⟩;have lq:∀{c:Addr} {o:HO},H0 c=none->H' c=some o->c≠km->c≠kr->cut a.M (cut S H') c=some o:=λh1 h2 h3 h4=>by
  rw[b6 (by
   show _∉[km,kr];simp[h3,h4])]
  exact eE a_ h1 h2
 have vw:ax (cut S H0) (cut a.M (cut S H')):=λc o e=>by
  obtain⟨n1,e⟩:=cG e;rw[b6 (by
   show _∉[km,kr];simp[bz e Gr,bz e Gu]),b6 n1]
  exact sm _ _ e
 refine k H' a rfl rfl (λb hb=>by
  have hb:b∈[km,kr]:=hb;simp only[be,fL,fM]at hb;rcases hb with rfl|rfl
  ·exact Gr
  exact Gu) sm ⟨⟨?_,hY.mono vw,vw _ _ hw,hg,?_,⟨kvs,⟨?_,R.dat.len,λe he=>vw _ _ (R.keys e he)⟩,λx=>?_⟩⟩,⟨[],⟨?_,bL _,λe he=>by cases he⟩,by simp,λe he=>by cases he⟩,⟨[],⟨?_,bL _,λe he=>by cases he⟩,by simp,λe he=>by cases he⟩,nkk⟩
 ·exact lq np hp (aO va) (aO yC)
 ·refine StandsAt.of (lq og0 lV (e9 lV oB (by simp[*])) (e9 lV oC (by simp[*]))) ?_;exact Paired.cj jP λ_ _ q=>gc.mono (gc.mono q aJ) vw
 ·exact lq Rj R.dat.at_ Rf Rg
 ·rcases R.each x with q|⟨l,q1,q2,q3⟩
  ·exact .inl q
  exact .inr ⟨l,q1,lq q3 q2 (vh q2 oB (by simp[*])) (vh q2 oC (by simp[*]))⟩
 ·exact eE a_ Gr oB
 exact eE a_ Gu oC
open Wqatdq (fresh)
theorem Rp:∀(l:List (Spot×Spot)),(l.flatMap λj=>[j.1,j.2]).Nodup->∀j∈l,∀j'∈l,∀x y y',Yn.other j x=some y->Yn.other j' x=some y'->y=y'
 |[],_,j,hj,_,_,_,_,_,_,_=>by simp_all
 |k::l,nd,j,hj,j',pK,x,y,y',h,h'=>by
  rw[f9,oN]at nd;obtain⟨n1,n2,n3⟩:=nd;have inn:∀{j:Spot×Spot} {x y:Spot},Yn.other j x=some y->x∈[j.1,j.2]:=λ{j x y} h=>by unfold Yn.other at h;grind
  have mem:∀{j:Spot×Spot} {x:Spot},j∈l->x∈[j.1,j.2]->x∈l.flatMap λj=>[j.1,j.2]:=λhj hx=>jr.mpr ⟨_,hj,hx⟩;rcases be.mp hj with e1|q1
  ·rcases be.mp pK with e2|q2
   ·lia
   rw[e1]at h;exact absurd rfl (n3 x (inn h) x (mem q2 (inn h')))
  rcases be.mp pK with e2|q2
  ·rw[e2]at h';exact absurd rfl (n3 x (inn h') x (mem q1 (inn h)))
  exact Rp l n2 j q1 j' q2 x y y' h h'
theorem Rq(m:Str)(v:V):∀g:List (Str×V),(bV m v g).length<=g.length+1
 |[]=>aW _
 |(a,b)::r=>by
  unfold bV;split
  ·exact Nat.le_succ _
  exact Nat.succ_le_succ (Rq m v r)
def Rr(W:d9 R n):∀j∈R.joins,∀j'∈R.joins,∀x y y',Yn.other j x=some y->Yn.other j' x=some y'->y=y':=Rp R.joins W.xV
theorem Rt{R:Plan}:∀(f:Nat) (had:List Nat) (x:Spot),∀l∈R.ways f had x,l.length<=f
 |0,_,_,l,h=>by cases h
 |f+1,had,x,l,h=>by
  unfold Plan.ways at h;split at h
  ·simp_all
  obtain⟨o,_,h⟩:=jr.mp h;split at h
  ·simp_all
  split at h
  ·simp_all
  obtain⟨l',h',rfl⟩:=b_.mp h;exact Nat.succ_le_succ (Rt f _ _ l' h')
def aiO{R:Plan}:∀r∈R.routes,r.sects.length<=17:=by
 intro r hr;obtain⟨s,_,hr⟩:=jr.mp hr;unfold Plan.routesFrom at hr;split at hr
 ·cases hr
 split at hr
 ·simp_all
 obtain⟨l,hl,rfl⟩:=b_.mp hr;show(l.map _).length<=17;rw[aT];exact Rt _ _ _ l hl
def aiP(W:d9 R n):∀x y,R.form.partner x=some y->y.1<R.form.sects.length:=by intro x y h;rw[Yn.Ex R (Rr W)]at h;exact(pR.mp (Fu W h)).1
def aiQ(W:d9 R n):Yn.Good (fresh R.form)/\Yn.uL (fresh R.form).plan (fresh R.form).routes:=by
 have h1:=aiP W;have nd:R.form.signals.Nodup:=(Yn.M5 W.sy).1.nodup_iff.mpr W.sy;refine⟨⟨⟨λi=>?_,λr hr=>(Yn.Ey h1 r hr).1,λr hr=>(Yn.Ey h1 r hr).2.1⟩,⟨rfl,?_,?_⟩,rfl,?_⟩,Yn.aas nd h1⟩
 ·show 1<=(R.form.sects.map λ_=>1).getD i 1;rw[l_,cb];cases R.form.sects[i]?<;>exact aW _
 ·intro t c h h0
  exfalso;match t,h with
  |0,h=>exact h0 (bC h).symm
  |1,h=>exact h0 (bC h).symm
  |2,h=>exact h0 (bC h).symm
  |t+3,h=>cases h
 ·intro t u c d h _ h0
  exfalso;match t,h with
  |0,h=>exact h0 (bC h).symm
  |1,h=>exact h0 (bC h).symm
  |2,h=>exact h0 (bC h).symm
  |t+3,h=>cases h
 exact aT _
inductive Ru(A0:aL)(vs:List V)(H:Hp)(Q:VK):Prop
 |mk:∀(S:List Addr) (y dx:Addr) (fs:List (Str×V)) (ap:PA) (R:Plan) (n:Nat) (r:Addr) (us:List V),vs=[.ref y,.ref ap.p,.ref r]->H y=some (.ins A0.aZ dx fs)->(fs=[]\/∃a0,fs=gU a0)->cu S H->y∉S->bJ A0 (cut (y::S) H) ap R->d9 R n->cut (y::S) H r=some (.lst us)->Paired (sG A0 (cut (y::S) H)) (R.form.routes.map (pX R.form)) us->R.form.routes.length<=64->(∀H' a',a'.y=y->a'.dx=dx->(∀b∈a'.L,b=y\/H b=none)->aG [y] H H'->dk A0 (cut S H') a' (fresh R.form)->Q .aQ H')->Ru A0 vs H Q
def aiR(A0:aL):Sp:=λvs H Q _=>Ru A0 vs H Q
def Rv(T:Txt w K mg A0):cK P w K mg base A0.aZ "begin" 1 ["self","plan","routes"] (aiR A0):=by
 refine dY ["self","plan","routes","kind"] T.adJ T.di ?_;rintro nD f aU A outer s H vs Q E hr ⟨S,y,dx,fs,ap,R,n,r,us,rfl,hy,jQ,a_,yO,hP,W,kO,pr,BE,k⟩;refine⟨_,(aF (dH (pv 0) (pv 1) rfl) (aF (dH (pv 0) (pv 2) rfl) (aF (dH (pv 0) (cf (aq eF (aq eF (aq eF aC)))) rfl) (aF (dH (pv 0) (j_ (own:=[("kind",3)]) rfl nD (g9 (aV (pv 1) rfl)) (i7 (by rfl)) (λ_ _ _ _ _=>(ck 3 nD)) (λ_ _ _ _ _=>j9) (λ_ _ _ _ _=>aP)) rfl) (aH (dH (pv 0) (cf (aq aP (aq aP (aq aP aC)))) rfl)))))),?_⟩;try dsimp only[bc,Cx.bf]
 refine pM ?_;intro _ _ _ _;have dw:=hP.mono aJ;have rT:fs.length<900:=by
  rcases jQ with rfl|⟨a0,rfl⟩
  ·simp[*]
  show 5<900;decide
 have BF:∀(g:List (Str×V)) (m:Str) (v:V),(bV m v g).length<=g.length+1:=λg m v=>Rq m v g;refine⟨_,rfl,_,rfl,y,_,dx,_,rfl,hy,T.di,T.xK,by lia,?_⟩;have l1:=BF fs "plan" (.ref ap.p);refine⟨_,rfl,_,rfl,y,_,dx,_,rfl,aA,T.di,T.AS,by lia,?_⟩;rw[e8];have l2:=BF (bV "plan" (.ref ap.p) fs) "routes" (.ref r);generalize yh:bV "routes" (V.ref r) (bV "plan" (V.ref ap.p) fs)=f2 at l2⊢;have eN:aG [y] H (upd H y (.ins A0.aZ dx f2)):=aG.upd (by simp);have y1:(upd H y (.ins A0.aZ dx f2)) y=some (.ins A0.aZ dx f2):=aA;generalize upd H y (.ins A0.aZ dx f2)=H1 at eN y1⊢;refine⟨by show 3<=sizeLine;decide,λst b4=>?_⟩;refine⟨_,rfl,y,_,dx,_,rfl,ax.new b4 _ _ y1,T.di,T.xM,by lia,?_⟩;have lX:st≠y:=λz=>by simp_all
 have l3:=BF f2 "stands" (.ref st);have bF:aG [y] H (upd (upd H1 st (.lst [V.aQ,V.aQ,V.aQ])) y (.ins A0.aZ dx (bV "stands" (V.ref st) f2))):=eN.trans ((aG.new b4).trans (aG.upd (by simp)));have y2:(upd (upd H1 st (.lst [V.aQ,V.aQ,V.aQ])) y (.ins A0.aZ dx (bV "stands" (V.ref st) f2))) y=some (.ins A0.aZ dx (bV "stands" (V.ref st) f2)):=aA;have qO:(upd (upd H1 st (.lst [V.aQ,V.aQ,V.aQ])) y (.ins A0.aZ dx (bV "stands" (V.ref st) f2))) st=some (.lst [V.aQ,V.aQ,V.aQ]):=by rw[ay lX];exact aA
 have kK:H st=none:=by
  cases q:H st with
  |none=>rfl
  |some o=>rw[eN _ _ q (by simp[lX])]at b4;assumption
 generalize upd (upd H1 st (.lst [V.aQ,V.aQ,V.aQ])) y (.ins A0.aZ dx (bV "stands" (V.ref st) f2))=H2 at bF y2 qO⊢;have pk:∀{H':Hp},aG [y] H H'->bJ A0 H' ap R:=λf=>(hP.mono (λc o e=>by obtain⟨n1,e⟩:=cG e;exact f _ _ e (λz=>n1 (by simp_all))))
 have oj:=pk bF;refine⟨_,rfl,ap.p,_,_,_,_,rfl,oj.obj,T.c_,T.lN,mN ap,ap.k,rfl,⟨_,aB.of oj.kinds⟩,λtt vk=>?_⟩;have q_:=W.dO;let Z1:Nat->Hp->Prop:=λi H'=>ax H2 H'/\H' tt=some (.lst (aR ((R.sects.map λ_=>1).take i)));refine nF (K:=K) (a:=ap.k) (xs:=R.sects.map λs=>V.str (kn s.kind)) Z1 ⟨ax.new vk,aA⟩ (λi H' _ q=>aB.of (q.1 _ _ oj.kinds)) ?_ ?_
 ·rintro i v H' hv ⟨sm,hd⟩
  have hi:i<R.sects.length:=by have:=(dq.mp hv).1;simp_all
  have h1:(R.sects.map λ_=>(1:Nat))[i]?=some 1:=by rw[cb,cp hi];rfl
  refine⟨rfl,_,hd,by rw[aT,dQ,aT,bP];grind,λb o e=>?_,?_⟩
  ·rw[ay (bz e vk)];exact sm _ _ e
  rw[aA,dS h1];simp[*]
 rintro H3 ⟨s3,Rw⟩;rw[fq (by simp[*])]at Rw;refine⟨_,rfl,y,_,dx,_,rfl,s3 _ _ y2,T.di,T.uP,by lia,?_⟩;have mU:tt≠y:=λz=>by simp_all
 have BG:tt≠st:=λz=>by lia
 have l4:=BF (bV "stands" (V.ref st) f2) "section_times" (.ref tt);have tt0:H tt=none:=by
  cases q:H tt with
  |none=>rfl
  |some o=>rw[bF _ _ q (by simp[mU])]at vk;assumption
 have gk:aG [y] H (upd H3 y (.ins A0.aZ dx (bV "section_times" (V.ref tt) (bV "stands" (V.ref st) f2)))):=bF.trans ((aG.of s3).trans (aG.upd (by simp)));have y4:(upd H3 y (.ins A0.aZ dx (bV "section_times" (V.ref tt) (bV "stands" (V.ref st) f2)))) y=some (.ins A0.aZ dx (bV "section_times" (V.ref tt) (bV "stands" (V.ref st) f2))):=aA;have wz:(upd H3 y (.ins A0.aZ dx (bV "section_times" (V.ref tt) (bV "stands" (V.ref st) f2)))) st=some (.lst [V.aQ,V.aQ,V.aQ]):=by rw[ay lX];exact s3 _ _ qO
 have Rx:(upd H3 y (.ins A0.aZ dx (bV "section_times" (V.ref tt) (bV "stands" (V.ref st) f2)))) tt=some (.lst (aR (R.sects.map λ_=>1))):=by rw[ay mU];exact Rw
 generalize upd H3 y (.ins A0.aZ dx (bV "section_times" (V.ref tt) (bV "stands" (V.ref st) f2)))=H4 at gk y4 wz Rx⊢;refine⟨by show 3<=sizeLine;decide,λrt tu=>?_⟩;refine⟨_,rfl,y,_,dx,_,rfl,ax.new tu _ _ y4,T.di,T.AU,by lia,?_⟩;have oE:rt≠y:=λz=>by simp_all
 have nrs:rt≠st:=λz=>by lia
 have nrr:rt≠tt:=λz=>by lia
 have rt0:H rt=none:=by
  cases q:H rt with
  |none=>rfl
  |some o=>rw[gk _ _ q (by simp[oE])]at tu;assumption
 let a':YA:=⟨y,dx,ap,r,st,tt,rt⟩;have ef:bV "ready_times" (V.ref rt) (bV "section_times" (V.ref tt) (bV "stands" (V.ref st) f2))=gU a':=by
  rw[<-yh];rcases jQ with rfl|⟨a0,rfl⟩
  ·rfl
  rfl
 have fP:aG [y] H (upd (upd H4 rt (.lst [V.int 0,V.int 0,V.int 0])) y (.ins A0.aZ dx (bV "ready_times" (V.ref rt) (bV "section_times" (V.ref tt) (bV "stands" (V.ref st) f2))))):=gk.trans ((aG.new tu).trans (aG.upd (by simp)));refine k _ a' rfl rfl (λb hb=>by unfold YA.L at hb;grind) fP ?_
 rw[ef]at fP⊢;have y5:(upd (upd H4 rt (.lst [V.int 0,V.int 0,V.int 0])) y (.ins A0.aZ dx (gU a'))) y=some (.ins A0.aZ dx (gU a')):=aA;have nv:(upd (upd H4 rt (.lst [V.int 0,V.int 0,V.int 0])) y (.ins A0.aZ dx (gU a'))) st=some (.lst [V.aQ,V.aQ,V.aQ]):=by rw[ay lX];exact ax.new tu _ _ wz
 have Ry:(upd (upd H4 rt (.lst [V.int 0,V.int 0,V.int 0])) y (.ins A0.aZ dx (gU a'))) tt=some (.lst (aR (R.sects.map λ_=>1))):=by rw[ay mU];exact ax.new tu _ _ Rx
 have Rz:(upd (upd H4 rt (.lst [V.int 0,V.int 0,V.int 0])) y (.ins A0.aZ dx (gU a'))) rt=some (.lst [V.int 0,V.int 0,V.int 0]):=by rw[ay oE];exact aA
 generalize upd (upd H4 rt (.lst [V.int 0,V.int 0,V.int 0])) y (.ins A0.aZ dx (gU a'))=H5 at fP y5 nv Ry Rz⊢;have vw:ax (cut (y::S) H) (cut a'.L (cut S H5)):=λc o e=>by
  obtain⟨n1,e⟩:=cG e;have n2:c∉a'.L:=λz=>by unfold YA.L at z;grind
  rw[b6 n2,b6 (λz=>n1 (bU _ z))];exact fP _ _ e (λz=>n1 (by simp_all))
 obtain⟨g1,g2⟩:=aiQ W;refine⟨by rw[b6 yO];exact y5,?_,⟨R,n,hP.mono vw,W,rfl⟩,⟨us,vw _ _ kO,Paired.cj pr λ_ _ q=>q.mono vw⟩,⟨_,by rw[b6 (a_.fresh kK)];exact nv,.cons rfl (.cons rfl (.cons rfl .nil))⟩,by rw[b6 (a_.fresh tt0)];exact Ry,by rw[b6 (a_.fresh rt0)];exact Rz,g1,g2,BE,W.dO,λr hr=>aiO r hr⟩;show [y,st,tt,rt].Nodup;simp[aO lX,aO mU,aO oE,aO BG,aO nrs,aO nrr]
open Wqatdq (Ans says tells)
def tw(a:Ans):List V:=V.int a.ret::a.nums.map λ(n:Nat)=>V.int (n:Int)
def bJ.gT(h:bJ A0 H a R)(h1:∀c∈a.all,c∉S)(h2:iG S H):bJ A0 (cut S H) a R where
 obj:=by rw[b6 (h1 _ (by simp[PA.all]))];exact h.obj
 own:=by rw[b6 (h1 _ (by simp[PA.all]))];exact h.own
 nd:=h.nd
 kinds:=by rw[b6 (h1 _ (by simp[PA.all]))];exact h.kinds
 numbers:=let⟨kvs,h3,r⟩:=h.numbers;⟨kvs,by rw[b6 (h1 _ (by simp[PA.all]))];exact h3,r⟩
 joined:=let⟨kvs,h3,l,r⟩:=h.joined;⟨kvs,by rw[b6 (h1 _ (by simp[PA.all]))];exact h3,l,λx=>⟨(r x).1,λy e=>let⟨t,q1,q2⟩:=(r x).2 y e;⟨t,q1,by rw[b6 (h2.off q2)];exact q2⟩⟩⟩
 borders:=let⟨kvs,h3,r⟩:=h.borders;⟨kvs,by rw[b6 (h1 _ (by simp[PA.all]))];exact h3,r⟩
 signals:=by rw[b6 (h1 _ (by simp[PA.all]))];exact h.signals
inductive RA(A0:aL)(vs:List V)(H:Hp)(Q:VK):Prop
 |mk:∀(S:List Addr) (H0:Hp) (p dx:Addr),vs=[.ref p]->H0 p=none->H0 dx=none->dx≠p->H=upd (upd H0 dx (.own p)) p (.ins A0.aZ dx [])->iG S H0->(∀H' a',a'.y=p->(∀b∈a'.L,H0 b=none)->ax H0 H'->dk A0 (cut S H') a' Wqatdq.start->Q .aQ H')->RA A0 vs H Q
def RB(A0:aL):Sp:=λvs H Q _=>RA A0 vs H Q
def RC(T:Txt w K mg A0):mM P w K mg base "Plan" A0.plan 1 ["self"] (N7 A0):=sh (aeI T) T.ab3 T.ab4 T.ab2
def aiW(T:Txt w K mg A0):cK P w K mg base A0.aZ "__init__" 3 ["self"] (RB A0):=by
 refine dY ["self"] T.adK T.di ?_;rintro nD f aU A outer s H vs Q E hr ⟨S,H0,p,dx,rfl,np,nd,ned,rfl,dn,k⟩;refine⟨_,(aH (i3 (dg (Rv T) hr (pv 0) (aq (ED (RC T) hr) (aq (cf aC) aC))))),?_⟩;try dsimp only[bc,Cx.bf]
 have m1:ax H0 (upd (upd H0 dx (.own p)) p (.ins A0.aZ dx [])):=fI np nd;have p1:(upd (upd H0 dx (.own p)) p (.ins A0.aZ dx [])) p=some (.ins A0.aZ dx []):=aA;generalize upd (upd H0 dx (.own p)) p (.ins A0.aZ dx [])=H1 at m1 p1⊢;refine⟨_,rfl,p,_,_,rfl,p1,rfl,?_⟩;intro x Gx nx da lP;refine⟨x,Gx,rfl,aA,by rw[ay lP];exact aA,λH2 ap e1 e2 hP ly fr=>⟨rfl,?_⟩⟩;have s2:ax H1 H2:=λc o e=>fr _ _ (fI nx da _ _ e) (by simp only[dA];exact bz e nx);refine⟨by simp[*],λl hl=>?_⟩;have s3:=s2.trans (ax.new (o:=.lst []) hl);have m3:=m1.trans s3;have vm:=dn.same m3;have yO:p∉S:=dn.a_.fresh np;have dn4:iG (p::S) (upd H2 l (.lst [])):=λb hb=>by
  rcases be.mp hb with rfl|hb
  ·exact⟨_,s3 _ _ p1,by lia⟩
  exact vm b hb
 have cx:∀c∈ap.all,c∉p::S:=λc hc z=>by
  have hn:H1 c=none:=by
   unfold PA.all at hc;rw[e1,e2]at hc;rcases be.mp hc with rfl|hc
   ·exact nx
   rcases be.mp hc with rfl|hc
   ·exact da
   exact(fI nx da).free (ly c hc)
  rcases be.mp z with z|z
  ·simp_all
  exact dn.a_ c z (m1.free hn)
 have OC:l∉p::S:=λz=>by
  rcases be.mp z with z|z
  ·rw[z,s2 _ _ p1]at hl;cases hl
  exact dn.a_ l z (m1.free (s2.free hl))
 refine⟨S,p,dx,[],ap,nZ,0,l,[],by rw[e1];rfl,s3 _ _ p1,.inl rfl,vm.a_,yO,(hP.mono (ax.new hl)).gT cx dn4,N5,by rw[b6 OC];exact aA,.nil,bL _,λH5 a' f1 f2 fn fP hY=>?_⟩;refine k H5 a' f1 (λb hb=>by
  rcases fn b hb with rfl|z
  ·exact np
  exact m3.free z) (λc o e=>fP _ _ (m3 _ _ e) (by simp only[dA];exact bz e np)) ?_
 exact hY
def gX(A0:aL)(S:List Addr)(H:Hp)(a:YA)(x:State×Ans)(Q:VK):Prop:=∀H' a' p,a'.y=a.y->(∀b∈a'.L,b∈a.L\/H b=none)->aG a.L H H'->dk A0 (cut S H') a' x.1->H p=none->H' p=some (.lst (tw x.2))->Q (.ref p) H'
def gX.same(k:gX A0 S H a (s,r) Q)(hY:dk A0 (cut S H) a s)(sm:ax H H')(hp:H p=none)(h:H' p=some (.lst (tw r))):Q (.ref p) H':=k H' a p rfl (λb hb=>.inl hb) (aG.of sm) (hY.mono (bN sm)) hp h
def gX.laid(k:gX A0 S H a (s,r) Q)(hY:dk A0 (cut S H) a s)(sm:ax H H')(hp:H' p=none):Q (.ref p) (upd H' p (.lst (tw r))):=k.same hY (sm.trans (ax.new hp)) (sm.free hp) aA
def RD(ns:List Int):WqatdqNeutral.bytes ns=ns.map gL:=rfl
inductive RE(A0:aL)(vs:List V)(H:Hp)(Q:VK):Prop
 |mk:∀(S:List Addr) (a:YA) (s:State) (tl:Addr) (ns:List Int),vs=[.ref a.y,.ref tl]->iG S H->dk A0 (cut S H) a s->H tl=some (.lst (ns.map V.int))->(∀z∈ns,0<=z/\z<=255)->gX A0 S H a (Wqatdq.step s (.read (WqatdqNeutral.bytes ns))) Q->RE A0 vs H Q
def aiY(K:aa)(A0:aL):Sp:=λvs H Q _=>RE A0 vs H Q
def aiZ(T:Txt w K mg A0):
  cK P w K mg base A0.aZ "read" 7 ["self","text"] (aiY K A0):=by
 refine dY ["self","text","plan","fault","routes"] T.adL T.di ?_;rintro nD f aU A outer s H vs Q E hr ⟨S,a,s,tl,ns,rfl,dn,hY,dE,hb,k⟩;refine⟨_,(aF (bD (bT jv (cR eU rfl T.eJ eI (aq (pv 1) aC)) (cM T.acx rfl)) (aH (aS (cf (aq (eh eA aP) aC)))) bH) (aF (bw 2 nD (ED (RC T) hr)) (aF (bw 3 nD (bB (afx T) hr (aq (pv 2) (aq (pv 1) aC)))) (aF (bD (bT oX (pv 3) eF) (aH (aS (cf (aq (eh eA aP) (aq (bj eQ (pv 3) aP) (aq (bj eQ (pv 3) aP) aC)))))) bH) (aF (bw 4 nD (bB (ahb T) hr (aq (pv 2) aC))) (aF (bD (bT jv (cR eU rfl T.eJ eI (aq (pv 4) aC)) (cM T.acy rfl)) (aH (aS (cf (aq (eh eA aP) aC)))) bH) (aF (i3 (dg (Rv T) hr (pv 0) (aq (pv 2) (aq (pv 4) aC)))) (aH (aS (cf (aq (cR eU rfl T.eJ eI (aq (aV (pv 2) rfl) aC)) aC))))))))))),?_⟩;try dsimp only[bc,Cx.bf]
 refine EA ?_;intro _ _ _ _ _ _ _;have eZ:=cG hY.obj;refine⟨_,rfl,_,_,rfl,.inl (aB.of dE),_,_,rfl,rfl,_,rfl,?_⟩;show if decide ((1024:Int)<(((ns.map V.int).length:Nat):Int))=true then _ else _;rw[aT];have lb:(WqatdqNeutral.bytes ns).length=ns.length:=aT _;by_cases zP:1024<ns.length
 ·rw[cq (by exact iX.2 ‹_›)]
  have ek:Wqatdq.step s (.read (WqatdqNeutral.bytes ns))=(s,says (-2)):=by show(if Yh.TEXT<_ then _ else _)=_;rw[aD (by rw[lb];exact zP)]
  rw[ek]at k;exact bA ⟨_,rfl,dM,λp hp=>k.laid hY (ax.refl _) hp⟩
 rw[b7 (by exact mt iX.1 ‹_›)];refine bg ?_;have ek:Wqatdq.step s (.read (WqatdqNeutral.bytes ns))=(match Yh.readPlan (WqatdqNeutral.bytes ns)with
   | .error e=>(s,tells (-6) [e.1,e.2])
   | .ok P=>if Yh.ROUTES<P.routes.length then(s,says (-9))else(fresh P,says (P.sects.length:Nat))):=by
  show(if Yh.TEXT<_ then _ else _)=_;rw[az (by rw[lb];exact zP)];cases Yh.readPlan (WqatdqNeutral.bytes ns)<;>rfl
 rw[ek]at k;intro x Gx nx da lP;refine⟨x,Gx,rfl,aA,by rw[ay lP];exact aA,λH2 ap e1 e2 hP ly fr=>⟨rfl,?_⟩⟩;have s2:ax H H2:=λc o e=>fr _ _ (fI nx da _ _ e) (by simp only[dA];exact bz e nx);have lH:∀c∈ap.all,H c=none:=λc hc=>by
  unfold PA.all at hc;rw[e1,e2]at hc;rcases be.mp hc with rfl|hc
  ·exact nx
  rcases be.mp hc with rfl|hc
  ·exact da
  exact(fI nx da).free (ly c hc)
 have hPS:∀c∈jh ap,H c=none:=λc hc=>lH c (by
  unfold PA.all;grind)
 have RF:∀{H':Hp},aG (jh ap) H2 H'->ax H H':=λf c o e=>f _ _ (s2 _ _ e) λz=>by rw[hPS c z]at e;cases e
 refine⟨_,rfl,_,rfl,ap,tl,ns,by rw[e1];rfl,hP,aB.of (s2 _ _ dE),by simp_all,hb,(λz=>by simp_all),?_,?_⟩
 ·intro e he H3 pt RG b8
  have s3:=RF b8;have er:Yh.readPlan (WqatdqNeutral.bytes ns)= .error e:=by unfold Yh.readPlan;rw[RD,he]
  rw[er]at k;refine⟨_,rfl,rfl,_,rfl,bA ?_⟩;exact⟨_,rfl,_,rfl,_,_,_,_,rfl,rfl,aX.of RG,bE (j:=0) rfl,_,rfl,_,_,_,_,rfl,rfl,aX.of RG,bE (j:=1) rfl,by show 3<=sizeLine;decide,λp hp=>k.laid hY s3 hp⟩
 intro R hR H3 n sE W3 hn b8;have s3:=RF b8;have er:Yh.readPlan (WqatdqNeutral.bytes ns)= .ok R.form:=by unfold Yh.readPlan;rw[RD,hR]
 rw[er]at k;simp only at k;refine⟨_,rfl,rfl,_,rfl,bg ?_⟩;have vm:iG (a.y::S) H3:=λb hb=>by
  rcases be.mp hb with rfl|hb
  ·exact⟨_,s3 _ _ eZ.2,by lia⟩
  exact dn.same s3 b hb
 refine⟨_,rfl,a.y::S,ap,R,n,by rw[e1];rfl,sE,W3,vm,λH4 rl us s4 ai1 u_ pr hlen=>?_⟩;have jl:=s3.trans s4;have era:=Yn.aaq (P:=R) (Rr W3);have lr:=bZ pr;rw[<-era,aT]at lr;refine⟨_,rfl,_,_,rfl,.inl (aB.of u_),_,_,rfl,rfl,_,rfl,?_⟩;show if decide ((64:Int)<((us.length:Nat):Int))=true then _ else _;by_cases BE:64<R.form.routes.length
 ·rw[cq (by lia)];rw[aD (show Yh.ROUTES<R.form.routes.length from BE)]at k;exact bA ⟨_,rfl,dM,λp hp=>k.laid hY jl hp⟩
 rw[b7 (by lia)];rw[az (show¬Yh.ROUTES<R.form.routes.length from BE)]at k;refine bg ?_;have RH:=jl _ _ eZ.2;have ai2:∀c∈ap.all,c∉a.y::S:=λc hc z=>by
  rcases be.mp z with z|z
  ·rw[<-z,lH c hc]at eZ;cases eZ.2
  exact dn.a_ c z (lH c hc)
 have Gy:=sE.mono s4;have prc:Paired (sG A0 (cut (a.y::S) H4)) (R.form.routes.map (pX R.form)) us:=by have e:R.form.routes.map (pX R.form)=Yn.xq R:=era;rw[e];exact Paired.cj pr λ_ _ q=>q.cut
 have ai4:rl∉a.y::S:=λz=>by have:=vm.a_ rl z;exact this ai1
 refine⟨_,rfl,a.y,_,_,rfl,RH,mR a (by decide +kernel),_,rfl,_,rfl,S,a.y,a.dx,gU a,ap,R,n,rl,us,by rw[e1];rfl,RH,.inr ⟨a,rfl⟩,(dn.same jl).a_,eZ.1,Gy.gT ai2 (vm.same s4),W3,by rw[b6 ai4];exact u_,prc,by simp_all,λH5 a' f1 f2 fn fP RI=>?_⟩;have hk5:H5 ap.p=some (.ins A0.plan ap.dx (nY ap)):=fP _ _ Gy.obj (by grind);have ai6:H5 ap.k=some (.lst (R.sects.map λs=>V.str (kn s.kind))):=fP _ _ Gy.kinds (by grind);refine⟨_,rfl,ap.p,_,_,_,_,?_,hk5,T.c_,T.lN,mN ap,_,_,rfl,.inl (aB.of ai6),dM,λp hp=>?_⟩
 ·rw[e1]
 rw[aT];have ai7:aG a.L H H5:=(aG.of jl).trans (fP.sub λc hc=>by rw[dA.mp hc];simp[YA.L]);have hpH:H p=none:=by
  cases q:H p with
  |none=>rfl
  |some o=>
   by_cases z:p=a.y
   ·rw[z]at hp;have:=aJ _ _ RI.obj;lia
   rw[fP _ _ (jl _ _ q) (by simp[z])]at hp;assumption
 exact k _ a' p f1 (λb hb=>by
  rcases fn b hb with rfl|z
  ·exact .inl (by simp[YA.L])
  exact .inr (jl.free z)) (ai7.trans (aG.new hp)) (RI.mono (bN (ax.new hp))) hpH aA
def RJ(h:s.at_[j]?=some c)(h1:j≠t)(h2:c≠0)(h3:(Yh.spotOf c).1=i):Wqatdq.other s t i=true:=by unfold Wqatdq.other Yh.inIt;rw[B_];refine⟨c,d_ (i:=j) (by rw[jS (aO h1)];exact h),?_⟩;simp[h2,h3]
theorem ai9(h:∀j c,s.at_[j]?=some c->j≠t->c≠0->(Yh.spotOf c).1≠i):Wqatdq.other s t i=false:=by
 unfold Wqatdq.other Yh.inIt;rw[BR];intro c hc;obtain⟨j,hj⟩:=List.getElem?_of_mem hc;by_cases e:j=t
 ·subst e;have hl:=(dq.mp hj).1;simp_all
 rw[jS (aO e)]at hj;grind
def dk.view(h:dk A0 H a s)(e:cut a.L H'=cut a.L H)(h1:H' a.y=H a.y)(h2:H' a.st=some (.lst us))(h3:Paired (jO (cut a.L H)) s'.at_ us)(h4:H' a.tt=some (.lst (aR s'.takes)))(h5:H' a.rt=some (.lst (aR s'.ready)))(g:Yn.Good s')(e1:s'.plan=s.plan)(e2:s'.routes=s.routes):dk A0 H' a s' where
 obj:=by rw[h1];exact h.obj
 nd:=h.nd
 plan:=by rw[e,e1];exact h.plan
 routes:=by rw[e,e1,e2];exact h.routes
 stands:=⟨us,h2,by rw[e];exact h3⟩
 times:=h4
 ready:=h5
 good:=g
 sig:=by rw[e1,e2];exact h.sig
 dO:=by rw[e2];exact h.dO
 sQ:=by rw[e1];exact h.sQ
 short:=by rw[e2];exact h.short
def dk.apart(h:dk A0 H a s):a.y≠a.st/\a.y≠a.tt/\a.y≠a.rt/\a.st≠a.tt/\a.st≠a.rt/\a.tt≠a.rt:=by have:=h.nd;unfold YA.L at this;simp_all
inductive RK(A0:aL)(vs:List V)(H:Hp)(Q:VK):Prop
 |mk:∀(a:YA) (s:State) (i t:Nat),vs=[.ref a.y,.int i,.int t]->dk A0 H a s->(∀H',ax H H'->Q (.bl (Wqatdq.other s t i)) H')->RK A0 vs H Q
def ai_(A0:aL):Sp:=λvs H Q _=>RK A0 vs H Q
def aja(T:Txt w K mg A0):cK P w K mg base A0.aZ "holds_another" 1 ["self","section","train"] (ai_ A0):=by
 refine dY ["self","section","train","other","stand"] T.adM T.di ?_;rintro nD f aU A outer s H vs Q E hr ⟨a,s,i,t,rfl,hY,k⟩;refine⟨_,(aF (fX fW rfl (Dm rfl T.AM (aq (aV (pv 0) rfl) aC)) (nr rfl (gw (ck 3 nD) (gw (ck 4 nD) mm))) (aH (bD (PW.pt (pw_and (bT zy (pv 3) (pv 2)) (pw_and (bT oX (pv 4) eF) (pw_and1 (bT e_ (bj eQ (pv 4) aP) (pv 1)))))) (aH (aS oS)) bH))) (aH (aS oS))),?_⟩;try dsimp only[bc,Cx.bf]
 refine pL ?_;intro _;obtain⟨us,dU,jP⟩:=hY.stands;have lu:=bZ jP;refine⟨_,rfl,a.y,_,_,_,_,rfl,hY.obj,T.di,T.xM,Bf a,a.st,us,rfl,aB.of dU,?_⟩;let Z1:Nat->L2.St->Hp->Prop:=λj σ H'=>dB λv3 v4=>fN (σ=[some (.ref a.y),some (.int (i:Int)),some (.int (t:Int)),v3,v4]) (ax H H') (∀j' c,j'<j->s.at_[j']?=some c->j'≠t->c≠0->(Yh.spotOf c).1≠i);refine pU (n:=us.length) Z1 ⟨none,none,rfl,ax.refl _,λj' c h=>absurd h (Nat.not_lt_zero _)⟩ ?_ ?_ ?_ ?_
 ·rintro j σ H' hj ⟨v3,v4,rfl,sm,_⟩;exact⟨us,us[j],aB.of (sm _ _ dU),cp hj⟩
 ·rintro σ H' ⟨v3,v4,rfl,sm,_⟩;exact⟨us,aB.of (sm _ _ dU),aW _⟩
 ·rintro j σ H' x H2 hj ⟨v3,v4,rfl,sm,j0⟩ ⟨Tt,v,rfl,hT,rfl,hv⟩
  have hv:=hv us (aB.of (sm _ _ dU));obtain⟨c,hc,rc⟩:=Paired.get' jP hv;have s2:=sm.trans (ax.new (o:=.tup [V.int (j:Int),v]) hT);refine⟨_,_,rfl,aX.of aA,rfl,_,_,rfl,_,_,rfl,rfl,?_⟩;have next:(j≠t->c≠0->(Yh.spotOf c).1≠i)->∀j' c',j'<j+1->s.at_[j']?=some c'->j'≠t->c'≠0->(Yh.spotOf c').1≠i:=λhh j' c' h1 h2 h3 h4=>by
   rcases Nat.lt_or_ge j' j with z|z
   ·exact j0 j' c' z h2 h3 h4
   have e:j'=j:=by lia
   subst e;rw[hc]at h2;obtain rfl:=bC h2;exact hh h3 h4
  refine⟨_,rfl,_,rfl,rfl,_,rfl,?_⟩;by_cases Gz:j=t
  ·rw[cq (by rw[Gz])];refine bg (bg ⟨_,_,rfl,s2,next λz=>absurd Gz z⟩)
  rw[b7 (by intro z;injection z with z;lia)];refine bA ⟨_,rfl,rfl,_,rfl,?_⟩;rw[yn rc];by_cases fQ:c=0
  ·rw[cq fQ];refine bg (bg ⟨_,_,rfl,s2,next λ_ z=>absurd fQ z⟩)
  rw[b7 fQ];obtain⟨b,rfl,hb⟩:=sP rc fQ;refine bA ⟨_,rfl,_,_,_,_,rfl,rfl,aX.of (s2 _ _ (aJ _ _ hb)),bE (j:=0) rfl,_,rfl,rfl,_,rfl,?_⟩;by_cases hi:(Yh.spotOf c).1=i
  ·rw[cq (by rw[hi])];rw[RJ hc Gz fQ hi]at k;exact bA (k _ s2)
  rw[b7 (by intro z;injection z with z;lia)];exact bg ⟨_,_,rfl,s2,next λ_ _=>hi⟩
 rintro σ H' ⟨v3,v4,rfl,sm,j0⟩;rw[ai9 λj c h1=>j0 j c (by have:=(dq.mp h1).1;simp_all) h1]at k;exact k H' sm
inductive RL(A0:aL)(vs:List V)(H:Hp)(Q:VK):Prop
 |mk:∀(S:List Addr) (a:YA) (s:State) (t i e:Nat),vs=[.ref a.y,.int t,.int i,.int e]->cu S H->dk A0 (cut S H) a s->gX A0 S H a (Wqatdq.step s (.place t i e)) Q->RL A0 vs H Q
def ajb(A0:aL):Sp:=λvs H Q _=>RL A0 vs H Q
def ajc(T:Txt w K mg A0):
  cK P w K mg base A0.aZ "place" 2 ["self","train","section","end"] (ajb A0):=by
 refine dY ["self","train","section","end"] T.adN T.di ?_;rintro nD f aU A outer s H vs Q E hr ⟨S,a,s,t,i,e,rfl,a_,hY,k⟩;refine⟨_,(aF (bD (bT jv (pv 1) (cM T.Nl rfl)) (aH (aS (cf (aq (eh eA aP) aC)))) bH) (aF (bD (PW.pt (pw_or (ni (gv (dg (N1 T) hr (aV (pv 0) rfl) (aq (pv 2) (aq (pv 3) aC))))) (pw_or1 (ni (gv (dg (A2 T) hr (aV (pv 0) rfl) (aq (pv 2) aC))))))) (aH (aS (cf (aq (eh eA aP) aC)))) bH) (aF (bD (gv (dg (aja T) hr (pv 0) (aq (pv 2) (aq (pv 1) aC)))) (aH (aS (cf (aq (eh eA aP) aC)))) bH) (aF (zq (jZ (aq (pv 2) (aq (pv 3) aC))) (zo (aV (pv 0) rfl) (pv 1) set_list (λ_=>rfl))) (aH (aS (cf (aq aP aC)))))))),?_⟩;try dsimp only[bc,Cx.bf]
 refine pM ?_;intro _ _ _ _;obtain⟨R,n,hP,W,eP⟩:=hY.plan;have dw:=hP.mono (aJ.trans aJ);have eZ:=aJ _ _ hY.obj;have e1:s.plan.isEnd (i,e)=R.isEnd (i,e):=by rw[eP];rfl
 have e2:s.plan.isPlain i=R.isPlain i:=by rw[eP];rfl
 have ek:Wqatdq.step s (.place t i e)=if 3<=t then(s,says (-1))else if R.isEnd (i,e)=false\/R.isPlain i=false then(s,says (-4))else if Wqatdq.other s t i=true then(s,says (-5))else({s with at_:=s.at_.set t (Yh.codeOf (i,e))},says 0):=by rw[<-e1,<-e2];rfl
 rw[ek]at k;refine⟨_,rfl,_,_,rfl,rfl,_,rfl,?_⟩;show if decide ((2:Int)<(t:Int))=true then _ else _;by_cases ht:3<=t
 ·rw[cq (by exact iX.2 ‹_›)];rw[aD ht]at k;exact bA ⟨_,rfl,dM,λp hp=>k.laid hY (ax.refl _) hp⟩
 rw[b7 (by exact mt iX.1 ‹_›)];rw[az ht]at k;refine bg ?_;refine⟨_,rfl,a.y,_,_,_,_,rfl,eZ,T.di,T.xK,Be a,a.p.p,_,_,rfl,dw.obj,pQ a.p (by decide +kernel),_,rfl,_,rfl,a.p,R,n,i,e,rfl,dw,W,_,rfl,?_⟩;cases hE:R.isEnd (i,e)with
 |false=>rw[aD (.inl hE)]at k;exact bA (bA ⟨_,rfl,dM,λp hp=>k.laid hY (ax.refl _) hp⟩)
 |true=>
  obtain⟨hi,hd⟩:=pR.mp hE;refine bg ⟨_,rfl,a.y,_,_,_,_,rfl,eZ,T.di,T.xK,Be a,a.p.p,_,_,rfl,dw.obj,pQ a.p (by decide +kernel),_,rfl,a.p,R,n,i,rfl,dw,W,hi,_,rfl,?_⟩;cases RM:R.isPlain i with
  |false=>rw[aD (.inr RM)]at k;exact bA ⟨_,rfl,dM,λp hp=>k.laid hY (ax.refl _) hp⟩
  |true=>
   rw[az (by simp[*])]at k;refine bg ⟨_,rfl,a.y,_,_,rfl,eZ,mR a (by decide +kernel),_,rfl,_,rfl,a,s,i,t,rfl,hY.mono aJ,λH2 s2=>⟨_,rfl,?_⟩⟩;cases hO:Wqatdq.other s t i with
   |true=>rw[aD hO]at k;exact bA ⟨_,rfl,dM,λp hp=>k.laid hY s2 hp⟩
   |false=>
    rw[az (by simp[*])]at k;refine bg ?_;have nL:e<2:=by
     have hk:R.kindAt i=0:=by unfold Plan.isPlain at RM;simp_all
     have hd:e<Yh.endsOf (R.kindAt i):=hd;rw[hk]at hd;exact hd
    obtain⟨us,dU,jP⟩:=hY.stands;have lu:=bZ jP;have l3:=hY.good.at_.len;have dE:t<us.length:=by simp_all
    obtain⟨lX,ajd⟩:=cG dU;have yO:=(cG hY.obj).1;refine⟨_,rfl,_,rfl,iq,λp1 eV=>?_⟩;have s3:=s2.trans (ax.new (o:=.tup (cV (i,e))) eV);refine⟨_,rfl,a.y,_,_,_,_,rfl,s3 _ _ eZ,T.di,T.xM,Bf a,_,rfl,a.st,us,_,t,rfl,rfl,s3 _ _ ajd,Bh dE,?_⟩;have GA:H p1=none:=s2.free eV;have tz:=hY.mono (bN (S:=S) s3);obtain⟨a1,a2,a3,a4,a5,a6⟩:=hY.apart;have RN:(upd H2 p1 (.tup (cV (i,e)))) p1=some (.tup (cV (i,e))):=aA;have nps:p1≠a.st:=λz=>by simp_all
    generalize upd H2 p1 (.tup (cV (i,e)))=H3 at s3 tz RN⊢;refine⟨dM,λp hp=>?_⟩;have ajf:a.y≠a.st:=a1;have ec:cut a.L (cut S (upd H3 a.st (.lst (us.set t (V.ref p1)))))=cut a.L (cut S H3):=by rw[ic lX];exact mS (by simp[YA.L])
    have ajg:p1∉a.L:=λz=>by
     unfold YA.L at z;simp only[be,fL,fM]at z;rcases z with z|z|z|z
     ·simp_all
     ·exact nps z
     ·rw[z,aJ _ _ hY.times]at GA;simp_all
     rw[z,aJ _ _ hY.ready]at GA;simp_all
    have g2:Yn.Good {s with at_:=s.at_.set t (Yh.codeOf (i,e))}:=⟨hY.good.land,hY.good.at_.set t _ (λ_=>by rw[Yn.rP nL,eP];exact hi) (λ_ u d hu hd h0=>by rw[Yn.rP nL];intro z;have:=RJ hd hu h0 z;simp_all),hY.good.mI,hY.good.pG⟩
    have ajh:Paired (jO (cut a.L (cut S H3))) (s.at_.set t (Yh.codeOf (i,e))) (us.set t (V.ref p1)):=by refine Paired.set ?_ (Paired.cj jP λ_ _ q=>gc.mono q (bN (bN s3)));refine FA (x:=(i,e)) nL ?_;rw[b6 ajg];exact eE a_ GA RN
    have yP:dk A0 (cut S (upd H3 a.st (.lst (us.set t (V.ref p1))))) a {s with at_:=s.at_.set t (Yh.codeOf (i,e))}:=tz.view (us:=us.set t (V.ref p1)) ec (by rw[ic lX,ay ajf]) (by rw[ic lX];exact aA) ajh (by rw[ic lX,ay (aO a4)];exact tz.times) (by rw[ic lX,ay (aO a5)];exact tz.ready) g2 rfl rfl;have yQ:H3 p=none:=by
     by_cases z:p=a.st
     ·rw[z,aA]at hp;cases hp
     rw[ay z]at hp;exact hp
    exact k _ a p rfl (λb hb=>.inl hb) ((aG.of s3).trans ((aG.upd (by simp[YA.L])).trans (aG.new hp))) (yP.mono (bN (ax.new hp))) (s3.free yQ) aA
inductive RO(A0:aL)(vs:List V)(H:Hp)(Q:VK):Prop
 |mk:∀(S:List Addr) (a:YA) (s:State) (i n:Nat),vs=[.ref a.y,.int i,.int n]->cu S H->dk A0 (cut S H) a s->gX A0 S H a (Wqatdq.step s (.takes i n)) Q->RO A0 vs H Q
def aji(A0:aL):Sp:=λvs H Q _=>RO A0 vs H Q
def ajj(T:Txt w K mg A0):cK P w K mg base A0.aZ "takes" 1 ["self","section","time"] (aji A0):=by
 refine dY ["self","section","time"] T.adO T.di ?_;rintro nD f aU A outer s H vs Q E hr ⟨S,a,s,i,n,rfl,a_,hY,k⟩;refine⟨_,(aF (bD (ni (IB zB zB aP (pv 2) (cM T.acz rfl))) (aH (aS (cf (aq (eh eA aP) aC)))) bH) (aF (bD (bT zC (pv 1) (cR eU rfl T.eJ eI (aq (aV (pv 0) rfl) aC))) (aH (aS (cf (aq (eh eA aP) aC)))) bH) (aF (zq (pv 2) (zo (aV (pv 0) rfl) (pv 1) set_list (λ_=>rfl))) (aH (aS (cf (aq aP aC))))))),?_⟩;try dsimp only[bc,Cx.bf]
 refine jL ?_;intro _ _ _;have eZ:=aJ _ _ hY.obj;have ek:Wqatdq.step s (.takes i n)=if n=0\/1000<n then(s,says (-1))else if s.plan.sects.length<=i then(s,says (-4))else({s with takes:=s.takes.set i n},says 0):=rfl;rw[ek]at k;have bad:(n=0\/1000<n)->gX A0 S H a (s,says (-1)) Q:=λh=>by simp_all
 refine⟨_,rfl,_,_,rfl,rfl,_,rfl,?_⟩;show if decide ((1:Int)<=(n:Int))=true then _ else _;by_cases h1:n=0
 ·rw[b7 (by simp[*])];refine bg ⟨_,rfl,bA ?_⟩;exact⟨_,rfl,dM,λp hp=>(bad (.inl h1)).laid hY (ax.refl _) hp⟩
 rw[cq (by lia)];refine bA ⟨_,_,rfl,rfl,_,rfl,?_⟩;show if(!decide ((n:Int)<=1000))=true then _ else _;by_cases h2:1000<n
 ·rw[b7 (by lia)];exact bA ⟨_,rfl,dM,λp hp=>(bad (.inr h2)).laid hY (ax.refl _) hp⟩
 rw[cq (by lia)];rw[az (by simp[*])]at k;refine bg ?_;obtain⟨mU,vk⟩:=cG hY.times;refine⟨_,rfl,_,rfl,a.y,_,_,_,_,rfl,eZ,T.di,T.uP,yo a,_,_,rfl,.inl (aB.of vk),_,_,rfl,rfl,_,rfl,?_⟩;show if decide ((((aR s.takes).length:Nat):Int)<=(i:Int))=true then _ else _;rw[aT,hY.good.pG];by_cases h3:s.plan.sects.length<=i
 ·rw[cq (by simp[*])];rw[aD h3]at k;exact bA ⟨_,rfl,dM,λp hp=>k.laid hY (ax.refl _) hp⟩
 rw[b7 (by simp[*])];rw[az h3]at k;refine bg ?_;have gf:i<s.takes.length:=by rw[hY.good.pG];simp_all
 refine⟨_,rfl,_,rfl,a.y,_,_,_,_,rfl,eZ,T.di,T.uP,yo a,_,rfl,a.tt,_,_,i,rfl,rfl,vk,Bh (by simp[*]),?_⟩;rw[ints_set];refine⟨dM,λp hp=>?_⟩;obtain⟨a1,a2,a3,a4,a5,a6⟩:=hY.apart;obtain⟨us,dU,jP⟩:=hY.stands;have ec:cut a.L (cut S (upd H a.tt (.lst (aR (s.takes.set i n)))))=cut a.L (cut S H):=by rw[ic mU];exact mS (by simp[YA.L])
 have g2:Yn.Good {s with takes:=s.takes.set i n}:=⟨⟨λj=>?_,hY.good.land.sects,hY.good.land.rest⟩,hY.good.at_,hY.good.mI,by show(s.takes.set i n).length=_;rw[tK];exact hY.good.pG⟩;have yP:dk A0 (cut S (upd H a.tt (.lst (aR (s.takes.set i n))))) a {s with takes:=s.takes.set i n}:=hY.view (us:=us) ec (by rw[ic mU,ay a2]) (by rw[ic mU,ay a4];exact dU) jP (by rw[ic mU];exact aA) (by rw[ic mU,ay (aO a6)];exact hY.ready) g2 rfl rfl
 ·have yQ:H p=none:=by
   by_cases z:p=a.tt
   ·rw[z,aA]at hp;cases hp
   rw[ay z]at hp;exact hp
  exact k _ a p rfl (λb hb=>.inl hb) ((aG.upd (by simp[YA.L])).trans (aG.new hp)) (yP.mono (bN (ax.new hp))) yQ aA
 show 1<=(s.takes.set i n).getD j 1;have:=hY.good.land.takes j;unfold Yh.Takes.of at this;rw[l_,List.getElem?_set];rw[l_]at this;split
 ·rename_i z;show 1<=n;lia
 exact this
inductive RP(A0:aL)(vs:List V)(H:Hp)(Q:VK):Prop
 |mk:∀(S:List Addr) (a:YA) (s:State) (t n:Nat),vs=[.ref a.y,.int t,.int n]->cu S H->dk A0 (cut S H) a s->gX A0 S H a (Wqatdq.step s (.ready t n)) Q->RP A0 vs H Q
def ajk(A0:aL):Sp:=λvs H Q _=>RP A0 vs H Q
def ajl(T:Txt w K mg A0):cK P w K mg base A0.aZ "ready" 1 ["self","train","time"] (ajk A0):=by
 refine dY ["self","train","time"] T.adP T.di ?_;rintro nD f aU A outer s H vs Q E hr ⟨S,a,s,t,n,rfl,a_,hY,k⟩;refine⟨_,(aF (bD (PW.pt (pw_or (bT jv (pv 1) (cM T.Nl rfl)) (pw_or1 (bT jv (pv 2) (cM T.acA rfl))))) (aH (aS (cf (aq (eh eA aP) aC)))) bH) (aF (zq (pv 2) (zo (aV (pv 0) rfl) (pv 1) set_list (λ_=>rfl))) (aH (aS (cf (aq aP aC)))))),?_⟩;try dsimp only[bc,Cx.bf]
 refine iS ?_;intro _ _;have eZ:=aJ _ _ hY.obj;have ek:Wqatdq.step s (.ready t n)=if 3<=t\/1000000<n then(s,says (-1))else({s with ready:=s.ready.set t n},says 0):=rfl;rw[ek]at k;refine⟨_,rfl,_,_,rfl,rfl,_,rfl,?_⟩;show if decide ((2:Int)<(t:Int))=true then _ else _;by_cases h1:3<=t
 ·rw[cq (by exact iX.2 ‹_›)];rw[aD (.inl h1)]at k;exact bA (bA ⟨_,rfl,dM,λp hp=>k.laid hY (ax.refl _) hp⟩)
 rw[b7 (by exact mt iX.1 ‹_›)];refine bg ⟨_,rfl,_,_,rfl,rfl,_,rfl,?_⟩;show if decide ((1000000:Int)<(n:Int))=true then _ else _;by_cases h2:1000000<n
 ·rw[cq (by exact iX.2 ‹_›)];rw[aD (.inr h2)]at k;exact bA ⟨_,rfl,dM,λp hp=>k.laid hY (ax.refl _) hp⟩
 rw[b7 (by exact mt iX.1 ‹_›)];rw[az (by simp[*])]at k;refine bg ?_;obtain⟨oE,tu⟩:=cG hY.ready;have dE:t<s.ready.length:=by rw[hY.good.mI];simp_all
 refine⟨_,rfl,_,rfl,a.y,_,_,_,_,rfl,eZ,T.di,T.AU,FE a,_,rfl,a.rt,_,_,t,rfl,rfl,tu,Bh (by simp[*]),?_⟩;rw[ints_set];refine⟨dM,λp hp=>?_⟩;obtain⟨a1,a2,a3,a4,a5,a6⟩:=hY.apart;obtain⟨us,dU,jP⟩:=hY.stands;have ec:cut a.L (cut S (upd H a.rt (.lst (aR (s.ready.set t n)))))=cut a.L (cut S H):=by rw[ic oE];exact mS (by simp[YA.L])
 have g2:Yn.Good {s with ready:=s.ready.set t n}:=⟨hY.good.land,hY.good.at_,by show(s.ready.set t n).length=_;rw[tK];exact hY.good.mI,hY.good.pG⟩;have yP:dk A0 (cut S (upd H a.rt (.lst (aR (s.ready.set t n))))) a {s with ready:=s.ready.set t n}:=hY.view (us:=us) ec (by rw[ic oE,ay a3]) (by rw[ic oE,ay a5];exact dU) jP (by rw[ic oE,ay a6];exact hY.times) (by rw[ic oE];exact aA) g2 rfl rfl;have yQ:H p=none:=by
  by_cases z:p=a.rt
  ·rw[z,aA]at hp;cases hp
  rw[ay z]at hp;exact hp
 exact k _ a p rfl (λb hb=>.inl hb) ((aG.upd (by simp[YA.L])).trans (aG.new hp)) (yP.mono (bN (ax.new hp))) yQ aA
def qh(n m:Nat):Option Ans:=if n % 2≠0\/128<n then some (says (-1))else if 2*m<n then some (tells (-3) [m])else none
inductive RQ(A0:aL)(vs:List V)(H:Hp)(Q:VK):Prop
 |mk:∀(r:V) (x:aN) (tl:Addr) (us:List V),vs=[r,.ref tl]->dj A0 H x r->H tl=some (.lst us)->(qh us.length x.h.length=none->Q .aQ H)->(∀z,qh us.length x.h.length=some z->∀p,H p=none->Q (.ref p) (upd H p (.lst (tw z))))->RQ A0 vs H Q
def ajm(A0:aL):Sp:=λvs H Q _=>RQ A0 vs H Q
def GB(T:Txt w K mg A0):b9 P w K mg base "row_refusal" 1 ["row","told"] (ajm A0):=by
 refine cg ["row","told"] T.adQ ?_;rintro nD f aU A outer s H vs Q E hr ⟨r,x,tl,us,rfl,⟨rp,ia,gV,rm,rb,rfl,R1⟩,dE,k0,k1⟩;refine⟨_,(aF (bD (PW.pt (pw_or (bT zy (dC Uk (cR eU rfl T.eJ eI (aq (pv 1) aC)) aP) aP) (pw_or1 (bT jv (cR eU rfl T.eJ eI (aq (pv 1) aC)) (dC Ip aP (cM T.acI rfl)))))) (aH (aS (cf (aq (eh eA aP) aC)))) bH) (aF (bD (bT zA (dC Ip aP (cR eU rfl T.eJ eI (aq (aV (pv 0) rfl) aC))) (cR eU rfl T.eJ eI (aq (pv 1) aC))) (aH (aS (cf (aq (eh eA aP) (aq (cR eU rfl T.eJ eI (aq (aV (pv 0) rfl) aC)) aC))))) bH) (aH (aS eF)))),?_⟩;try dsimp only[bc,Cx.bf]
 refine iS ?_;intro _ _;obtain⟨ms,hm,pm⟩:=R1.moves;have lm:=bZ pm;rw[aT]at lm;refine⟨_,rfl,_,_,rfl,.inl (aB.of dE),_,_,rfl,rfl,by simp[*],rfl,_,rfl,?_⟩;have e0:decide (V.int ((us.length:Int) % 2)=V.int 0)=decide (us.length % 2=0):=tQ.mpr ⟨λz=>by injection z with z;lia,λz=>by rw[show((us.length:Int) % 2)=0 from by lia]⟩;show if(!decide (V.int ((us.length:Int) % 2)=V.int 0))=true then _ else _;rw[e0];unfold qh at k0 k1;by_cases h1:us.length % 2=0
 ·rw[cq h1]
  refine bg ⟨_,rfl,_,_,rfl,.inl (aB.of dE),_,_,rfl,rfl,.inl ⟨by decide,by decide⟩,_,_,rfl,rfl,_,rfl,?_⟩;show if decide ((128:Int)<(us.length:Int))=true then _ else _;by_cases h2:128<us.length
  ·rw[cq (by exact iX.2 ‹_›)];rw[aD (.inr h2)]at k1;exact bA ⟨_,rfl,dM,λp hp=>k1 _ rfl p hp⟩
  rw[b7 (by exact mt iX.1 ‹_›)];rw[az (by simp[*])]at k0 k1;refine bg ⟨_,rfl,rp,_,_,_,_,rfl,R1.obj,T.dz,T.rw_moves,rfl,_,_,rfl,.inl (aB.of hm),_,_,rfl,rfl,?_,_,rfl,_,_,rfl,.inl (aB.of dE),_,_,rfl,rfl,_,rfl,?_⟩
  ·exact .inl ⟨by decide,by decide⟩
  show if decide (2*(ms.length:Int)<(us.length:Int))=true then _ else _;by_cases h3:2*x.h.length<us.length
  ·rw[cq (by lia)];rw[aD h3]at k1;refine bA ⟨_,rfl,_,rfl,rp,_,_,_,_,rfl,R1.obj,T.dz,T.rw_moves,rfl,_,_,rfl,.inl (aB.of hm),iq,λp hp=>?_⟩;have:=k1 _ rfl p hp;unfold tw at this;rw[<-lm];exact this
  rw[b7 (by lia)];rw[az h3]at k0;exact bg (k0 rfl)
 rw[b7 h1];rw[aD (.inl h1)]at k1;exact bA (bA ⟨_,rfl,dM,λp hp=>k1 _ rfl p hp⟩)
def refused(G:Yn.Good s)(h:qh l.length (bu s l).length=some z)(f:List Yh.Move->List Yh.Slot->Ans):Wqatdq.ofMoves s l f=z:=by
 rw[Yn.xh G];unfold qh at h;by_cases h1:l.length % 2≠0\/128<l.length
 ·rw[aD h1]at h⊢;exact bC h
 rw[az h1]at h⊢;simp_all
theorem BH(h:qh n m=none):¬(n % 2≠0\/128<n)/\¬2*m<n:=by unfold qh at h;lia
def vn(s:State)(l:List Nat):(bu s l).length<=l.length /2:=by have:=(Yn.Ed (P:=s.plan) (rs:=s.routes) (k:=s.takes) (r0:=s.ready) (dJ l) [] s.at_).2;rw[Yn.pF]at this;have e:([]:List (Mv×Nat)).length=0:=rfl;rw[e,Ca]at this;exact this
theorem ajn(G:Yn.Good s)(h:qh l.length (bu s l).length=none)(hj:(bu s l).length<=j):Wqatdq.told s (.slack j l)=says (-4):=by
 obtain⟨h1,h2⟩:=BH h;show Wqatdq.ofMoves s l _=_;rw[Yn.xh G,az h1,az h2];have hl:=vn s l;have mB:=Yn.pF l;rcases Yn.xg G (l:=l) (by simp_all)with⟨_,x,hx,_⟩|⟨h3,_⟩
 ·rw[hx];show Wqatdq.slackTold s j (dJ l) x=_;unfold Wqatdq.slackTold;rw[aD (by lia)];rfl
 exact absurd h3 h2
inductive RR(A0:aL)(vs:List V)(H:Hp)(Q:VK):Prop
 |mk:∀(S:List Addr) (a:YA) (s:State) (tl:Addr) (l:List Nat),vs=[.ref a.y,.ref tl]->cu S H->dk A0 (cut S H) a s->H tl=some (.lst (aR l))->l.length<=40000->gX A0 S H a (Wqatdq.step s (.times l)) Q->RR A0 vs H Q
def ajo(A0:aL):Sp:=λvs H Q _=>RR A0 vs H Q
def ajp(T:Txt w K mg A0):
  cK P w K mg base A0.aZ "times" 6 ["self","told"] (ajo A0):=by
 refine dY ["self","told","row","refusal","answer","begin","end"] T.adR T.di ?_;rintro nD f aU A outer s H vs Q E hr ⟨S,a,s,tl,l,rfl,a_,hY,dE,hlen,k⟩;refine⟨_,(aF (bw 2 nD (bB (FP T) hr (aq (pv 0) (aq (pv 1) aC)))) (aF (bw 3 nD (bB (GB T) hr (aq (pv 2) (aq (pv 1) aC)))) (aF (bD (bT oX (pv 3) eF) (aH (aS (pv 3))) bH) (aF (bw 4 nD (cf (aq (aV (pv 2) rfl) aC))) (aF (fX fW rfl (zZ rfl T.xE (aq (aV (pv 2) rfl) (aq (bB (Pw T) hr (aq (pv 2) aC)) aC))) (nr rfl (gw (ck 5 nD) (gw (ck 6 nD) mm))) (aH (i3 (jy jT Cd Ce we (pv 4) (aq (cf (aq (pv 5) (aq (pv 6) aC))) aC))))) (aH (aS (pv 4)))))))),?_⟩;try dsimp only[bc,Cx.bf]
 refine Ez ?_;intro _ _ _ _ _;have k:gX A0 S H a (s,Wqatdq.told s (.times l)) Q:=k;refine⟨_,rfl,_,rfl,S,a,s,tl,l,rfl,a_,hY,dE,hlen,λH1 rv p1 s1 eD=>?_⟩;have mV:=eD.mono aJ;have hl:=vn s l;refine⟨_,rfl,_,rfl,rv,⟨p1,bu s l⟩,tl,aR l,rfl,mV,s1 _ _ dE,λhn=>?_,λz hz p hp=>?_⟩
 ·rw[aT]at hn
  obtain⟨h1,h2⟩:=BH hn;rw[Yn.Mu hY.good,az h1,az h2]at k;refine⟨_,rfl,rfl,_,rfl,bg ?_⟩;obtain⟨rp,ia,gV,rm,rb,rfl,R1⟩:=id mV;refine⟨_,rfl,rp,_,_,_,_,rfl,R1.obj,T.dz,T.rw_done,rfl,dM,λD hD=>?_⟩;have s2:=ax.new (o:=.lst [V.int (((⟨p1,bu s l⟩:aN).done:Nat):Int)]) hD;have yw:=mV.mono s2;refine⟨_,rfl,rp,_,_,_,_,rfl,s2 _ _ R1.obj,T.dz,T.rw_begins,rfl,_,rfl,_,⟨p1,bu s l⟩,rfl,yw,by show(bu s l).length<=_;lia,λH3 pe s3 ajq BI=>?_⟩;have yR:=s3 _ _ (s2 _ _ R1.begins);have gj:=s3 _ _ (aA);refine⟨rb,pe,_,_,rfl,aB.of yR,aB.of BI,?_⟩;have s13:=s1.trans (s2.trans s3);have nb:rb≠D:=λz=>by rw[z]at yR;have:=R1.begins;simp_all
  have ne:pe≠D:=λz=>by rw[z,aA]at ajq;simp_all
  have nE:=s1.free hD;let G:Mv×Nat->List Nat:=λx=>[x.2,x.2+x.1.bS];let dn:Nat:=(⟨p1,bu s l⟩:aN).done;let Z1:Nat->L2.St->Hp->Prop:=λi σ H'=>iY λv5 v6 v3=>fN (σ=[some (.ref a.y),some (.ref tl),some (.ref rp),v3,some (.ref D),v5,v6]) (aG [D] H3 H') (H' D=some (.lst (V.int (dn:Int)::aR (((bu s l).take i).flatMap G))));refine pU (n:=(bu s l).length) Z1 ⟨_,_,_,rfl,aG.of (ax.refl _),gj⟩ ?_ ?_ ?_ ?_
  ·rintro i σ H' hi ⟨v5,v6,v3,rfl,fr,hd⟩;exact⟨_,_,_,_,aB.of (fr _ _ yR (by simp[nb])),aB.of (fr _ _ BI (by simp[ne])),cp (by simp[*]),cp (by unfold cZ;simp[*])⟩
  ·rintro σ H' ⟨v5,v6,v3,rfl,fr,hd⟩;exact⟨_,_,aB.of (fr _ _ yR (by simp[nb])),aB.of (fr _ _ BI (by simp[ne])),.inl (by simp[*])⟩
  ·rintro i σ H' y H4 hi ⟨v5,v6,v3,rfl,fr,hd⟩ ⟨Tt,x1,x2,rfl,hT,rfl,fj,dW⟩;have fj:=fj _ (aB.of (fr _ _ yR (by simp[nb])));have dW:=dW _ (aB.of (fr _ _ BI (by simp[ne])));obtain⟨z,hz⟩:∃z,(bu s l)[i]?=some z:=⟨_,cp hi⟩;rw[cb,cb]at fj;have lB:=hz;rw[lB]at fj;unfold cZ at dW;rw[cb,cb,lB]at dW;obtain rfl:V.int (z.2:Int)=x1:=bC fj;obtain rfl:V.int ((z.2+z.1.bS:Nat):Int)=x2:=bC dW;have sT:=ax.new (o:=.tup [V.int (z.2:Int),V.int ((z.2+z.1.bS:Nat):Int)]) hT;have lU:=sT _ _ hd;refine⟨_,_,rfl,aX.of aA,rfl,_,_,rfl,_,_,rfl,rfl,?_⟩;generalize upd H' Tt (.tup [V.int (z.2:Int),V.int ((z.2+z.1.bS:Nat):Int)])=H4 at sT lU⊢;refine⟨_,rfl,.inl ⟨rfl,_,aB.of lU⟩,_,rfl,_,rfl,iq,λp hp=>?_⟩;have sp:=ax.new (o:=.lst [V.int (z.2:Int),V.int ((z.2+z.1.bS:Nat):Int)]) hp;have sJ:=Yn.lM G 2 ((bu s l).take i) λ_ _=>aW _;rw[dQ]at sJ;refine⟨D,p,_,_,rfl,rfl,sp _ _ lU,aA,by rw[bG,aT,bP];simp only[bG,dR];lia,?_⟩;refine⟨_,_,_,rfl,fr.trans ((aG.of (sT.trans sp)).trans (aG.upd (by simp))),?_⟩;rw[aA,dS hz,qE];unfold aR;rw[ft];rfl
  rintro σ H' ⟨v5,v6,v3,rfl,fr,hd⟩;rw[fq (aW _)]at hd;refine⟨_,rfl,k.same hY (λc o e=>fr _ _ (s13 _ _ e) (by simp only[dA];exact bz e nE)) nE ?_⟩;assumption
 rw[aT]at hz;have ek:Wqatdq.told s (.times l)=z:=refused hY.good hz _;rw[ek]at k;refine⟨_,rfl,rfl,_,rfl,bA ⟨_,rfl,?_⟩⟩;exact k.laid hY s1 hp
inductive RS(A0:aL)(vs:List V)(H:Hp)(Q:VK):Prop
 |mk:∀(S:List Addr) (a:YA) (s:State) (tl:Addr) (j:Nat) (l:List Nat),vs=[.ref a.y,.int j,.ref tl]->cu S H->dk A0 (cut S H) a s->H tl=some (.lst (aR l))->l.length<=40000->gX A0 S H a (Wqatdq.step s (.slack j l)) Q->RS A0 vs H Q
def ajs(A0:aL):Sp:=λvs H Q _=>RS A0 vs H Q
def ajt(T:Txt w K mg A0):
  cK P w K mg base A0.aZ "slack" 6 ["self","number","told"] (ajs A0):=by
 refine dY ["self","number","told","row","refusal"] T.adS T.di ?_;rintro nD f aU A outer s H vs Q E hr ⟨S,a,s,tl,j,l,rfl,a_,hY,dE,hlen,k⟩;refine⟨_,(aF (bw 3 nD (bB (FP T) hr (aq (pv 0) (aq (pv 2) aC)))) (aF (bw 4 nD (bB (GB T) hr (aq (pv 3) (aq (pv 2) aC)))) (aF (bD (bT oX (pv 4) eF) (aH (aS (pv 4))) bH) (aF (bD (bT zC (pv 1) (cR eU rfl T.eJ eI (aq (aV (pv 3) rfl) aC))) (aH (aS (cf (aq (eh eA aP) aC)))) bH) (aH (aS (cf (aq (bB (agO T) hr (aq (pv 3) (aq (pv 1) aC))) aC)))))))),?_⟩;try dsimp only[bc,Cx.bf]
 refine pM ?_;intro _ _ _ _;have k:gX A0 S H a (s,Wqatdq.told s (.slack j l)) Q:=k;refine⟨_,rfl,_,rfl,S,a,s,tl,l,rfl,a_,hY,dE,hlen,λH1 rv p1 s1 eD=>?_⟩;have mV:=eD.mono aJ;have hl:=vn s l;refine⟨_,rfl,_,rfl,rv,⟨p1,bu s l⟩,tl,aR l,rfl,mV,s1 _ _ dE,λhn=>?_,λz hz p hp=>?_⟩
 ·rw[aT]at hn
  obtain⟨h1,h2⟩:=BH hn;refine⟨_,rfl,rfl,_,rfl,bg ?_⟩;obtain⟨rp,ia,gV,rm,rb,rfl,R1⟩:=id mV;obtain⟨ms,hm,pm⟩:=R1.moves;have lm:=bZ pm;rw[aT]at lm;have lm:(bu s l).length=ms.length:=lm;refine⟨_,rfl,_,rfl,rp,_,_,_,_,rfl,R1.obj,T.dz,T.rw_moves,rfl,_,_,rfl,.inl (aB.of hm),_,_,rfl,rfl,_,rfl,?_⟩;by_cases hj:(bu s l).length<=j
  ·rw[cq (by simp_all)];rw[ajn hY.good hn hj]at k;exact bA ⟨_,rfl,by decide,λp hp=>k.laid hY s1 hp⟩
  rw[b7 (by simp_all)];refine bg ⟨_,rfl,_,rfl,_,⟨p1,bu s l⟩,j,rfl,mV,by show(bu s l).length<=_;lia,by simp_all,λH2 ts s2 ht=>⟨dM,λp hp=>?_⟩⟩;rw[Yn.ZL hY.good j l ht,az h1,az h2,az hj]at k;exact k.laid hY (s1.trans s2) hp
 rw[aT]at hz;have ek:Wqatdq.told s (.slack j l)=z:=refused hY.good hz _;rw[ek]at k;refine⟨_,rfl,rfl,_,rfl,bA ⟨_,rfl,?_⟩⟩;exact k.laid hY s1 hp
inductive RT(A0:aL)(vs:List V)(H:Hp)(Q:VK):Prop
 |mk:∀(S:List Addr) (a:YA) (s:State) (tl:Addr) (l:List Nat),vs=[.ref a.y,.ref tl]->cu S H->dk A0 (cut S H) a s->H tl=some (.lst (aR l))->l.length<=40000->gX A0 S H a (Wqatdq.step s (.chain l)) Q->RT A0 vs H Q
def aju(A0:aL):Sp:=λvs H Q _=>RT A0 vs H Q
theorem GC(h:List (Mv×Nat)):∀n c,(Yn.walk h n c).length<=n
 |0,_=>aW _
 |n+1,c=>by
  rw[Yn.Ek];split
  ·exact Nat.succ_le_succ (GC h n n)
  exact vK (GC h n c)
def RU(h:List (Mv×Nat)):(iB h).length<=h.length:=by
 unfold iB;cases q:(cZ h).findIdx? (λe=>e==Yh.maxOf (cZ h))with
 |none=>exact bL _
 |some i=>show((i::Yn.walk h i i).reverse).length<=_;rw[Hs,bG];obtain⟨hl,_⟩:=Hl.mp q;unfold cZ at hl;rw[aT]at hl;have:=GC h i i;exact tO ‹_› ‹_›
def ajv(T:Txt w K mg A0):
  cK P w K mg base A0.aZ "chain" 6 ["self","told"] (aju A0):=by
 refine dY ["self","told","row","refusal","chain"] T.adT T.di ?_;rintro nD f aU A outer s H vs Q E hr ⟨S,a,s,tl,l,rfl,a_,hY,dE,hlen,k⟩;refine⟨_,(aF (bw 2 nD (bB (FP T) hr (aq (pv 0) (aq (pv 1) aC)))) (aF (bw 3 nD (bB (GB T) hr (aq (pv 2) (aq (pv 1) aC)))) (aF (bD (bT oX (pv 3) eF) (aH (aS (pv 3))) bH) (aF (bw 4 nD (bB (ahi T) hr (aq (pv 2) aC))) (aH (aS (dC zQ (cf (aq (cR eU rfl T.eJ eI (aq (pv 4) aC)) aC)) (pv 4)))))))),?_⟩;try dsimp only[bc,Cx.bf]
 refine pM ?_;intro _ _ _ _;have k:gX A0 S H a (s,Wqatdq.told s (.chain l)) Q:=k;refine⟨_,rfl,_,rfl,S,a,s,tl,l,rfl,a_,hY,dE,hlen,λH1 rv p1 s1 eD=>?_⟩;have mV:=eD.mono aJ;have hl:=vn s l;refine⟨_,rfl,_,rfl,rv,⟨p1,bu s l⟩,tl,aR l,rfl,mV,s1 _ _ dE,λhn=>?_,λz hz p hp=>?_⟩
 ·rw[aT]at hn
  obtain⟨h1,h2⟩:=BH hn;rw[Yn.Mw hY.good,az h1,az h2]at k;refine⟨_,rfl,rfl,_,rfl,bg ?_⟩;refine⟨_,rfl,rv,⟨p1,bu s l⟩,rfl,mV,by show(bu s l).length<=_;lia,λH2 pc s2 akY mT=>?_⟩;have mT:=mT;have jz:=RU (bu s l);refine⟨_,rfl,_,_,rfl,.inl (aB.of mT),dM,λp3 cE=>?_⟩;have s3:=ax.new (o:=.lst [V.int (((aR (iB (bu s l))).length:Nat):Int)]) cE;refine⟨_,rfl,p3,pc,_,_,rfl,rfl,aA,s3 _ _ mT,by rw[aT,bP];simp only[bG,dR];lia,λp hp=>?_⟩;have ea:[V.int (((aR (iB (bu s l))).length:Nat):Int)]++aR (iB (bu s l))=tw (tells (((iB (bu s l)).length:Nat):Int) (iB (bu s l))):=by rw[aT];rfl
  rw[ea];exact k.laid hY ((s1.trans s2).trans s3) hp
 rw[aT]at hz;have ek:Wqatdq.told s (.chain l)=z:=refused hY.good hz _;rw[ek]at k;refine⟨_,rfl,rfl,_,rfl,bA ⟨_,rfl,?_⟩⟩;exact k.laid hY s1 hp
inductive RV(A0:aL)(vs:List V)(H:Hp)(Q:VK):Prop
 |mk:∀(S:List Addr) (a:YA) (s:State) (wl:Addr) (x y z n:Nat),vs=[.ref a.y,.ref wl,.int n]->cu S H->dk A0 (cut S H) a s->cut S H wl=some (.lst (aR [x,y,z]))->gX A0 S H a (Wqatdq.step s (.best x y z n)) Q->RV A0 vs H Q
def ajw(A0:aL):Sp:=λvs H Q _=>RV A0 vs H Q
def ajx(T:Txt w K mg A0):mM P w K mg base "Search" A0.search 1 ["self","yard","wanted"] (Q8 P w A0):=sh (aiD T) T.acm T.acn T.ack
def ajy(T:Txt w K mg A0):
  cK P w K mg base A0.aZ "best" 23 ["self","wanted","most"] (ajw A0):=by
 refine dY ["self","wanted","most","search","row","answer","move"] T.adU T.di ?_;rintro nD f aU A outer s H vs Q E hr ⟨S,a,s,wl,x,y,z,n,rfl,a_,hY,hw,k⟩;refine⟨_,(aF (bD (PW.pt (pw_or (bT jv (cR (Vx rfl) rfl T.xD xA (aq (pv 1) aC)) (dC lj (cR eU rfl T.eJ eI (aq (aV (aV (pv 0) rfl) rfl) aC)) aP)) (pw_or1 (bT jv (pv 2) (cM T.acJ rfl))))) (aH (aS (cf (aq (eh eA aP) aC)))) bH) (aF (bw 3 nD (pN (ajx T) hr (aq (pv 0) (aq (pv 1) aC)))) (aF (bD (gv (bB (ail T) hr (aq (pv 3) (aq (pv 2) aC)))) (aH (aS (cf (aq (eh eA aP) aC)))) bH) (aF (bw 4 nD (bB (aib T) hr (aq (pv 3) (aq (pv 2) aC)))) (aF (bD (bT qP (pv 4) eF) (aH (aS (cf (aq (eh eA aP) aC)))) bH) (aF (bw 5 nD (cf (aq (aV (pv 4) rfl) (aq (cR eU rfl T.eJ eI (aq (aV (pv 4) rfl) aC)) aC)))) (aF (fX fW rfl (g9 (aV (pv 4) rfl)) (ck 6 nD) (aH (i3 (jy jT Cd Ce we (pv 5) (aq (cf (aq (aV (pv 6) rfl) (aq (aV (pv 6) rfl) aC))) aC))))) (aH (aS (pv 5)))))))))),?_⟩;try dsimp only[bc,Cx.bf]
 refine EA ?_;intro _ _ _ _ _ _ _;have k:gX A0 S H a (s,Wqatdq.bestTold s x y z n) Q:=k;rw[Yn.MG hY.good]at k;obtain⟨R,m,hP,W,eP⟩:=hY.plan;have dw:=hP.mono (aJ.trans aJ);have eZ:=aJ _ _ hY.obj;have hw':=aJ _ _ hw;have esl:R.sects.length=s.plan.sects.length:=by rw[eP];rfl
 have ew:aR [x,y,z]=([(x:Int),(y:Int),(z:Int)]).map V.int:=rfl;refine⟨_,rfl,wl,[(x:Int),(y:Int),(z:Int)],rfl,aB.of (by assumption),by show 0<3;decide,λmx hmx cx=>?_⟩;have emx:mx=((max x (max y z):Nat):Int):=by have h1:=cx x (by simp);have h2:=cx y (by simp);have h3:=cx z (by simp);simp only[be,fL,fM]at hmx;grind
 refine⟨_,rfl,a.y,_,_,_,_,rfl,eZ,T.di,T.xK,Be a,a.p.p,_,_,_,_,rfl,dw.obj,T.c_,T.lN,mN a.p,_,_,rfl,.inl (aB.of dw.kinds),_,_,rfl,rfl,_,_,rfl,rfl,_,rfl,?_⟩;show if decide ((((R.sects.map λs=>V.str (kn s.kind)).length:Nat):Int)+1<mx)=true then _ else _;rw[aT,emx];by_cases h1:s.plan.sects.length+1<max x (max y z)
 ·rw[cq (by lia)];rw[aD (.inl h1)]at k;exact bA (bA ⟨_,rfl,dM,λp hp=>k.laid hY (ax.refl _) hp⟩)
 rw[b7 (by lia)];refine bg ⟨_,rfl,_,_,rfl,rfl,_,rfl,?_⟩;show if decide ((5:Int)<(n:Int))=true then _ else _;by_cases h2:5<n
 ·rw[cq (by exact iX.2 ‹_›)];rw[aD (.inr h2)]at k;exact bA ⟨_,rfl,dM,λp hp=>k.laid hY (ax.refl _) hp⟩
 rw[b7 (by exact mt iX.1 ‹_›)];rw[az (by simp_all)]at k;refine bg ⟨_,rfl,_,rfl,?_⟩;intro xs dx nx da lP;refine⟨S,H,xs,dx,a,s,wl,[x,y,z],rfl,nx,da,lP,rfl,a_,hY,hw,rfl,λH2 sa e1 e2 hM s2 hsa=>⟨rfl,?_⟩⟩;have sM:∀{H':Hp},aG sa.M H2 H'->ax H H':=λf c o e=>f _ _ (s2 _ _ e) λq=>by simp_all
 refine⟨_,rfl,_,rfl,S,sa,s,[x,y,z],n,by rw[e1];rfl,by simp_all,a_.same s2,hsa,λH3 b8 ajC=>⟨_,rfl,?_⟩⟩;have s3:=sM b8;have kb:eO s n=Yn.dh s.plan s.routes s.takes s.ready n ⟨s.at_,[]⟩:=rfl;rw[<-kb]at k;by_cases h3:20000<(eO s n).length
 ·rw[cq h3];rw[aD h3]at k;exact bA ⟨_,rfl,dM,λp hp=>k.laid hY s3 hp⟩
 rw[b7 h3];rw[az h3]at k;refine bg ?_;refine⟨_,rfl,_,rfl,S,sa,s,[x,y,z],n,by rw[e1];rfl,by simp_all,a_.same s3,ajC,by exact Nat.not_lt.1 ‹_›,λH4 v gk hv=>?_⟩;have s4:=sM (b8.trans gk);refine⟨_,rfl,rfl,_,rfl,?_⟩;cases q:cS [x,y,z] none (eO s n)with
 |none=>rw[q]at hv k;obtain rfl:v= .aQ:=hv;exact bA ⟨_,rfl,dM,λp hp=>k.laid hY s4 hp⟩
 |some r=>
  rw[q]at hv k;have hv:dj A0 (cut sa.M (cut S H4)) r v:=hv;have eD:=hv.mono (aJ.trans aJ);obtain⟨rp,ia,gV,rm,rb,rfl,R1⟩:=id eD;obtain⟨ms,hm,pm⟩:=R1.moves;have lm:=bZ pm;rw[aT]at lm;have u_:r.h.length<=5:=by
   rcases Yn.uH (g:=[x,y,z]) (eO s n) none with⟨e,_⟩|⟨r',A',B',e,eL,_⟩
   ·lia
   rw[q]at e;obtain rfl:=bC e;have hm:r∈eO s n:=by rw[eL];simp
   obtain⟨i,hi,hl⟩:=Yn.uI.mp hm;rw[Gh hl];lia
  refine bg ⟨_,rfl,rp,_,_,_,_,rfl,R1.obj,T.dz,T.rw_done,rfl,_,rfl,rp,_,_,_,_,rfl,R1.obj,T.dz,T.rw_moves,rfl,_,_,rfl,.inl (aB.of hm),iq,λD hD=>?_⟩;have sD:=ax.new (o:=.lst [V.int ((r.done:Nat):Int),V.int ((ms.length:Nat):Int)]) hD;have kC:(upd H4 D (.lst [V.int ((r.done:Nat):Int),V.int ((ms.length:Nat):Int)])) D=some (.lst [V.int ((r.done:Nat):Int),V.int ((ms.length:Nat):Int)]):=aA;have nE:H D=none:=s4.free hD;have GD:=sD _ _ hm;have RW:=sD _ _ R1.obj;have nmD:rm≠D:=bz hm hD;have RX:=Paired.cj pm λ_ _ q=>q.mono sD;have yq:=s4.trans sD;generalize upd H4 D (.lst [V.int ((r.done:Nat):Int),V.int ((ms.length:Nat):Int)])=H5 at kC GD RW RX yq⊢;refine⟨_,rfl,rp,_,_,_,_,rfl,RW,T.dz,T.rw_moves,rfl,rm,rfl,⟨_,aB.of GD⟩,?_⟩;let G:Mv->List Nat:=λmv=>[mv.train,mv.what];let Z1:Nat->L2.St->Hp->Prop:=λi σ H'=>∃v6,fN (σ=[some (.ref a.y),some (.ref wl),some (.int (n:Int)),some (.ref xs),some (.ref rp),some (.ref D),v6]) (aG [D] H5 H') (H' D=some (.lst (V.int ((r.done:Nat):Int)::V.int ((ms.length:Nat):Int)::aR (((r.h.map (·.1)).take i).flatMap G))));refine oV (K:=K) (a:=rm) (xs:=ms) Z1 ⟨none,rfl,aG.of (ax.refl _),kC⟩ (λi σ H' _ q=>by obtain⟨_,_,fr,_⟩:=q;exact aB.of (fr _ _ GD (by simp[nmD]))) ?_ ?_
  ·rintro i QH σ H' jc ⟨v6,rfl,fr,hd⟩
   obtain⟨mv,sZ,kP⟩:=Paired.get' RX jc;obtain⟨mp,u6,ib,ml,md,rfl,M1⟩:=kP;have nmp:mp≠D:=e9 M1.obj kC (by simp[*]);have yL:=fr _ _ M1.obj (by simp[nmp]);refine⟨_,rfl,.inl ⟨rfl,_,aB.of hd⟩,_,rfl,mp,_,_,_,_,rfl,yL,T.fT,T.xG,rfl,_,rfl,mp,_,_,_,_,rfl,yL,T.fT,T.Nr,rfl,iq,λp hp=>?_⟩;have sp:=ax.new (o:=.lst [V.int (mv.train:Int),V.int (mv.what:Int)]) hp;have sJ:=Yn.lM G 2 ((r.h.map (·.1)).take i) λ_ _=>aW _
   rw[dQ,aT]at sJ;refine⟨D,p,_,_,rfl,rfl,sp _ _ hd,aA,by rw[bG,bG,aT,bP];simp only[bG,dR];lia,?_⟩;refine⟨_,rfl,fr.trans ((aG.of sp).trans (aG.upd (by simp))),?_⟩;rw[aA,dS sZ,qE];unfold aR;rw[ft];rfl
  rintro σ H' ⟨v6,rfl,fr,hd⟩;rw[fq (by simp[*])]at hd;refine⟨_,rfl,k.same hY (λc o e=>fr _ _ (yq _ _ e) (by simp only[dA];exact bz e nE)) nE ?_⟩;rw[hd];have em:r.moves.flatMap (λm=>[m.1,m.2])=(r.h.map (·.1)).flatMap G:=by unfold aN.moves;rw[y9,y9]
  show some (HO.lst _)=some (HO.lst (V.int ((r.done:Nat):Int)::(r.h.length::r.moves.flatMap λm=>[m.1,m.2]).map λ(n:Nat)=>V.int (n:Int)));simp[*]
def cO(ci:Addr)(k:Nat):List (Str×V):=[("supply",.ref ci),("given",.int (k:Int))]
theorem ajF(xs:List V)(k m:Nat)(h:k+m<=xs.length):f_ xs (some (k:Int)) (some ((k+m:Nat):Int))=(xs.drop k).take m:=by unfold f_;rw[HT.qY,HT.qY,vG h,vG (show k<=xs.length by lia)];simp[*]
def ajG{K:aa}{H H':Hp}{c:Addr}{xs:List V}(h:aB K H c xs)(k:∀o,H c=some o->H' c=some o):aB K H' c xs:=by
 rcases h with h|h
 ·refine .inl ?_
  rcases h with h|⟨o,h⟩
  ·exact .inl (k _ h)
  exact .inr ⟨o,k _ h⟩
 exact .inr h
def GF{K:aa}{H H':Hp}{c p C dx:Addr}{fs:List (Str×V)}{xs:List V}(h:aB K H c xs)(hp:H p=some (.ins C dx fs))(f:aG [p] H H'):aB K H' c xs:=by
 rcases h with h|h
 ·rcases h with h|⟨o,h⟩
  ·exact .inl (.inl (f _ _ h (by simp only[dA];exact e9 h hp (by simp[*]))))
  exact .inl (.inr ⟨o,f _ _ h (by simp only[dA];exact e9 h hp (by simp[*]))⟩)
 exact .inr h
def RY(h:PyFlat.row l=some (x,t)):dB λn r=>ma (l=n::r) (0<=n) (n.toNat<=r.length) (x=r.take n.toNat) (t=r.drop n.toNat):=by
 cases l with
 |nil=>cases h
 |cons n r=>
  have h:(if 0<=n/\n.toNat<=r.length then some (r.take n.toNat,r.drop n.toNat)else none)=some (x,t):=h;by_cases hc:0<=n/\n.toNat<=r.length
  ·rw[aD hc]at h;injection h with h;injection h with h1 h2;exact⟨n,r,rfl,hc.1,hc.2,h1.symm,h2.symm⟩
  rw[az hc]at h;cases h
theorem RZ(h:PyFlat.rows 1 l=some (xs,t)):∃x,PyFlat.row l=some (x,t)/\xs=[x]:=by
 unfold PyFlat.rows at h;cases q:PyFlat.row l with
 |none=>simp_all
 |some p=>rw[q]at h;simp only[PyFlat.rows]at h;grind
def BJ(h:PyFlat.rows 0 l=some (xs,t)):xs=[]/\t=l:=by injection h with h;simp_all
inductive Told:List Int->List (List Int)->List Int->Prop
 |row (p n:Int) (r:List Int) (hp:p=0\/p=4\/p=6) (h0:0<=n) (hn:n.toNat<=r.length):Told (p::n::r) [[p],r.take n.toNat] (r.drop n.toNat)
 |three (x y z:Int) (r:List Int):Told (1::x::y::z::r) [[1,x,y,z]] r
 |two (p x y:Int) (r:List Int) (hp:p=2\/p=3):Told (p::x::y::r) [[p,x,y]] r
 |both (j n:Int) (r:List Int) (h0:0<=n) (hn:n.toNat<=r.length):Told (5::j::n::r) [[5,j],r.take n.toNat] (r.drop n.toNat)
 |four (x y z n:Int) (r:List Int):Told (7::x::y::z::n::r) [[7,x,y,z,n]] r
theorem R0(h:PyFlat.call PyWqatdq.shape l=some (c,t)):Told l c t:=by
 cases l with
 |nil=>cases h
 |cons p r=>
  have h:(match PyWqatdq.shape p with
   |none=>none
   |some (n,k)=>if r.length<n then none else match PyFlat.rows k (r.drop n)with
    |none=>none
    |some (xs,t)=>some ((p::r.take n)::xs,t))=some (c,t):=h
  cases q:PyWqatdq.shape p with
  |none=>simp_all
  |some nk=>
   obtain⟨n,k⟩:=nk;rw[q]at h;simp only at h;by_cases hl:r.length<n
   ·simp_all
   rw[az hl]at h;cases q2:PyFlat.rows k (r.drop n)with
   |none=>simp_all
   |some xt=>
    obtain⟨xs,t'⟩:=xt;rw[q2]at h;simp only at h;injection h with h;injection h with h1 h2;subst h1 h2;have ak3:∀p,p=0\/p=4\/p=6->n=0->k=1->Told (p::r) ((p::r.take n)::xs) t':=λp hp hn hk=>by subst hn hk;rw[vF]at q2;obtain⟨x,hx,rfl⟩:=RZ q2;obtain⟨m,r',rfl,h0,h1,rfl,rfl⟩:=RY hx;exact .row p m r' hp h0 h1
    unfold PyWqatdq.shape at q;split at q
    ·grind
    split at q
    ·injection q with q;injection q with q1 jm
     rename_i e;subst q1 jm e;obtain⟨rfl,rfl⟩:=BJ q2;match r,hl with
     |x::y::z::r,_=>exact .three x y z r
     |[],h=>simp_all
     |[_],h=>simp_all
     |[_,_],h=>simp_all
    split at q
    ·injection q with q;injection q with q1 jm
     rename_i e;subst q1 jm e;obtain⟨rfl,rfl⟩:=BJ q2;match r,hl with
     |x::y::r,_=>exact .two 2 x y r (.inl rfl)
     |[],h=>simp_all
     |[_],h=>simp_all
    split at q
    ·injection q with q;injection q with q1 jm
     rename_i e;subst q1 jm e;obtain⟨rfl,rfl⟩:=BJ q2;match r,hl with
     |x::y::r,_=>exact .two 3 x y r (.inr rfl)
     |[],h=>simp_all
     |[_],h=>simp_all
    split at q
    ·grind
    split at q
    ·injection q with q;injection q with q1 jm
     rename_i e;subst q1 jm e;match r,hl with
     |[],h=>simp_all
     |j::r,_=>rw[List.drop_succ_cons,vF]at q2;obtain⟨x,hx,rfl⟩:=RZ q2;obtain⟨m,r',rfl,h0,h1,rfl,rfl⟩:=RY hx;exact .both j m r' h0 h1
    split at q
    ·grind
    split at q
    ·injection q with q;injection q with q1 jm
     rename_i e;subst q1 jm e;obtain⟨rfl,rfl⟩:=BJ q2;match r,hl with
     |x::y::z::n::r,_=>exact .four x y z n r
     |[],h=>simp_all
     |[_],h=>simp_all
     |[_,_],h=>simp_all
     |[_,_,_],h=>simp_all
    cases q
inductive R_(A0:aL)(vs:List V)(H:Hp)(Q:VK):Prop
 |mk:∀(p dx ci:Addr),vs=[.ref p,.ref ci]->H p=some (.ins A0.source dx [])->Q .aQ (upd H p (.ins A0.source dx (cO ci 0)))->R_ A0 vs H Q
def Sa(A0:aL):Sp:=λvs H Q _=>R_ A0 vs H Q
def ajH(T:Txt w K mg A0):cK P w K mg base A0.source "__init__" 1 ["self","supply"] (Sa A0):=by
 refine dY ["self","supply"] T.adV T.kG ?_;rintro nD f aU A outer s H vs Q E hr ⟨p,dx,ci,rfl,hp,k⟩;refine⟨_,(aF (dH (pv 0) (pv 1) rfl) (aH (dH (pv 0) aP rfl))),?_⟩;try dsimp only[bc,Cx.bf]
 refine pL ?_;intro _;refine⟨_,rfl,_,rfl,p,_,dx,_,rfl,hp,T.kG,T.ER,by decide,?_⟩;refine⟨_,rfl,p,_,dx,_,rfl,aA,T.kG,T.xN,by show 1<1000;decide,?_⟩;rw[e8];exact k
inductive Sb(K:aa)(A0:aL)(vs:List V)(H:Hp)(Q:VK):Prop
 |mk:∀(p dx ci:Addr) (zs:List Int) (k:Nat),vs=[.ref p]->H p=some (.ins A0.source dx (cO ci k))->aB K H ci (zs.map V.int)->Q (.bl (decide (k=zs.length))) H->Sb K A0 vs H Q
def ajI(K:aa)(A0:aL):Sp:=λvs H Q _=>Sb K A0 vs H Q
def ajJ(T:Txt w K mg A0):cK P w K mg base A0.source "is_used_up" 1 ["self"] (ajI K A0):=by
 refine dY ["self"] T.adW T.kG ?_;rintro nD f aU A outer s H vs Q E hr ⟨p,dx,ci,zs,n,rfl,hp,hc,k⟩;refine⟨_,(aH (aS (hG e_ (aV (pv 0) rfl) (cR eU rfl T.eJ eI (aq (aV (pv 0) rfl) aC)) (g_ _)))),?_⟩;try dsimp only[bc,Cx.bf]
 refine⟨_,rfl,p,_,_,_,_,rfl,hp,T.kG,T.xN,rfl,_,rfl,p,_,_,_,_,rfl,hp,T.kG,T.ER,rfl,_,_,rfl,.inl hc,rfl,?_⟩;have e:decide (V.int (n:Int)=V.int (((zs.map V.int).length:Nat):Int))=decide (n=zs.length):=by rw[aT];exact tQ.mpr ⟨λz=>by injection z with z;lia,λz=>by rw[z]⟩
 rw[e];exact k
inductive Sd(K:aa)(A0:aL)(vs:List V)(H:Hp)(Q:VK):Prop
 |mk:∀(p dx ci:Addr) (zs:List Int) (k m:Nat),vs=[.ref p,.int m]->H p=some (.ins A0.source dx (cO ci k))->aB K H ci (zs.map V.int)->k+m<=zs.length->(∀q,(upd H p (.ins A0.source dx (cO ci (k+m)))) q=none->Q (.ref q) (upd (upd H p (.ins A0.source dx (cO ci (k+m)))) q (.lst (((zs.drop k).take m).map V.int))))->Sd K A0 vs H Q
def ajK(K:aa)(A0:aL):Sp:=λvs H Q _=>Sd K A0 vs H Q
def qk(T:Txt w K mg A0):cK P w K mg base A0.source "take" 1 ["self","how_many"] (ajK K A0):=by
 refine dY ["self","how_many","start"] T.adX T.kG ?_;rintro nD f aU A outer s H vs Q E hr ⟨p,dx,ci,zs,n,m,rfl,hp,hc,hle,k⟩;refine⟨_,(aF (bw 2 nD (aV (pv 0) rfl)) (aF (dH (pv 0) (dC lj (pv 2) (pv 1)) rfl) (aH (aS (mw wd (aV (pv 0) rfl) (i6 (pv 2)) (i6 (aV (pv 0) rfl))))))),?_⟩;try dsimp only[bc,Cx.bf]
 refine iS ?_;intro _ _;refine⟨_,rfl,p,_,_,_,_,rfl,hp,T.kG,T.xN,rfl,?_⟩;refine⟨_,rfl,_,rfl,_,_,rfl,rfl,_,rfl,p,_,dx,_,rfl,hp,T.kG,T.xN,by show 2<1000;decide,?_⟩;refine⟨_,rfl,p,_,_,_,_,rfl,aA,T.kG,T.ER,rfl,_,rfl,_,rfl,_,rfl,p,_,_,_,_,rfl,aA,T.kG,T.xN,rfl,_,rfl,_,_,rfl,GF hc hp (aG.upd (by simp)),λq hq=>?_⟩;have ec:f_ (zs.map V.int) (some (n:Int)) (some ((n+m:Nat):Int))=((zs.drop n).take m).map V.int:=by rw[ajF _ n m (by simp[*]),<-List.map_drop,<-List.map_take]
 have kq:=k q hq;rw[<-ec]at kq;exact kq
inductive Se(K:aa)(A0:aL)(vs:List V)(H:Hp)(Q:VK):Prop
 |mk:∀(p dx ci:Addr) (zs:List Int) (k:Nat) (n:Int) (r:List Int),vs=[.ref p]->H p=some (.ins A0.source dx (cO ci k))->aB K H ci (zs.map V.int)->zs.drop k=n::r->0<=n->n.toNat<=r.length->(∀H' q,aG [p] H H'->H' p=some (.ins A0.source dx (cO ci (k+1+n.toNat)))->H q=none->H' q=some (.lst ((r.take n.toNat).map V.int))->Q (.ref q) H')->Se K A0 vs H Q
def ajL(K:aa)(A0:aL):Sp:=λvs H Q _=>Se K A0 vs H Q
def BK(T:Txt w K mg A0):cK P w K mg base A0.source "take_row" 2 ["self"] (ajL K A0):=by
 refine dY ["self"] T.adY T.kG ?_;rintro nD f aU A outer s H vs Q E hr ⟨p,dx,ci,zs,j,n,r,rfl,hp,hc,hd,h0,hn,k⟩;refine⟨_,(aH (aS (dg (qk T) hr (pv 0) (aq (bj cH (dg (qk T) hr (pv 0) (aq aP aC)) aP) aC)))),?_⟩;try dsimp only[bc,Cx.bf]
 have hl:zs.length=j+1+r.length:=by have:=gP List.length hd;rw[qt,bG]at this;lia
 refine⟨_,rfl,p,_,_,rfl,hp,rfl,_,rfl,p,_,_,rfl,hp,rfl,p,dx,ci,zs,j,1,rfl,hp,hc,by simp[*],λq1 tD=>?_⟩;have e1:(zs.drop j).take 1=[n]:=by rw[hd];rfl
 rw[e1];have GG:q1≠p:=λz=>by rw[z,aA]at tD;cases tD
 have ak4:H q1=none:=by rw[ay GG]at tD;exact tD
 refine⟨_,_,_,_,rfl,rfl,aB.of aA,bE rfl,?_⟩;have dI:(upd (upd H p (.ins A0.source dx (cO ci (j+1)))) q1 (.lst ([n].map V.int))) p=some (.ins A0.source dx (cO ci (j+1))):=by rw[ay (aO GG)];exact aA
 have bF:aG [p] H (upd (upd H p (.ins A0.source dx (cO ci (j+1)))) q1 (.lst ([n].map V.int))):=(aG.upd (by simp)).trans (aG.new tD);have mq:=GF hc hp bF;generalize upd (upd H p (.ins A0.source dx (cO ci (j+1)))) q1 (.lst ([n].map V.int))=H2 at dI mq bF⊢;refine⟨p,dx,ci,zs,j+1,n.toNat,?_,dI,mq,by simp[*],λq hq=>?_⟩
 ·rw[Hz h0];rfl
 have e2:zs.drop (j+1)=r:=by rw[<-qF,hd];rfl
 rw[e2];have nq:q≠p:=λz=>by rw[z,aA]at hq;cases hq
 have ajM:H2 q=none:=by rw[ay nq]at hq;exact hq
 refine k _ q (bF.trans ((aG.upd (by simp)).trans (aG.new hq))) (by rw[ay (aO nq)];exact aA) ?_ aA;cases z:H q with
 |none=>rfl
 |some o=>rw[bF _ _ z (by simp[nq])]at ajM;assumption
def dF(h:i≠j):decide (V.int i=V.int j)=false:=b7 (by simp[*])
def dT:decide (V.int i=V.int i)=true:=cq rfl
def iI(h:WqatdqNeutral.natural z b=true):∃n:Nat,z=(n:Int)/\(n:Int)<2 ^ b:=by unfold WqatdqNeutral.natural at h;rw[fo,iK,iK]at h;exact⟨z.toNat,(Hz h.1).symm,by rw[Hz h.1];simp[*]⟩
def GH(h:∀z∈l,0<=z):l.map V.int=aR (WqatdqNeutral.nats l):=by unfold aR WqatdqNeutral.nats;rw[fz];refine m9 λz hz=>?_;show V.int z=V.int ((z.toNat:Nat):Int);rw[Hz (h z hz)]
def ajN(s:State)(c:Wqatdq.Call):tw (Wqatdq.step s c).2=(((Wqatdq.step s c).2.ret::(Wqatdq.step s c).2.nums.map WqatdqNeutral.int).map V.int):=by rw[cA,fz];rfl
inductive Sf(K:aa)(A0:aL)(vs:List V)(H:Hp)(Q:VK):Prop
 |mk:∀(S:List Addr) (a:YA) (s:State) (src dx ci:Addr) (zs:List Int) (k:Nat) (c:List (List Int)) (t:List Int),vs=[.ref a.y,.ref src]->iG S H->src∈S->dk A0 (cut S H) a s->H src=some (.ins A0.source dx (cO ci k))->aB K H ci (zs.map V.int)->zs.length<=30000->Told (zs.drop k) c t->WqatdqNeutral.asked1 c=true->(∀H' a' k' p,a'.y=a.y->(∀b∈a'.L,b∈a.L\/H b=none)->aG (src::a.L) H H'->H' src=some (.ins A0.source dx (cO ci k'))->zs.drop k'=t->k<k'->k'<=zs.length->dk A0 (cut S H') a' (WqatdqNeutral.step s c).1->H p=none->H' p=some (.lst ((WqatdqNeutral.step s c).2.map V.int))->Q (.ref p) H')->Sf K A0 vs H Q
def ajO(K:aa)(A0:aL):Sp:=λvs H Q _=>Sf K A0 vs H Q
def ajP(T:Txt w K mg A0):
  b9 P w K mg base "answer_next" 24 ["yard","source"] (ajO K A0):=by
 refine cg ["yard","source","call","told","number"] T.adZ ?_;rintro nD f aU A outer s H vs Q E hr ⟨S,a,s,src,dx,ci,zs,j,c,t,rfl,dn,yi,hY,hs,hc,hz,hT,hA,k⟩;refine⟨_,(aF (bw 2 nD (bj cH (dg (qk T) hr (pv 1) (aq aP aC)) aP)) (aF (bD (bT e_ (pv 2) aP) (aH (aS (dg (aiZ T) hr (pv 0) (aq (xw (BK T) hr (pv 1)) aC)))) bH) (aF (bD (bT e_ (pv 2) aP) (aF (bw 3 nD (dg (qk T) hr (pv 1) (aq aP aC))) (aH (aS (dg (ajc T) hr (pv 0) (aq (bj cH (pv 3) aP) (aq (bj cH (pv 3) aP) (aq (bj cH (pv 3) aP) aC))))))) bH) (aF (bD (bT e_ (pv 2) aP) (aF (bw 3 nD (dg (qk T) hr (pv 1) (aq aP aC))) (aH (aS (dg (ajj T) hr (pv 0) (aq (bj cH (pv 3) aP) (aq (bj cH (pv 3) aP) aC)))))) bH) (aF (bD (bT e_ (pv 2) aP) (aF (bw 3 nD (dg (qk T) hr (pv 1) (aq aP aC))) (aH (aS (dg (ajl T) hr (pv 0) (aq (bj cH (pv 3) aP) (aq (bj cH (pv 3) aP) aC)))))) bH) (aF (bD (bT e_ (pv 2) aP) (aH (aS (dg (ajp T) hr (pv 0) (aq (xw (BK T) hr (pv 1)) aC)))) bH) (aF (bD (bT e_ (pv 2) aP) (aF (bw 4 nD (bj cH (dg (qk T) hr (pv 1) (aq aP aC)) aP)) (aH (aS (dg (ajt T) hr (pv 0) (aq (pv 4) (aq (xw (BK T) hr (pv 1)) aC)))))) bH) (aF (bD (bT e_ (pv 2) aP) (aH (aS (dg (ajv T) hr (pv 0) (aq (xw (BK T) hr (pv 1)) aC)))) bH) (aF (bD (bT e_ (pv 2) aP) (aF (bw 3 nD (dg (qk T) hr (pv 1) (aq aP aC))) (aH (aS (dg (ajy T) hr (pv 0) (aq (mw wd (pv 3) mr (i6 aP)) (aq (bj cH (pv 3) aP) aC)))))) bH) (aH TN)))))))))),?_⟩;try dsimp only[bc,Cx.bf]
 refine lR9 ?_;intro _ _ _ _ _ _ _ _ _;have yO:=(cG hY.obj).1;have vw:∀{H1:Hp},aG [src] H H1->ax (cut S H) (cut S H1):=λf=>(f.sub λb hb=>by simp_all).cut;have oF:∀{H1:Hp},aG [src] H H1->aB K H1 ci (zs.map V.int):=λf=>GF hc hs f;have oG:∀{H1:Hp} {n:Nat},aG [src] H H1->H1 src=some (.ins A0.source dx (cO ci n))->iG S H1:=λf h1 b hb=>by
  by_cases z:b=src
  ·simp[*]
  obtain⟨o,e,h⟩:=dn b hb;exact⟨o,f _ _ e (by simp[z]),h⟩
 have eZ:∀{H1:Hp},aG [src] H H1->H1 a.y=some (.ins A0.aZ a.dx (gU a)):=λf=>f _ _ (aJ _ _ hY.obj) (by grind);have ajQ:src∉a.L:=λz=>by
  unfold YA.L at z;simp only[be,fL,fM]at z;rcases z with z|z|z|z
  ·simp_all
  ·obtain⟨us,h1,_⟩:=hY.stands;exact(cG h1).1 (by rw[<-z];exact yi)
  ·exact(cG hY.times).1 (by rw[<-z];exact yi)
  exact(cG hY.ready).1 (by rw[<-z];exact yi)
 have fin:∀(x:Wqatdq.Call) (H2:Hp) (k2:Nat),WqatdqNeutral.callOf c=some x->aG [src] H H2->H2 src=some (.ins A0.source dx (cO ci k2))->zs.drop k2=t->j<k2->k2<=zs.length->gX A0 S H2 a (Wqatdq.step s x) Q:=λx H2 k2 hx fr cw hd bq hle H' a' p ey fn Sg hY' hp sx=>by
  have es:WqatdqNeutral.step s c=((Wqatdq.step s x).1,(Wqatdq.step s x).2.ret::(Wqatdq.step s x).2.nums.map WqatdqNeutral.int):=by unfold WqatdqNeutral.step;rw[hx]
  rw[es]at k;refine k H' a' k2 p ey (λb hb=>by
   rcases fn b hb with z|z
   ·exact .inl z
   refine .inr ?_;cases q:H b with
   |none=>rfl
   |some o=>
    by_cases z2:b=src
    ·lia
    rw[fr _ _ q (by simp[z2])]at z;assumption) ((fr.sub λb hb=>by rw[dA.mp hb];exact cT).trans (Sg.sub λb hb=>bU _ hb)) (Sg _ _ cw ajQ) hd bq hle hY' ?_ (by rw[sx,ajN])
  cases q:H p with
  |none=>rfl
  |some o=>
   by_cases z:p=src
   ·lia
   rw[fr _ _ q (by simp[z])]at hp;assumption
 have lz:∀{l:List Int},zs.drop j=l->zs.length=j+l.length\/l=[]:=λ{l} e=>by
  have:=gP List.length e;rw[qt]at this;by_cases h:l=[]
  ·exact .inr h
  have:=G9.mpr h;exact .inl (by lia)
 have first:∀(p0:Int) (r0:List Int),zs.drop j=p0::r0->zs.length=j+1+r0.length/\zs.drop (j+1)=r0:=λp0 r0 e=>by
  refine⟨?_,by rw[<-qF,e];rfl⟩;rcases lz e with h|h
  ·rw[bG]at h;lia
  cases h
 have vo:∀(H1:Hp) (k1 m:Nat),aG [src] H H1->H1 src=some (.ins A0.source dx (cO ci k1))->∀q,(upd H1 src (.ins A0.source dx (cO ci (k1+m)))) q=none->q≠src/\H1 q=none/\aG [src] H (upd (upd H1 src (.ins A0.source dx (cO ci (k1+m)))) q (.lst (((zs.drop k1).take m).map V.int)))/\(upd (upd H1 src (.ins A0.source dx (cO ci (k1+m)))) q (.lst (((zs.drop k1).take m).map V.int))) src=some (.ins A0.source dx (cO ci (k1+m))):=λH1 k1 m fr h1 q hq=>by
  have nq:q≠src:=λz=>by rw[z,aA]at hq;cases hq
  exact⟨nq,by rw[ay nq]at hq;exact hq,fr.trans ((aG.upd (by simp)).trans (aG.new hq)),by rw[ay (aO nq)];exact aA⟩
 obtain⟨p0,r0,e0⟩:dB λp0 r0=>zs.drop j=p0::r0:=by
  generalize zs.drop j=l at hT;cases hT with
  |row p n r hp h0 hn=>exact⟨_,_,rfl⟩
  |three x y z r=>exact⟨_,_,rfl⟩
  |two p x y r hp=>exact⟨_,_,rfl⟩
  |both i n r h0 hn=>exact⟨_,_,rfl⟩
  |four x y z n r=>exact⟨_,_,rfl⟩
 obtain⟨l0,d0⟩:=first p0 r0 e0
 refine⟨_,rfl,src,_,_,rfl,hs,rfl,src,dx,ci,zs,j,1,rfl,hs,hc,by simp[*],λq1 tD=>?_⟩;obtain⟨GG,_,eN,eM⟩:=vo H j 1 (aG.of (ax.refl _)) hs q1 tD;have eq1:(zs.drop j).take 1=[p0]:=by rw[e0];rfl
 rw[eq1]at eN eM⊢;have Sh:(upd (upd H src (.ins A0.source dx (cO ci (j+1)))) q1 (.lst ([p0].map V.int))) q1=some (.lst ([p0].map V.int)):=aA;generalize upd (upd H src (.ins A0.source dx (cO ci (j+1)))) q1 (.lst ([p0].map V.int))=H1 at eN eM Sh⊢;refine⟨_,_,_,_,rfl,rfl,aB.of Sh,bE rfl,?_⟩;rw[e0]at hT;have BL:∀{k1:Nat} {n:Int} {r:List Int},zs.drop k1=n::r->zs.drop (k1+1+n.toNat)=r.drop n.toNat:=λ{k1 n r} e=>by rw[<-qF,<-qF,e];rfl
 have yS:∀{k1:Nat} {l:List Int},zs.drop k1=l->l.length=zs.length - k1:=λe=>by rw[<-e,qt]
 cases hT with
 |row p n r hp h0 hn=>
  have lr:=yS d0;rw[bG]at lr;have tl:(r.take n.toNat).length=n.toNat:=by rw[dQ];exact vG hn
  have nl:(WqatdqNeutral.nats (r.take n.toNat)).length<=40000:=by unfold WqatdqNeutral.nats;rw[aT,tl];omega
  rcases hp with rfl|rfl|rfl
  ·refine⟨_,rfl,rfl,_,rfl,?_⟩;rw[dT];refine bA ⟨_,rfl,a.y,_,_,rfl,eZ eN,mR a (by decide +kernel),_,rfl,src,_,_,rfl,eM,rfl,src,dx,ci,zs,j+1,n,r,rfl,eM,oF eN,d0,h0,hn,λH2 q bF cw GJ hq=>?_⟩;have lY:=eN.trans bF;refine⟨S,a,s,q,r.take n.toNat,rfl,oG lY cw,hY.mono (vw lY),hq,λz hz=>?_,fin (.read (WqatdqNeutral.bytes (r.take n.toNat))) H2 _ rfl lY cw (BL d0) (by omega) (by omega)⟩;have hA:=hA;obtain⟨m,rfl,hm⟩:=iI (l7.mp hA z hz);exact⟨by omega,by omega⟩
  ·have hA:=hA
   have yT:∀z∈r.take n.toNat,0<=z:=λz hz=>by obtain⟨m,rfl,_⟩:=iI (l7.mp hA z hz);omega
   refine⟨_,rfl,rfl,_,rfl,?_⟩;rw[dF (by decide)];refine bg ⟨_,rfl,rfl,_,rfl,?_⟩;rw[dF (by decide)];refine bg ⟨_,rfl,rfl,_,rfl,?_⟩;rw[dF (by decide)];refine bg ⟨_,rfl,rfl,_,rfl,?_⟩;rw[dF (by decide)];refine bg ⟨_,rfl,rfl,_,rfl,?_⟩;rw[dT];refine bA ⟨_,rfl,a.y,_,_,rfl,eZ eN,mR a (by decide +kernel),_,rfl,src,_,_,rfl,eM,rfl,src,dx,ci,zs,j+1,n,r,rfl,eM,oF eN,d0,h0,hn,λH2 q bF cw GJ hq=>?_⟩;have lY:=eN.trans bF;rw[GH yT]at hq;exact⟨S,a,s,q,WqatdqNeutral.nats (r.take n.toNat),rfl,(oG lY cw).a_,hY.mono (vw lY),hq,nl,fin (.times (WqatdqNeutral.nats (r.take n.toNat))) H2 _ rfl lY cw (BL d0) (by omega) (by omega)⟩
  have hA:=hA;have yT:∀z∈r.take n.toNat,0<=z:=λz hz=>by obtain⟨m,rfl,_⟩:=iI (l7.mp hA z hz);omega
  refine⟨_,rfl,rfl,_,rfl,?_⟩;rw[dF (by decide)];refine bg ⟨_,rfl,rfl,_,rfl,?_⟩;rw[dF (by decide)];refine bg ⟨_,rfl,rfl,_,rfl,?_⟩;rw[dF (by decide)];refine bg ⟨_,rfl,rfl,_,rfl,?_⟩;rw[dF (by decide)];refine bg ⟨_,rfl,rfl,_,rfl,?_⟩;rw[dF (by decide)];refine bg ⟨_,rfl,rfl,_,rfl,?_⟩;rw[dF (by decide)];refine bg ⟨_,rfl,rfl,_,rfl,?_⟩;rw[dT];refine bA ⟨_,rfl,a.y,_,_,rfl,eZ eN,mR a (by decide +kernel),_,rfl,src,_,_,rfl,eM,rfl,src,dx,ci,zs,j+1,n,r,rfl,eM,oF eN,d0,h0,hn,λH2 q bF cw GJ hq=>?_⟩;have lY:=eN.trans bF;rw[GH yT]at hq;exact⟨S,a,s,q,WqatdqNeutral.nats (r.take n.toNat),rfl,(oG lY cw).a_,hY.mono (vw lY),hq,nl,fin (.chain (WqatdqNeutral.nats (r.take n.toNat))) H2 _ rfl lY cw (BL d0) (by omega) (by omega)⟩
 |three x y z r=>
  have hA:(WqatdqNeutral.natural x 32&&WqatdqNeutral.natural y 32&&WqatdqNeutral.natural z 32)=true:=hA;rw[fo,fo]at hA;obtain⟨x,rfl,_⟩:=iI hA.1.1;obtain⟨y,rfl,_⟩:=iI hA.1.2;obtain⟨z,rfl,_⟩:=iI hA.2;have lr:=yS d0;simp only[bG]at lr;refine⟨_,rfl,rfl,_,rfl,?_⟩;rw[dF (by decide)];refine bg ⟨_,rfl,rfl,_,rfl,?_⟩;rw[dT];refine bA ⟨_,rfl,src,_,_,rfl,eM,rfl,src,dx,ci,zs,j+1,3,rfl,eM,oF eN,by omega,λq2 ja=>?_⟩;obtain⟨BM,_,bF,cw⟩:=vo H1 (j+1) 3 eN eM q2 ja;have eq2:(zs.drop (j+1)).take 3=[(x:Int),(y:Int),(z:Int)]:=by rw[d0];rfl
  rw[eq2]at bF cw⊢;have gM:(upd (upd H1 src (.ins A0.source dx (cO ci (j+1+3)))) q2 (.lst ([(x:Int),(y:Int),(z:Int)].map V.int))) q2=some (.lst ([(x:Int),(y:Int),(z:Int)].map V.int)):=aA;generalize upd (upd H1 src (.ins A0.source dx (cO ci (j+1+3)))) q2 (.lst ([(x:Int),(y:Int),(z:Int)].map V.int))=H2 at bF cw gM⊢;exact⟨_,rfl,a.y,_,_,rfl,eZ bF,mR a (by decide +kernel),_,rfl,_,_,_,_,rfl,rfl,aB.of gM,bE rfl,_,rfl,_,_,_,_,rfl,rfl,aB.of gM,bE rfl,_,rfl,_,_,_,_,rfl,rfl,aB.of gM,bE rfl,S,a,s,x,y,z,rfl,(oG bF cw).a_,hY.mono (vw bF),fin (.place x y z) H2 _ rfl bF cw (by rw[<-qF,d0];rfl) (by omega) (by omega)⟩
 |two p x y r hp=>
  have lr:=yS d0;simp only[bG]at lr;rcases hp with rfl|rfl
  ·have hA:(WqatdqNeutral.natural x 32&&WqatdqNeutral.natural y 32)=true:=hA
   rw[fo]at hA;obtain⟨x,rfl,_⟩:=iI hA.1;obtain⟨y,rfl,_⟩:=iI hA.2;refine⟨_,rfl,rfl,_,rfl,?_⟩;rw[dF (by decide)];refine bg ⟨_,rfl,rfl,_,rfl,?_⟩;rw[dF (by decide)];refine bg ⟨_,rfl,rfl,_,rfl,?_⟩;rw[dT];refine bA ⟨_,rfl,src,_,_,rfl,eM,rfl,src,dx,ci,zs,j+1,2,rfl,eM,oF eN,by omega,λq2 ja=>?_⟩;obtain⟨BM,_,bF,cw⟩:=vo H1 (j+1) 2 eN eM q2 ja;have eq2:(zs.drop (j+1)).take 2=[(x:Int),(y:Int)]:=by rw[d0];rfl
   rw[eq2]at bF cw⊢;have gM:(upd (upd H1 src (.ins A0.source dx (cO ci (j+1+2)))) q2 (.lst ([(x:Int),(y:Int)].map V.int))) q2=some (.lst ([(x:Int),(y:Int)].map V.int)):=aA;generalize upd (upd H1 src (.ins A0.source dx (cO ci (j+1+2)))) q2 (.lst ([(x:Int),(y:Int)].map V.int))=H2 at bF cw gM⊢;exact⟨_,rfl,a.y,_,_,rfl,eZ bF,mR a (by decide +kernel),_,rfl,_,_,_,_,rfl,rfl,aB.of gM,bE rfl,_,rfl,_,_,_,_,rfl,rfl,aB.of gM,bE rfl,S,a,s,x,y,rfl,(oG bF cw).a_,hY.mono (vw bF),fin (.takes x y) H2 _ rfl bF cw (by rw[<-qF,d0];rfl) (by omega) (by omega)⟩
  have hA:(WqatdqNeutral.natural x 32&&WqatdqNeutral.natural y 32)=true:=hA;rw[fo]at hA;obtain⟨x,rfl,_⟩:=iI hA.1;obtain⟨y,rfl,_⟩:=iI hA.2;refine⟨_,rfl,rfl,_,rfl,?_⟩;rw[dF (by decide)];refine bg ⟨_,rfl,rfl,_,rfl,?_⟩;rw[dF (by decide)];refine bg ⟨_,rfl,rfl,_,rfl,?_⟩;rw[dF (by decide)];refine bg ⟨_,rfl,rfl,_,rfl,?_⟩;rw[dT];refine bA ⟨_,rfl,src,_,_,rfl,eM,rfl,src,dx,ci,zs,j+1,2,rfl,eM,oF eN,by omega,λq2 ja=>?_⟩;obtain⟨BM,_,bF,cw⟩:=vo H1 (j+1) 2 eN eM q2 ja;have eq2:(zs.drop (j+1)).take 2=[(x:Int),(y:Int)]:=by rw[d0];rfl
  rw[eq2]at bF cw⊢;have gM:(upd (upd H1 src (.ins A0.source dx (cO ci (j+1+2)))) q2 (.lst ([(x:Int),(y:Int)].map V.int))) q2=some (.lst ([(x:Int),(y:Int)].map V.int)):=aA;generalize upd (upd H1 src (.ins A0.source dx (cO ci (j+1+2)))) q2 (.lst ([(x:Int),(y:Int)].map V.int))=H2 at bF cw gM⊢;exact⟨_,rfl,a.y,_,_,rfl,eZ bF,mR a (by decide +kernel),_,rfl,_,_,_,_,rfl,rfl,aB.of gM,bE rfl,_,rfl,_,_,_,_,rfl,rfl,aB.of gM,bE rfl,S,a,s,x,y,rfl,(oG bF cw).a_,hY.mono (vw bF),fin (.ready x y) H2 _ rfl bF cw (by rw[<-qF,d0];rfl) (by omega) (by omega)⟩
 |both i n r h0 hn=>
  have hA:(WqatdqNeutral.natural i 32&&(r.take n.toNat).all (λz=>WqatdqNeutral.natural z 32))=true:=hA;rw[fo]at hA;obtain⟨i,rfl,_⟩:=iI hA.1;have yT:∀z∈r.take n.toNat,0<=z:=λz hz=>by obtain⟨m,rfl,_⟩:=iI (l7.mp hA.2 z hz);omega
  have lr:=yS d0;simp only[bG]at lr;have tl:(r.take n.toNat).length=n.toNat:=by rw[dQ];exact vG hn
  have nl:(WqatdqNeutral.nats (r.take n.toNat)).length<=40000:=by unfold WqatdqNeutral.nats;rw[aT,tl];omega
  have d1:zs.drop (j+1+1)=n::r:=by rw[<-qF,d0];rfl
  refine⟨_,rfl,rfl,_,rfl,?_⟩;rw[dF (by decide)];refine bg ⟨_,rfl,rfl,_,rfl,?_⟩;rw[dF (by decide)];refine bg ⟨_,rfl,rfl,_,rfl,?_⟩;rw[dF (by decide)];refine bg ⟨_,rfl,rfl,_,rfl,?_⟩;rw[dF (by decide)];refine bg ⟨_,rfl,rfl,_,rfl,?_⟩;rw[dF (by decide)];refine bg ⟨_,rfl,rfl,_,rfl,?_⟩;rw[dT];refine bA ⟨_,rfl,src,_,_,rfl,eM,rfl,src,dx,ci,zs,j+1,1,rfl,eM,oF eN,by omega,λq2 ja=>?_⟩;obtain⟨BM,_,bF,cw⟩:=vo H1 (j+1) 1 eN eM q2 ja;have eq2:(zs.drop (j+1)).take 1=[(i:Int)]:=by rw[d0];rfl
  rw[eq2]at bF cw⊢;have gM:(upd (upd H1 src (.ins A0.source dx (cO ci (j+1+1)))) q2 (.lst ([(i:Int)].map V.int))) q2=some (.lst ([(i:Int)].map V.int)):=aA;generalize upd (upd H1 src (.ins A0.source dx (cO ci (j+1+1)))) q2 (.lst ([(i:Int)].map V.int))=H2 at bF cw gM⊢;refine⟨_,_,_,_,rfl,rfl,aB.of gM,bE rfl,?_⟩;refine⟨_,rfl,a.y,_,_,rfl,eZ bF,mR a (by decide +kernel),_,rfl,_,rfl,src,_,_,rfl,cw,rfl,src,dx,ci,zs,j+1+1,n,r,rfl,cw,oF bF,d1,h0,hn,λH3 q b8 lC GJ hq=>?_⟩;have GK:=bF.trans b8;rw[GH yT]at hq;exact⟨S,a,s,q,i,WqatdqNeutral.nats (r.take n.toNat),rfl,(oG GK lC).a_,hY.mono (vw GK),hq,nl,fin (.slack i (WqatdqNeutral.nats (r.take n.toNat))) H3 _ rfl GK lC (BL d1) (by omega) (by omega)⟩
 |four x y z n r=>
  have hA:(WqatdqNeutral.natural x 32&&WqatdqNeutral.natural y 32&&WqatdqNeutral.natural z 32&&WqatdqNeutral.natural n 32)=true:=hA;rw[fo,fo,fo]at hA;obtain⟨x,rfl,_⟩:=iI hA.1.1.1;obtain⟨y,rfl,_⟩:=iI hA.1.1.2;obtain⟨z,rfl,_⟩:=iI hA.1.2;obtain⟨n,rfl,_⟩:=iI hA.2;have lr:=yS d0;simp only[bG]at lr;refine⟨_,rfl,rfl,_,rfl,?_⟩;rw[dF (by decide)];refine bg ⟨_,rfl,rfl,_,rfl,?_⟩;rw[dF (by decide)];refine bg ⟨_,rfl,rfl,_,rfl,?_⟩;rw[dF (by decide)];refine bg ⟨_,rfl,rfl,_,rfl,?_⟩;rw[dF (by decide)];refine bg ⟨_,rfl,rfl,_,rfl,?_⟩;rw[dF (by decide)];refine bg ⟨_,rfl,rfl,_,rfl,?_⟩;rw[dF (by decide)];refine bg ⟨_,rfl,rfl,_,rfl,?_⟩;rw[dF (by decide)];refine bg ⟨_,rfl,rfl,_,rfl,?_⟩;rw[dT];refine bA ⟨_,rfl,src,_,_,rfl,eM,rfl,src,dx,ci,zs,j+1,4,rfl,eM,oF eN,by omega,λq2 ja=>?_⟩;obtain⟨BM,_,bF,cw⟩:=vo H1 (j+1) 4 eN eM q2 ja;have eq2:(zs.drop (j+1)).take 4=[(x:Int),(y:Int),(z:Int),(n:Int)]:=by rw[d0];rfl
  rw[eq2]at bF cw⊢;have gM:(upd (upd H1 src (.ins A0.source dx (cO ci (j+1+4)))) q2 (.lst ([(x:Int),(y:Int),(z:Int),(n:Int)].map V.int))) q2=some (.lst ([(x:Int),(y:Int),(z:Int),(n:Int)].map V.int)):=aA;generalize upd (upd H1 src (.ins A0.source dx (cO ci (j+1+4)))) q2 (.lst ([(x:Int),(y:Int),(z:Int),(n:Int)].map V.int))=H2 at bF cw gM⊢;refine⟨_,rfl,a.y,_,_,rfl,eZ bF,mR a (by decide +kernel),_,rfl,_,rfl,_,_,rfl,aB.of gM,λq3 Si=>?_⟩;have ec:f_ ([(x:Int),(y:Int),(z:Int),(n:Int)].map V.int) none (some 3)=aR [x,y,z]:=O4 _ 3 (by show 3<=4;decide);rw[ec];have s3:=ax.new (o:=.lst (aR [x,y,z])) Si;have b8:=bF.trans (aG.of s3);have lC:=s3 _ _ cw;have ajS:cut S (upd H2 q3 (.lst (aR [x,y,z]))) q3=some (.lst (aR [x,y,z])):=eE (oG bF cw).a_ Si aA;exact⟨_,rfl,_,_,_,_,rfl,rfl,aB.of (s3 _ _ gM),bE rfl,S,a,s,q3,x,y,z,n,rfl,(oG b8 lC).a_,hY.mono (vw b8),ajS,fin (.best x y z n) _ _ rfl b8 lC (by rw[<-qF,d0];rfl) (by omega) (by omega)⟩
def pH(h:∀ms x,(f ms x).nums.length<=130):(Wqatdq.ofMoves s l f).nums.length<=130:=by
 unfold Wqatdq.ofMoves;cases Wqatdq.movesIn l with
 |none=>exact bL _
 |some ms=>
  simp only;split
  ·exact bL _
  cases Wqatdq.timed s ms with
  |error j=>show 1<=130;decide
  |ok x=>exact h ms x
theorem ajT(G:Yn.Good s)(c:Wqatdq.Call):(Wqatdq.step s c).2.nums.length<=130:=by
 cases c with
 |read x=>
  show((if _ then _ else _:State×Ans)).2.nums.length<=130;split
  ·exact bL _
  cases Yh.readPlan x with
  |error e=>show 2<=130;decide
  |ok P=>show((if _ then _ else _:State×Ans)).2.nums.length<=130;split<;>exact bL _
 |place t i e=>
  show((if _ then _ else if _ then _ else if _ then _ else _:State×Ans)).2.nums.length<=130;split
  ·exact bL _
  split
  ·exact bL _
  split<;>exact bL _
 |takes i n=>
  show((if _ then _ else if _ then _ else _:State×Ans)).2.nums.length<=130;split
  ·exact bL _
  split<;>exact bL _
 |ready t n=>show((if _ then _ else _:State×Ans)).2.nums.length<=130;split<;>exact bL _
 |times l=>
  show(Wqatdq.told s (.times l)).nums.length<=130;rw[Yn.Mu G];have hl:=vn s l;split
  ·exact bL _
  split
  ·show 1<=130;decide
  have:=Yn.lM (λx:Yn.Mv×Nat=>[x.2,x.2+x.1.bS]) 2 (bu s l) λ_ _=>aW _;show((bu s l).flatMap _).length<=130;lia
 |slack j l=>
  refine pH λms x=>?_;unfold Wqatdq.slackTold;split
  ·exact bL _
  simp only;split<;>exact bL _
 |chain l=>
  show(Wqatdq.told s (.chain l)).nums.length<=130;rw[Yn.Mw G];have hl:=vn s l;split
  ·exact bL _
  split
  ·show 1<=130;decide
  have:=RU (bu s l);show(iB (bu s l)).length<=130;lia
 |best a b c n=>
  show(Wqatdq.bestTold s a b c n).nums.length<=130;rw[Yn.MG G];split
  ·exact bL _
  split
  ·exact bL _
  rename_i h1 h2;have kb:eO s n=Yn.dh s.plan s.routes s.takes s.ready n ⟨s.at_,[]⟩:=rfl;rw[<-kb];cases q:cS [a,b,c] none (eO s n)with
  |none=>exact bL _
  |some r=>
   have u_:r.h.length<=5:=by
    rcases Yn.uH (eO s n) none with⟨e,_⟩|⟨r',A',B',e,eL,_⟩
    ·rw[q]at e;cases e
    rw[q]at e;obtain rfl:=bC e;have hm:r∈eO s n:=by rw[eL];simp
    obtain⟨i,hi,hl⟩:=Yn.uI.mp hm;rw[Gh hl];lia
   have:=Yn.lM (λm:Yh.Move=>[m.1,m.2]) 2 r.moves λ_ _=>aW _;have lm:r.moves.length=r.h.length:=aT _;show(r.h.length::r.moves.flatMap _).length<=130;rw[bG];lia
def ajU(G:Yn.Good s)(c:List (List Int)):(WqatdqNeutral.step s c).2.length<=131:=by
 unfold WqatdqNeutral.step;cases WqatdqNeutral.callOf c with
 |none=>exact bL _
 |some x=>have:=ajT G x;simp[*]
def Sj(h:PyFlat.calls PyWqatdq.shape f (p::r)=some cs):k9 λf' c t tE=>fN (PyFlat.call PyWqatdq.shape (p::r)=some (c,t)) (PyFlat.calls PyWqatdq.shape f' t=some tE) (cs=c::tE):=by
 cases f with
 |zero=>cases h
 |succ f=>
  have h:(match PyFlat.call PyWqatdq.shape (p::r)with
   |none=>none
   |some (c,t)=>match PyFlat.calls PyWqatdq.shape f t with
    |none=>none
    |some cs=>some (c::cs))=some cs:=h
  cases q:PyFlat.call PyWqatdq.shape (p::r)with
  |none=>simp_all
  |some ct=>
   obtain⟨c,t⟩:=ct;rw[q]at h;simp only at h;cases q2:PyFlat.calls PyWqatdq.shape f t with
   |none=>simp_all
   |some tE=>rw[q2]at h;simp only at h;exact⟨f,c,t,tE,rfl,q2,(bC h).symm⟩
def Sk(h:PyFlat.calls PyWqatdq.shape f []=some cs):cs=[]:=by
 cases f with
 |zero=>exact(bC h).symm
 |succ f=>exact(bC h).symm
def ajV(h:PyFlat.calls PyWqatdq.shape f l=some cs):cs.map PyWqatdq.whole=cs:=by
 induction cs generalizing f l with
 |nil=>rfl
 |cons c cs ih=>
  cases l with
  |nil=>cases Sk h
  |cons p r=>
   obtain⟨_,_,_,_,h1,h2,h3⟩:=Sj h;cases h3;rw[cA,ih h2];congr 1;cases R0 h1 with
   |row _ _ _ hp=>rcases hp with rfl|rfl|rfl<;>rfl
   |two _ _ _ _ hp=>rcases hp with rfl|rfl<;>rfl
   |_=>rfl
def ajW(h:PyWqatdq.answers_asked zs=true):∃cs,gR (PyFlat.calls PyWqatdq.shape zs.length zs=some cs) (cs.length<=400) (∀c∈cs,WqatdqNeutral.asked1 c=true) (PyWqatdq.answers zs=PyFlat.told (PyFlat.played WqatdqNeutral.step WqatdqNeutral.start cs)):=by
 have ec:PyWqatdq.calls zs=PyFlat.calls PyWqatdq.shape zs.length zs:=by
  unfold PyWqatdq.calls;cases q:PyFlat.calls PyWqatdq.shape zs.length zs with
  |none=>rfl
  |some cs=>show some (cs.map PyWqatdq.whole)=_;rw[ajV q]
 unfold PyWqatdq.answers_asked at h;unfold PyWqatdq.answers;rw[ec]at h⊢;cases q:PyFlat.calls PyWqatdq.shape zs.length zs with
 |none=>simp_all
 |some cs=>rw[q]at h;simp only at h;rw[fo]at h;have h2:=h.2;unfold WqatdqNeutral.asked at h2;rw[fo,fo,fo]at h2;exact⟨cs,rfl,Cb h2.1.2,l7.mp h2.1.1.1,rfl⟩
inductive Sl(K:aa)(vs:List V)(H:Hp)(Q:VK):Prop
 |mk:∀(ci:Addr) (zs:List Int),vs=[.ref ci]->aB K H ci (zs.map V.int)->zs.length<=30000->PyWqatdq.answers_asked zs=true->(∀(H':Hp) (p:Addr),H' p=some (.lst ((PyWqatdq.answers zs).map V.int))->Q (.ref p) H')->Sl K vs H Q
def GL(K:aa):Sp:=λvs H Q _=>Sl K vs H Q
def ajX(T:Txt w K mg A0):mM P w K mg base "Yard" A0.aZ 3 ["self"] (RB A0):=sh (aiW T) T.ab9 T.ab_ T.ab8
def ajY(T:Txt w K mg A0):mM P w K mg base "Source" A0.source 1 ["self","supply"] (Sa A0):=sh (ajH T) T.acb T.acd T.aca
def ajZ(T:Txt w K mg A0)(X:pb K "answers" "answers" AJ f fd):
  hJ P w K mg base lE 25 f fd ["calls"] (GL K):=by
 refine X.ok xy (λvs H Q E h=>?_) (λaU A outer s H vs Q E hr h=>?_)
 ·obtain⟨ci,zs,rfl,_⟩:=h;rfl
 obtain⟨ci,zs,rfl,hci,hlen,GN,k⟩:=h;refine⟨_,(aF (bw 1 xy.nd (ED (ajX T) hr)) (aF (bw 2 xy.nd (pN (ajY T) hr (aq (pv 0) aC))) (aF (bw 3 xy.nd (cf aC)) (aF (H_ fW (ni (gv (xw (ajJ T) hr (pv 2)))) (aF (bw 4 xy.nd (bB (ajP T) hr (aq (pv 1) (aq (pv 2) aC)))) (aF (i3 (jy jT vI vJ rf (pv 3) (aq (cR eU rfl T.eJ eI (aq (pv 4) aC)) aC))) (aH (i3 (jy jT Cd Ce we (pv 3) (aq (pv 4) aC))))))) (aH (aS (pv 3))))))),?_⟩;try dsimp only[bc,Cx.bf]
 refine pM ?_;intro _ _ _ _;obtain⟨BN,gH,ak5,cx,aj1⟩:=ajW GN;rw[aj1]at k;intro y dy ny ndy ney;refine⟨[],H,y,dy,rfl,ny,ndy,ney,rfl,(λb hb=>by simp_all),λH1 a ea fn1 s1 hY1=>⟨rfl,?_⟩⟩;refine⟨_,rfl,?_⟩;intro src dx ns Sm pS;refine⟨src,dx,ci,rfl,aA,rfl,?_⟩;rw[e8];have s2:=s1.trans (fI (o:=.ins A0.source dx (cO ci 0)) ns Sm);have ak6:=s1.free ns;have cw:(upd (upd H1 dx (.own src)) src (.ins A0.source dx (cO ci 0))) src=some (.ins A0.source dx (cO ci 0)):=aA;have Sn:dk A0 (cut [src] (upd (upd H1 dx (.own src)) src (.ins A0.source dx (cO ci 0)))) a Wqatdq.start:=hY1.mono (sN ns (fI ns Sm));generalize upd (upd H1 dx (.own src)) src (.ins A0.source dx (cO ci 0))=H2 at s2 cw Sn⊢;refine⟨bL _,λtl dE=>?_⟩;have s3:=s2.trans (ax.new (o:=.lst []) dE);have tl0:=s2.free dE;have BG:tl≠src:=λz=>by simp_all
 have lC:(upd H2 tl (.lst [])) src=some (.ins A0.source dx (cO ci 0)):=ax.new dE _ _ cw;have tz:dk A0 (cut [tl,src] (upd H2 tl (.lst []))) a Wqatdq.start:=Sn.mono (sN dE (ax.new dE));have So:(upd H2 tl (.lst [])) tl=some (.lst []):=aA;generalize upd H2 tl (.lst [])=H3 at s3 lC tz So⊢;refine⟨λm σ H'=>tR λ(a:YA) (s:State) (j:Nat) (cs:List (List (List Int))) (acc:List Int) (v4:Option V) (fu:Nat)=>Cn (σ=[some (.ref ci),some (.ref a.y),some (.ref src),some (.ref tl),v4]) (m=zs.length - j) (ax H H') (∀b∈a.L,H b=none) (H' src=some (.ins A0.source dx (cO ci j))) (H' tl=some (.lst (acc.map V.int))) (dk A0 (cut [tl,src] H') a s) (j<=zs.length) (PyFlat.calls PyWqatdq.shape fu (zs.drop j)=some cs) (∀c∈cs,WqatdqNeutral.asked1 c=true) (PyFlat.told (PyFlat.played WqatdqNeutral.step WqatdqNeutral.start BN)=acc++PyFlat.told (PyFlat.played WqatdqNeutral.step s cs)) (acc.length+132*cs.length<=60000),?_,?_⟩
 ·exact⟨_,a,Wqatdq.start,0,BN,[],none,zs.length,by rw[ea];rfl,rfl,s3,fn1,lC,So,tz,bL _,by assumption,cx,rfl,by show 0+_<=_;lia⟩
 rintro m σ H' ⟨a,s,j,cs,acc,v4,fu,rfl,rfl,sm,fn,hs,Sq,hY,hj,gH,cx,heq,vc⟩;have Sr:=ajG hci λo e=>sm _ _ e
 refine⟨_,rfl,src,_,_,rfl,hs,rfl,src,dx,ci,zs,j,rfl,hs,Sr,_,rfl,?_⟩;by_cases nL:j=zs.length
 ·rw[cq nL]
  refine bg ?_;rw[nL,List.drop_length]at gH;have e:=Sk gH;subst e;have heq:PyFlat.told (PyFlat.played WqatdqNeutral.step WqatdqNeutral.start BN)=acc:=by rw[heq];show acc++[]=acc;simp[*]
  rw[heq]at k;exact⟨_,rfl,k H' tl Sq⟩
 rw[b7 nL];refine bA ?_;obtain⟨p0,r0,e0⟩:dB λp0 r0=>zs.drop j=p0::r0:=by
  cases q:zs.drop j with
  |nil=>have:=gP List.length q;rw[qt]at this;have e:([]:List Int).length=0:=rfl;rw[e]at this;grind
  |cons p r=>exact⟨p,r,rfl⟩
 have Ss:=gH;rw[e0]at Ss;obtain⟨f',c,t,tE,aj7,aj8,rfl⟩:=Sj Ss;have hT:=R0 aj7;rw[<-e0]at hT;refine⟨λσ' kL=>∃m',m'<zs.length - j/\tR λ(a:YA) (s:State) (j:Nat) (cs:List (List (List Int))) (acc:List Int) (v4:Option V) (fu:Nat)=>Cn (σ'=[some (.ref ci),some (.ref a.y),some (.ref src),some (.ref tl),v4]) (m'=zs.length - j) (ax H kL) (∀b∈a.L,H b=none) (kL src=some (.ins A0.source dx (cO ci j))) (kL tl=some (.lst (acc.map V.int))) (dk A0 (cut [tl,src] kL) a s) (j<=zs.length) (PyFlat.calls PyWqatdq.shape fu (zs.drop j)=some cs) (∀c∈cs,WqatdqNeutral.asked1 c=true) (PyFlat.told (PyFlat.played WqatdqNeutral.step WqatdqNeutral.start BN)=acc++PyFlat.told (PyFlat.played WqatdqNeutral.step s cs)) (acc.length+132*cs.length<=60000),λσ' kL q=>q,?_⟩;have dn:iG [tl,src] H':=λb hb=>by grind
 have tlL:tl∉a.L:=λz=>by
  unfold YA.L at z;simp only[be,fL,fM]at z;rcases z with z|z|z|z
  ·exact(cG hY.obj).1 (by rw[<-z];simp)
  ·obtain⟨us,h1,_⟩:=hY.stands;exact(cG h1).1 (by rw[<-z];simp)
  ·exact(cG hY.times).1 (by rw[<-z];simp)
  exact(cG hY.ready).1 (by rw[<-z];simp)
 refine⟨_,rfl,_,rfl,[tl,src],a,s,src,dx,ci,zs,j,c,t,rfl,dn,by simp,hY,hs,Sr,hlen,hT,cx c cT,λH4 a' k' p ey fn4 gk C8 lU bq hle hY4 hp sx=>?_⟩;have Su:=gk _ _ Sq (by simp[BG,tlL]);have npt:p≠tl:=λz=>by simp_all
 have rh:=ajU hY.good c;refine⟨_,rfl,.inl ⟨rfl,_,aB.of Su⟩,_,rfl,_,_,rfl,.inl (aB.of sx),tl,_,_,rfl,rfl,Su,by rw[aT,bP];lia,?_⟩;refine⟨_,rfl,.inl ⟨rfl,_,aB.of aA⟩,_,rfl,tl,p,_,_,rfl,rfl,aA,by rw[ay npt];exact sx,by rw[cX,aT,aT,bP];simp only[bG,dR]at vc⊢;lia,?_⟩;rw[e8];have GO:ax H (upd H4 tl (.lst (acc.map V.int++[V.int ((((WqatdqNeutral.step s c).2.map V.int).length:Nat):Int)]++(WqatdqNeutral.step s c).2.map V.int))):=λb o e=>by rw[ay (bz e tl0)];refine gk _ _ (sm _ _ e) λz=>?_;grind
 have GP:acc.map V.int++[V.int ((((WqatdqNeutral.step s c).2.map V.int).length:Nat):Int)]++(WqatdqNeutral.step s c).2.map V.int=(acc++(((WqatdqNeutral.step s c).2.length:Int)::(WqatdqNeutral.step s c).2)).map V.int:=by simp[*]
 rw[GP]at GO;refine⟨zs.length - k',by grind,a',(WqatdqNeutral.step s c).1,k',tE,acc++(((WqatdqNeutral.step s c).2.length:Int)::(WqatdqNeutral.step s c).2),some (.ref p),f',by simp[*],rfl,?_,?_,?_,?_,?_,hle,by rw[lU];exact aj8,λc hc=>cx c (bU _ hc),?_,?_⟩
 ·rw[<-GP]at GO;exact GO
 ·intro b hb
  rcases fn4 b hb with z|z
  ·exact fn b z
  exact sm.free z
 ·rw[ay (aO BG)];exact C8
 ·rw[aA,<-GP]
 ·rw[mS (by simp)];exact hY4
 ·rw[heq];show acc++((((WqatdqNeutral.step s c).2.length:Int)::(WqatdqNeutral.step s c).2)++PyFlat.told (PyFlat.played WqatdqNeutral.step (WqatdqNeutral.step s c).1 tE))=_;simp[*]
 rw[cX,bG];rw[bG]at vc;lia
def tf{x:Str}{st:Stmt}{f:Addr}{oc:ao}{od an:Option Addr}{jw:Array (Option ao)}{kV doc pm aU ct:ao}(X:K.In h)(G:h.Ns mainGlobals mg)(a:PySem.W.nsIn K mainGlobals x=some (some (.ref f)))
  (l:K.lookup f=some ⟨oc,od,.func (PySem.W.fnOf x x (rJ st) (mD st) (hW st) .none kV doc pm an aU ct),jw⟩)(c:PySem.W.codeIn K aU x=true)(k:PySem.W.keepIn K (.ref f)=true):b5 K mg x st:=
 ⟨f,_,KP l c k,PySem.W.mg_of X G a⟩
def tm{C:Addr}{m qual:Str}{st:Stmt}{f:Addr}{oc:ao}{od an:Option Addr}{jw:Array (Option ao)}{kV doc pm aU ct:ao}(a:PySem.W.findIn K (.ref C) m=some (some (.ref f)))(i:PySem.W.isFn K (.ref f)=true)
  (l:K.lookup f=some ⟨oc,od,.func (PySem.W.fnOf m qual (rJ st) (mD st) (hW st) .none kV doc pm an aU ct),jw⟩)(c:PySem.W.codeIn K aU qual=true)(k:PySem.W.keepIn K (.ref f)=true):df K C m qual st:=
 ⟨f,_,KP l c k,a,i,k⟩
def gi{x:Str}{i:Int}{t:Tok}(X:K.In h)(G:h.Ns mainGlobals mg)(a:PySem.W.nsIn K mainGlobals x=some (some (.int i t))):GI mg x i:=⟨t,PySem.W.mg_of X G a⟩
def gs{x y:Str}{t:Tok}(X:K.In h)(G:h.Ns mainGlobals mg)(a:PySem.W.nsIn K mainGlobals x=some (some (.str y t))):GS mg x y:=⟨t,PySem.W.mg_of X G a⟩
inductive ql(p:Params):List (Str×V)->List DictEntry->Prop
 |nil:ql p [] []
 |cons {x:Str} {t:Tok} {v:V} {u:ao} {hh:Int} {tab:List (Str×V)} {es:List DictEntry}:hh=PyData.keyHash p x->RelV v u->ql p tab es->ql p ((x,v)::tab) (⟨hh,.str x t,u⟩::es)
def ql.keys{p:Params}{tab:List (Str×V)}{es:List DictEntry}(h:ql p tab es):PySem.W.KeysLit p es:=by
 induction h with
 |nil=>trivial
 |cons a b c ih=>exact⟨⟨_,_,rfl,a⟩,ih⟩
def ql.rel{p:Params}{tab:List (Str×V)}{es:List DictEntry}(h:ql p tab es)(x:Str):gp (tab.lookup x) (findBy Value.isStrOf es.toArray x):=by
 unfold findBy;rw[List.find?_toArray];induction h with
 |nil=>exact trivial
 |@cons y t v u hh tab es a b c ih=>
  rw[qw];by_cases e:x=y
  ·subst e
   have e1:Value.isStrOf x (Value.str x t)=true:=by simp[Value.isStrOf]
   rw[List.lookup_cons_self];simp only[e1];exact b
  have e1:Value.isStrOf x (Value.str y t)=false:=by
   cases q:Value.isStrOf x (Value.str y t)with
   |false=>rfl
   |true=>obtain⟨t',q⟩:=Value.isStrOf_shape q;cases q;exact absurd rfl e
  rw[BV,HA e];simp only[e1];exact ih
def md{w:ah}{a:Addr}{n:Nat}{tab:List (Str×V)}{es:List DictEntry}(l:K.lookup a=some ⟨.type "dict",none,.dict es.toArray n,#[]⟩)(e:ql w.params tab es)(s:(a==sysModules)=false):MD w K a tab:=⟨⟨_,n,l,e.keys,e.rel⟩,s⟩
def tupK{a:Addr}{od:Option Addr}{n:Nat}{sl:Array (Option ao)}{xs:List V}{us:List ao}(l:K.lookup a=some ⟨.type "tuple",od,.seq us.toArray n,sl⟩)(v:aY xs us)(s:us.length<=1000):si K a xs:=
 ⟨_,us.toArray,n,l,rfl,rfl,cF (by simpa using s) (by decide),by simpa using v⟩
def akc{w:ah}{K:aa}{a p0 p1 p2 q0 q1 q2 q3 q4 q5 q6 q7 q8:Addr}{h0 h1 h2:Int}{t0 t1 t2 s0 s1 s2 s3 s4 s5 s6 s7 s8 s9:Tok}{n n0 n1 n2 m0 m1 m2 m3 m4 m5 m6 m7 m8:Nat}{o0 o1 o2 r0 r1 r2 r3 r4 r5 r6 r7 r8:Option Addr}{l0 l1 l2 v0 v1 v2 v3 v4 v5 v6 v7 v8:Array (Option ao)}
  (l:K.lookup a=some ⟨.type "dict",none,.dict #[⟨h0,.str "plain" t0,.ref p0⟩,⟨h1,.str "point" t1,.ref p1⟩,⟨h2,.str "cross" t2,.ref p2⟩] n,#[]⟩)
  (g0:K.lookup p0=some ⟨.type "tuple",o0,.seq #[.ref q0,.ref q1] n0,l0⟩)(g1:K.lookup p1=some ⟨.type "tuple",o1,.seq #[.ref q2,.ref q3,.ref q4] n1,l1⟩)(g2:K.lookup p2=some ⟨.type "tuple",o2,.seq #[.ref q5,.ref q6,.ref q7,.ref q8] n2,l2⟩)
  (k0:K.lookup q0=some ⟨.type "tuple",r0,.seq #[.int 1 s0] m0,v0⟩)(k1:K.lookup q1=some ⟨.type "tuple",r1,.seq #[.int 0 s1] m1,v1⟩)
  (k2:K.lookup q2=some ⟨.type "tuple",r2,.seq #[.int 1 s2,.int 2 s9] m2,v2⟩)(k3:K.lookup q3=some ⟨.type "tuple",r3,.seq #[.int 0 s3] m3,v3⟩)(k4:K.lookup q4=some ⟨.type "tuple",r4,.seq #[.int 0 s4] m4,v4⟩)
  (k5:K.lookup q5=some ⟨.type "tuple",r5,.seq #[.int 1 s5] m5,v5⟩)(k6:K.lookup q6=some ⟨.type "tuple",r6,.seq #[.int 0 s6] m6,v6⟩)(k7:K.lookup q7=some ⟨.type "tuple",r7,.seq #[.int 3 s7] m7,v7⟩)(k8:K.lookup q8=some ⟨.type "tuple",r8,.seq #[.int 2 s8] m8,v8⟩)
  (e0:h0=PyData.keyHash w.params "plain")(e1:h1=PyData.keyHash w.params "point")(e2:h2=PyData.keyHash w.params "cross")(s:(a==sysModules)=false):Nh w K a:=by
 have one:∀{b:Addr} {o:Option Addr} {m:Nat} {i:Int} {t:Tok} {v:Array (Option ao)},K.lookup b=some ⟨.type "tuple",o,.seq #[.int i t] m,v⟩->si K b [V.int i]:=λ{b o m i t v} h=>tupK (us:=[.int i t]) h (.cons ⟨t,rfl⟩ .nil) (Ci rfl);refine⟨⟨[("plain",.ref p0),("point",.ref p1),("cross",.ref p2)],md (es:=[⟨h0,.str "plain" t0,.ref p0⟩,⟨h1,.str "point" t1,.ref p1⟩,⟨h2,.str "cross" t2,.ref p2⟩]) l (.cons e0 rfl (.cons e1 rfl (.cons e2 rfl .nil))) s,λk hk=>?_,λx hx=>?_⟩⟩
 ·match k,hk with
  |0,_=>
   refine⟨p0,[q0,q1],by rfl,tupK (us:=[.ref q0,.ref q1]) g0 (.cons rfl (.cons rfl .nil)) (Ci rfl),rfl,λe b hb=>?_⟩;match e,hb with
   |0,hb=>cases hb;exact one k0
   |1,hb=>cases hb;exact one k1
   |e+2,hb=>simp at hb
  |1,_=>
   refine⟨p1,[q2,q3,q4],by rfl,tupK (us:=[.ref q2,.ref q3,.ref q4]) g1 (.cons rfl (.cons rfl (.cons rfl .nil))) (Ci rfl),rfl,λe b hb=>?_⟩;match e,hb with
   |0,hb=>cases hb;exact tupK (us:=[.int 1 s2,.int 2 s9]) k2 (.cons ⟨s2,rfl⟩ (.cons ⟨s9,rfl⟩ .nil)) (Ci rfl)
   |1,hb=>cases hb;exact one k3
   |2,hb=>cases hb;exact one k4
   |e+3,hb=>simp at hb
  |2,_=>
   refine⟨p2,[q5,q6,q7,q8],by rfl,tupK (us:=[.ref q5,.ref q6,.ref q7,.ref q8]) g2 (.cons rfl (.cons rfl (.cons rfl (.cons rfl .nil)))) (Ci rfl),rfl,λe b hb=>?_⟩;match e,hb with
   |0,hb=>cases hb;exact one k5
   |1,hb=>cases hb;exact one k6
   |2,hb=>cases hb;exact one k7
   |3,hb=>cases hb;exact one k8
   |e+4,hb=>simp at hb
 have a0:x≠"plain":=hx 0 (by decide);have a1:x≠"point":=hx 1 (by decide);have a2:x≠"cross":=hx 2 (by decide);rw[BV,HA a0,BV,HA a1,BV,HA a2];rfl
def akd{w:ah}{K:aa}{a:Addr}{h0 h1 h2:Int}{t0 t1 t2 s0 s1 s2:Tok}{n:Nat}(l:K.lookup a=some ⟨.type "dict",none,.dict #[⟨h0,.str "join" t0,.int 2 s0⟩,⟨h1,.str "border" t1,.int 1 s1⟩,⟨h2,.str "signal" t2,.int 1 s2⟩] n,#[]⟩)
  (e0:h0=PyData.keyHash w.params "join")(e1:h1=PyData.keyHash w.params "border")(e2:h2=PyData.keyHash w.params "signal")(s:(a==sysModules)=false):MD w K a [("join",.int 2),("border",.int 1),("signal",.int 1)]:=
 md (es:=[⟨h0,.str "join" t0,.int 2 s0⟩,⟨h1,.str "border" t1,.int 1 s1⟩,⟨h2,.str "signal" t2,.int 1 s2⟩]) l (.cons e0 ⟨_,rfl⟩ (.cons e1 ⟨_,rfl⟩ (.cons e2 ⟨_,rfl⟩ .nil))) s
def fin{P:af}{w:ah}{K:aa}{mg:Str->Option ao}{fa c1 c2 c3 c4 c5 c6 c7 c8 c9:Addr}(hm:mg "answers"=some (.ref fa))(T:Txt w K mg ⟨c1,c2,c3,c4,c5,c6,c7,c8,c9⟩):∃fd:FuncData,(∀(s:ae) (us:List ao),us.length=(["calls"]:List Str).length->BindsTo s fd ⟨us,[]⟩ ((["calls"]:List Str).zip us))/\∀base:Heap,K.In base->base.Ns mainGlobals mg->hJ P w K mg base lE 25 fa fd ["calls"] (GL K):=by
 obtain⟨f,fd,F,hf⟩:=T.ad0.ex;have e:=hm.symm.trans hf;cases e;obtain⟨oc,od,kV,doc,pm,an,aU,ct,jw,efd,lk,mi⟩:=F.ex;refine⟨fd,λs us hu=>.of_eq ?_,λbase _ _=>?_⟩
 ·rw[efd];exact abK _ _ _ _ _ _ us hu
 exact ajZ T F
end Yd
open PySem PySem.W PyProof.Rows
structure PySem.W.Fast:Prop where(tw10299398013006741031 tw10319490103207315877 tw10445140589225884515 tw1052161412842236986 tw10871897566634430681 tw1090495401941214087 tw11272651060369083053 tw11540948592534092408 tw11602798792354683211 tw11725692447409880249 tw11732179601255472399 tw12287528637493287845 tw12502866857011112677 tw12647537048281393277 tw12779024037107257702 tw12867299244082469943 tw13061708693729570553 tw13352614026701508464 tw1356503191863138479 tw13711498954475317843 tw13852562928442676471 tw13898029987600185528 tw14184935211181410945 tw14535745854401009883 tw14774995811153835291 tw14907621114166204579 tw15020404060799820090 tw15098798858125871124 tw15155542915506049009 tw1519140358002211843 tw15216928967934637819 tw15278811544439239604 tw15296185242651757671 tw1532824919979860098 tw1549385397244764776 tw15555668644664254405 tw15740368888440679945 tw15866292501537663595 tw15994877467456799363 tw16141850954851722332 tw16225551545405140164 tw16393649904780757823 tw16478644821247483863 tw16496432923934369372 tw16505856533788449373 tw16763705113974793267 tw1678747771074433298 tw17085936188256917787 tw17100522162413797888 tw17140056031657594174 tw17210642616731242053 tw17267178071071858871 tw17280007498209635634 tw17457059339972955687 tw17472801180008976283 tw17487586591228441604 tw17488822204278796168 tw17585527130083408874 tw1768955483534751684 tw17697990888111196069 tw17795323305479250667 tw17847209183223755237 tw17876492522315363277 tw18049664148207545354 tw18053228091326832719 tw18135347634055986569 tw18187259936075933463 tw1856472232585256011 tw1986027898897422295 tw2021722964299113445 tw2118045035131069683 tw2179937550598008065 tw2206509103634353673 tw2523913648083648657 tw25958446828414041 tw2646867638070609374 tw2727922305741771332 tw2729106592495724499 tw2879516479224552180 tw2968609958129119617 tw3179877246015047558 tw3410417303785814902 tw34501581697844639 tw3533790494669756624 tw3568212492159556839 tw363883076133834875 tw3813075140205796785 tw4082684103269534816 tw416556373075339111 tw4511522607444477397 tw4541104186747299754 tw4584118157020117343 tw4834803208487172263 tw4861887637149902378 tw4973974556817368793 tw5048982474156755374 tw5117171391799625008 tw5229480571452670819 tw5239795483643112087 tw529264038801778033 tw5350430301235387562 tw5562271238103884953 tw5584264376758295931 tw5649173119874485828 tw577719711271194874 tw6010608753452975054 tw6287864688402076081 tw6628791823220509814 tw6645369816839541808 tw6882908584674758121 tw7180271505995229211 tw7244297668674568688 tw7457100981565279278 tw7458946477777848755 tw7546251272251060088 tw7552230831009490454 tw7630391274124982392 tw8365906384613436014 tw8478358826133640641 tw8485258846067897248 tw8596185957789347213 tw8614993681225518462 tw8680219766439088769 tw8827995148155499721 tw8910326605912439769 tw9015219566197638064 tw9268389010351542120 tw981949489063274467:True)
set_option maxRecDepth 100000 in
set_option maxHeartbeats 0 in
theorem PySem.Challenge.cw_yardtimes_s01_answers_holds : PySem.Challenge.rw_yardtimes_s01_answers.Holds := by
 w_on;k_headS;(case hw=>exact⟨[.list [.int 2,.int 0,.int 0]],by decide +kernel,by decide +kernel⟩)
 k_fillS
 refine L2.Xk (r:=PySem.Challenge.rw_yardtimes_s01_answers) (k:=25) (CX:=L2.lE) (ps:=["calls"]) (sp:=Yd.GL) (by decide +kernel) rfl rfl ⟨rfl,by decide,by decide⟩ (λw h Y=>PySem.W.kIn_of Y) ?F ?S (λ_ _ _ _ z=>z)
 case F=>
  intro w mg fa h Y KX G DA
  refine' Yd.fin DA ⟨?_,?_,?_,?_,?_,?_,?_,?_,?_,?_,?_,?_,?_,?_,?_,?_,?_,?_,?_,?_,?_,?_,?_,?_,?_,?_,?_,?_,?_,?_,?_,?_,?_,?_,?_,?_,?_,?_,?_,?_,?_,?_,?_,?_,?_,?_,?_,?_,?_,?_,?_,?_,?_,?_,?_,?_,?_,?_,?_,?_,?_,?_,?_,?_,?_,?_,?_,?_,?_,?_,?_,?_,?_,?_,?_,?_,?_,?_,?_,?_,?_,?_,?_,?_,?_,?_,?_,?_,?_,?_,?_,?_,?_,?_,?_,?_,?_,?_,?_,?_,?_,?_,?_,?_,?_,?_,?_,?_,?_,?_,?_,?_,?_,?_,?_,?_,?_,?_,?_,?_,?_,?_,?_,?_,?_,?_,?_,?_,?_,?_,?_,?_,?_,?_,?_,?_,?_,?_,?_,?_,?_,?_,?_,?_,?_,?_,?_,?_,?_,?_,?_,?_,?_,?_,?_,?_,?_,?_,?_,?_,?_,?_,?_,?_,?_,?_,?_,?_,?_,?_,?_,?_,?_,?_,?_,?_,?_,?_,?_⟩
  all_goals try dsimp only[L2.cU]
  all_goals first|k_is|(refine' PySem.W.mg_of KX G ?_;k_is)|(refine' PySem.W.mg_none_of KX G ?_;k_is)|(refine'⟨?_,?_,?_,?_⟩<;>k_is)|((first|refine' Yd.gi KX G ?_|refine' Yd.gs KX G ?_|refine' Yd.tf KX G ?_ ?_ ?_ ?_|refine' Yd.tm ?_ ?_ ?_ ?_ ?_|refine' Yd.akc ?_ ?_ ?_ ?_ ?_ ?_ ?_ ?_ ?_ ?_ ?_ ?_ ?_ ?_ ?_ ?_ ?_|refine' Yd.akd ?_ ?_ ?_ ?_ ?_)<;>try first|k_is|rfl)|skip
 case S=>
  intro K H xs a hO Ae GN hx
  cases hx with
  |cons h1 h2=>
   cases h2
   cases h1 with
   |lst hs ha=>
    have e:=L2.KR a.1 _ ha
    subst e
    have q:((Codec.inLen 0 30000 a.1&&a.1.all (Codec.inInt 0 4294967295))&&true)=true:=Ae
    rw[fo,fo]at q
    exact⟨_,a.1,rfl,hs,(Codec.inNat_iff.mp q.1.1).2,GN,λH' p hp=>.lst (L2.aB.of hp) (L2.KQ _)⟩
